import PyProof.Rows.All
import Wide.All
import OpenK.AllK
import Wide.FinOn
import HandS.ForMost
import HandS.Flow
import HandS.IsInst
import HandS.Defaults
import HandS.EndBits
import HandS.Wide
import HandS.Gcd
import HandS.WideBits
import HandS.SortInts
import HandS.Conv
import HandS.TupAny
import HandS.Style
import PyProof.ReprBulk
import HandS.HeadEnd
import HandS.HeadHook1
import HandS.HeadHook2
import HandS.Head0
import HandS.Head1
import HandS.Head2
import HandS.Head3
import PyProof.ReprRoads
import KE.KMathGC
import HandS.Deep
import HandS.Iter
import KE.GoesMore
import HandS.MakeKwOnly
import HandS.Zip
import PyProof.DictUpdate
import HandS.TupSets
import HandS.Set
import KE.KDictList
import HandS.SetFor
import HandS.Strs
import HandS.Exc
import HandS.ExcField
import HandS.ExcIs
import HandS.ExcInit
import KE.KExcIs
import KE.KIsAll
import HandS.ExcOwn
import HandS.WordsExc
import HandS.ExcValue
import HandS.Text
import HandS.Codes
import KE.IntTextText
import HandS.SortRule
import HandS.ReplaceLit
import HandS.ReplaceList
import HandS.Walk
import HandS.FStr
import KE.DataMinMax
import PySem.Challenge.RW_affinewalk_k05_texts_of_maps
set_option Elab.async false
set_option linter.all false
set_option maxRecDepth 100000
set_option maxHeartbeats 2000000
/-! Own layer over HandS: promises of defs that may print lists (the guards that run around are none). -/
namespace Vg
open PySem PySem.Spec PyProof.Rows L2
/-! ### a def's promise where no guard runs around -/
structure FnG (P : Program) (w : World) (K : PySem.W.Frag) (mg : Str → Option Value)
    (base : Heap) (k : Nat) (f : Addr) (fd : FuncData) (ps : List Str) (sp : Sp) : Prop where
  len : ∀ vs H Q E, sp vs H Q E → vs.length = ps.length
  run : ∀ (A : Around) (outer : List Env) (s : Shared) (H : Hp) (args : Args)
    (us : List Value) (vs : List V) (Q : VK),
    A.guards = some [] → Room k A → Env0 P w K mg base A outer s H →
    BindsTo s fd args (ps.zip us) → Vals vs us → sp vs H Q E0 →
    codeAny (model P w) A (.call (.ref f) args) (CR CX0 outer P w H s Q E0) s
section
variable {P : Program} {w : World} {K : PySem.W.Frag} {mg : Str → Option Value} {base : Heap}
theorem FnG.of {k : Nat} {f : Addr} {fd : FuncData} {ps : List Str} {sp : Sp}
    (F : FnOk P w K mg base CX0 k f fd ps sp) : FnG P w K mg base k f fd ps sp :=
  ⟨F.len, fun A outer s H args us vs Q _ hr he hb hv hs =>
    F.run A outer s H args us vs Q E0 hr he hb hv hs⟩
theorem FnG.mono {j k : Nat} {f : Addr} {fd : FuncData} {ps : List Str} {sp : Sp}
    (F : FnG P w K mg base j f fd ps sp) (h : j ≤ k) : FnG P w K mg base k f fd ps sp :=
  ⟨F.len, fun A outer s H args us vs Q hg hr =>
    F.run A outer s H args us vs Q hg (hr.mono h)⟩
/-- the context of a def's body -/
abbrev Cb (P : Program) (w : World) (K : PySem.W.Frag) (mg : Str → Option Value) (base : Heap)
    (N : List Str) (qual : Str) (scope : Scope) (f : Addr) (cdv : Value) (A : Around)
    (outer : List Env) (s : Shared) (H : Hp) : Cx :=
  cxOf CX0 P w K mg base N qual scope f cdv A outer s H E0
/-- the rule for a def -/
theorem FnG.mk_of {x qual : Str} {params : Arguments} {body : List Stmt} {scope : Scope}
    {kws : List (Str × V)} {dvs : List V} {f : Addr} {fd : FuncData} {N ps : List Str} {k : Nat} {sp : Sp}
    (F : FunD K x qual params body scope dvs kws f fd) (S : FnScope N ps scope)
    (len : ∀ vs H Q E, sp vs H Q E → vs.length = ps.length)
    (hbody : ∀ (cdv : Value) (A : Around) (outer : List Env) (s : Shared) (H : Hp)
      (vs : List V) (Q : VK),
      (Cb P w K mg base N qual scope f cdv A outer s H).A.guards = some [] →
      Room k (Cb P w K mg base N qual scope f cdv A outer s H).A → sp vs H Q E0 →
      ∃ t, PSs (Cb P w K mg base N qual scope f cdv A outer s H).nox body t ∧
        t { nx := fun _ H' => Q .non H', rt := Q } (start N vs) H) :
    FnG P w K mg base (k + 1) f fd ps sp := by
  obtain ⟨oc, od, dV, kV, doc, pm, an, cdv, ct, osl, rfl, lk, hcd, _, _⟩ := F.ex
  refine ⟨len, ?_⟩
  intro A outer s H args us vs Q hgu hr e0 hb r hsp
  have hln := len _ _ _ _ hsp
  have old : ∀ b o, base.get? b = some o → s.heap.get? b = some o :=
    fun b o e => (e0.bs b o e).1
  have KX : K.In s.heap := e0.mod.kin.keeps old
  have lim : s.heap.NoLimit := e0.mod.nolimit.keeps old
  have hk : ∀ y ∈ ps.zip us, scope.names.lookup y.1 = some .local ∨
      (scope.names.lookup y.1 = some .cell ∧
        ((cellsFrom (s.heap.objs.size + 1) scope.names []).lookup y.1).isSome = true) := by
    rintro ⟨n, v⟩ hy
    have hp := S.par n (List.of_mem_zip hy).1
    cases hp with
    | inl q => exact Or.inl q
    | inr q => exact Or.inr ⟨q, PySem.W.cellsFrom_some _ _ _ (Or.inl q)⟩
  have hcr := PySem.W.codeRec_of KX hcd
  refine codeAny_call_function hr.depth (KX _ _ lk)
    rfl S.co S.gen rfl hcr (hb _ _ _ _ ?_)
  refine wpAny_newFunctionEnv_cells S.kind hk ?_
  intro env he s1 x
  subst he
  refine ⟨lim.keeps x.toInCall.keep, codeAny_func ?_⟩
  obtain ⟨t, ht, hq⟩ := hbody cdv A outer s H vs Q hgu (hr.deeper _) hsp
  have I := inv_start (CX := CX0) (E := E0) S hr.hd e0 hln r x
  have hrun := ht.nox.run [] s1 (start N vs) H _ I hq
  refine wpAny_mono hrun ?_ fun e s' hs => hs
  intro fl s' hs
  cases fl with
  | brk =>
    obtain ⟨_, _, _, q⟩ := hs
    cases q
  | cont =>
    obtain ⟨_, _, _, q⟩ := hs
    cases q
  | next =>
    obtain ⟨σ', H', J, q⟩ := hs
    exact ⟨V.non, H', J.os, J.bare, J.base, J.hok, rfl, q⟩
  | ret u =>
    obtain ⟨v, σ', H', J, rv, q⟩ := hs
    exact ⟨v, H', J.os, J.bare, J.base, J.hok, rv, q⟩
end
/-! ### a call of such a def -/
/-- a module's def by its name: it keeps the promise sp, at most k deep -/
structure Cal (P : Program) (w : World) (K : PySem.W.Frag) (mg : Str → Option Value)
    (base : Heap) (k : Nat) (x : Str) (ps : List Str) (sp : Sp) : Prop where
  ex : ∃ f fd, FnG P w K mg base k f fd ps sp ∧ mg x = some (.ref f) ∧
    PySem.W.keepIn K (.ref f) = true ∧ Binds K fd ps []
section
variable {X : Cx} {k : Nat} {ps : List Str} {sp : Sp} {x : Str} {p pos : Pos}
  {e : Expr} {es : List Expr} {t : TA}
theorem run_cal {f : Addr} {fd : FuncData} {pins : List (Addr × Obj)} {σ : L2.St} {H : Hp} {s : Shared}
    {Q : VK} {us : List Value} {vs : List V}
    (F : FnG X.prog X.w X.K X.mg X.base k f fd ps sp) (hgu : X.A.guards = some [])
    (hr : Room k X.A) (hb : Binds X.K fd ps []) (I : Inv X pins σ H s) (r : Vals vs us)
    (h : sp vs H Q E0) :
    wpAny (model X.prog X.w) X.A (call (.ref f) us) (EP X pins σ Q) X.xe s := by
  have hl : us.length = ps.length := r.length.symm.trans (F.len _ _ _ _ h)
  have hbs := hb s us I.kIn (by simpa using hl)
  rw [List.append_nil] at hbs
  refine wpAny_call (codeAny_mono
    (F.run X.A X.stack s H ⟨us, []⟩ us vs Q hgu hr I.env0 hbs r h) ?_)
  intro res s' hq
  cases res with
  | error e => exact False.elim hq
  | ok fl =>
    cases fl with
    | next => cases hq
    | brk => cases hq
    | cont => cases hq
    | ret u => exact I.after hq
theorem pe_cal (c : Cal X.prog X.w X.K X.mg X.base k x ps sp) (hgu : X.A.guards = some [])
    (hr : Room k X.A) (ha : PA X (e :: es) t) (hg : Gl X x := by rfl)
    (hdb : (x == ("__debug__" : Str)) = false := by decide)
    (he : starEach (e :: es) X.env = (false, eval e X.env) :: starEach es X.env := by rfl)
    (hpl : (backTo pos (starEach es X.env)).any (·.1) = false := by rfl) :
    PE X (.Call (.Name x p) (e :: es) [] pos) (tCall sp [] E0 t) := by
  obtain ⟨f, fd, F, hm, hk, hb⟩ := c.ex
  constructor
  intro pins s σ H Q I h
  refine wpAny_Call_Name_kw (ld_glob I hg hm ?_ hdb)
  refine PySem.W.callWith_K (h₀ := X.base) I.ok.mod.kin hk (thn (ha.run pos pins s σ H _ I h) ?_) he hpl
  intro us s1 hh
  obtain ⟨vs, H1, I1, r, q⟩ := hh
  rw [List.append_nil] at q
  exact ⟨I1.kIn, run_cal F hgu hr hb I1 r q⟩
theorem pe_cal0 (c : Cal X.prog X.w X.K X.mg X.base k x ps sp) (hgu : X.A.guards = some [])
    (hr : Room k X.A) (hg : Gl X x := by rfl)
    (hdb : (x == ("__debug__" : Str)) = false := by decide) :
    PE X (.Call (.Name x p) [] [] pos) (tCall sp [] E0 tNil) := by
  obtain ⟨f, fd, F, hm, hk, hb⟩ := c.ex
  constructor
  intro pins s σ H Q I h
  refine wpAny_Call_Name_kw (ld_glob I hg hm ?_ hdb)
  have hc := run_cal (us := []) F hgu hr hb I .nil h
  exact PySem.W.callWith_K0 I.kIn hk hc
/-- a module's constant -/
theorem pe_globI {i : Int} (hg : Gl X x) (h : ∃ t, X.mg x = some (.int i t))
    (hdb : (x == ("__debug__" : Str)) = false := by decide) :
    PE X (.Name x pos) (tC (.int i)) := by
  obtain ⟨t, h⟩ := h
  exact pe_glob hg h ⟨t, rfl⟩ hdb
theorem pe_globS {i : Str} (hg : Gl X x) (h : ∃ t, X.mg x = some (.str i t))
    (hdb : (x == ("__debug__" : Str)) = false := by decide) :
    PE X (.Name x pos) (tC (.str i)) := by
  obtain ⟨t, h⟩ := h
  exact pe_glob hg h ⟨t, rfl⟩ hdb
end

/-! ### repr of data: none, bools, ints, texts, lists, tuples at any depth -/
mutual
theorem dp_nod {K : PySem.W.Frag} {H : Hp} : ∀ (d : PyData) (v : V), Dp K H v d → d.hasDict = false
  | .none, _, _ => by simp only [PyData.hasDict]
  | .bool _, _, _ => by simp only [PyData.hasDict]
  | .int _, _, _ => by simp only [PyData.hasDict]
  | .str _, _, _ => by simp only [PyData.hasDict]
  | .list ds, _, h => by
    cases h with
    | lst _ ha =>
      simp only [PyData.hasDict]
      exact dps_nod ds _ ha
  | .tuple ds, _, h => by
    cases h with
    | tup _ ha =>
      simp only [PyData.hasDict]
      exact dps_nod ds _ ha
  | .dict _, _, h => by cases h
theorem dps_nod {K : PySem.W.Frag} {H : Hp} : ∀ (ds : List PyData) (vs : List V), DpAll K H vs ds →
    PyData.hasDictAll ds = false
  | [], _, _ => by simp only [PyData.hasDictAll]
  | d :: ds, _, h => by
    cases h with
    | cons h1 h2 =>
      simp only [PyData.hasDictAll]
      rw [dp_nod d _ h1, dps_nod ds _ h2]
      rfl
end
section
variable {X : Cx}
/-- what repr asks: the data (ints below 2 ^ 1900), its length -/
def rRepr (K : PySem.W.Frag) : List V → Hp → VK → Prop := fun xs H Q =>
  ∃ v d, xs = [v] ∧ Dp K H v d ∧ d.showable = true ∧ d.depth ≤ 60 ∧
    d.shown.length ≤ sizeLine ∧ Q (.str d.shown) H
theorem call_repr (hgu : X.A.guards = some []) (hu : X.A.units + 64 < cLine) :
    CallR X (.builtin "repr") (rRepr X.K) := by
  intro pins s σ H xs us Q I r h
  obtain ⟨v, d, rfl, hd, hs, hdep, hz, q⟩ := h
  obtain ⟨u, rfl, ru⟩ := vals1 r
  obtain ⟨as, R⟩ := Dp.reads I d v u hd ru
  have hno : d.hasDict = true → sysModules ∉ as := fun z => by
    rw [dp_nod d v hd] at z
    cases z
  cases R with
  | none => exact PySem.P.repr_of_none ⟨.str _, H, I.tok _, ⟨_, rfl⟩, q⟩
  | bool b => exact PySem.P.repr_of_bool ⟨.str _, H, I.tok _, ⟨_, rfl⟩, q⟩
  | int i t => exact PySem.P.repr_of_int (of_decide_eq_true hs) ⟨.str _, H, I.tok _, ⟨_, rfl⟩, q⟩
  | str x t => exact PySem.P.repr_of_str ⟨.str _, H, I.tok _, ⟨_, rfl⟩, q⟩ hz
  | list h1 h2 h3 h4 =>
    exact repr_of_reads' (.list h1 h2 h3 h4) hs hno hgu (by omega) (fun _ _ e => e)
      (fun h' uu tk kk => ⟨.str _, H, I.kept kk, ⟨_, rfl⟩, q⟩) hz
  | tuple h1 h2 h3 h4 =>
    exact repr_of_reads' (.tuple h1 h2 h3 h4) hs hno hgu (by omega) (fun _ _ e => e)
      (fun h' uu tk kk => ⟨.str _, H, I.kept kk, ⟨_, rfl⟩, q⟩) hz
  | dict h1 h2 h3 h4 h5 => cases hd
end

/-! ### the law's call, from the promise of the law's def -/
/-- the law's def, at the heap in which nothing but the script may be tracked -/
theorem law_runG {P : Program} {w : World} {K : PySem.W.Frag} {mg mb : Str → Option Value} {k : Nat}
    {fa a : Addr} {fd : FuncData} {x : Str} {sp : Sp} {s₁ : Shared} {vs : List Value} {H : Hp}
    (KX : K.In s₁.heap) (hns : s₁.heap.Ns mainGlobals mg) (hb : s₁.heap.Ns builtinsNs mb)
    (hbb : ∀ x : Str, x ≠ "__name__" → mb x = bootBuiltins x)
    (hlim : s₁.heap.NoLimit) (hg : s₁.gens = #[])
    (ha : s₁.heap.get? a = some { cls := .type "list", data := .seq vs.toArray })
    (hr : Room k callerA)
    (F : ∀ base : Heap, K.In base → base.Ns mainGlobals mg → FnG P w K mg base k fa fd [x] sp)
    (hbind : ∀ (s : Shared) (u : Value), BindsTo s fd ⟨[u], []⟩ [(x, u)])
    (hsp : sp [.ref a] H (fun v _ => v = .bl true) E0)
    (hO : Only H) (hok : HOk P w H s₁.heap) (hA : ∀ b, H b ≠ none → b = a)
    (hK : H a ≠ none → K.lookup a = none) :
    codeAny (model P w) callerA (.call (.ref fa) ⟨[.ref a], []⟩)
      (fun r s' => r = .ok (.ret (.bool true)) ∧ OldK s₁.heap s'.heap ∧ s'.os = s₁.os ∧
        AllBare s'.gens) s₁ := by
  have tracked : ∀ {b : Addr}, b ≠ a → H b = none := by
    intro b ne
    cases q : H b with
    | none => rfl
    | some u => exact absurd (hA b (by rw [q]; simp)) ne
  have low : ∀ {b : Addr} {o : Obj}, s₁.heap.get? b = some o → H b = none →
      (hidT s₁.heap H).get? b = some o := by
    intro b o e n
    exact hidT_get e n
  have dictFree : ∀ {b : Addr} {o : Obj} {es : Array DictEntry} {ep : Nat},
      s₁.heap.get? b = some o → o.data = .dict es ep → H b = none := by
    intro b o es ep e d
    refine tracked ?_
    intro z
    rw [z, ha] at e
    cases e
    cases d
  have nsLow : ∀ {b : Addr} {m : Str → Option Value}, s₁.heap.Ns b m → (hidT s₁.heap H).Ns b m := by
    intro b m z
    obtain ⟨o, es, ep, e, d, r⟩ := z
    exact ⟨o, es, ep, low e (dictFree e d), d, r⟩
  have kLow : K.In (hidT s₁.heap H) := by
    intro b o e
    refine low (KX b o e) ?_
    cases q : H b with
    | none => rfl
    | some u =>
      have eb : b = a := hA b (by rw [q]; simp)
      have hn : K.lookup a = none := hK (by rw [← eb, q]; simp)
      rw [eb, hn] at e
      cases e
  have limLow : (hidT s₁.heap H).NoLimit := by
    obtain ⟨mc, h1, h2⟩ := hlim
    exact ⟨mc, nsLow h1, h2⟩
  have hM : Mod K mg (hidT s₁.heap H) := ⟨kLow, nsLow hns, ⟨mb, nsLow hb, hbb⟩, limLow⟩
  have e0 : Env0 P w K mg (hidT s₁.heap H) callerA [] s₁ H :=
    { frames := rfl, mod := hM, bs := fun b o e => of_hidT e,
      bsz := Nat.le_of_eq (hidT_size _ _), funs := trivial,
      frf := (fun b z => by cases z), hok := hok, bare := .of_eq hg }
  have run := (F _ kLow (nsLow hns)).run callerA [] s₁ H ⟨[.ref a], []⟩ [.ref a] [.ref a] _
    rfl hr e0 (hbind s₁ (.ref a)) (.cons rfl .nil) hsp
  refine codeAny_mono run ?_
  intro r s' h
  cases r with
  | error e => cases h
  | ok fl =>
    cases fl with
    | next => cases h
    | brk => cases h
    | cont => cases h
    | ret u =>
      obtain ⟨v, H', hos, bare, un, hok', r', q⟩ := h
      have ev : v = .bl true := q
      rw [ev] at r'
      have eu : u = Value.bool true := r'
      refine ⟨by rw [eu], OldK.of_keep ?_, hos, bare⟩
      intro b o e
      cases q2 : H b with
      | none => exact un.keep b o e q2 (by intro z; cases z) (by intro z; cases z)
      | some u2 =>
        cases hO b with
        | inl z => rw [q2] at z; cases z
        | inr z =>
          obtain ⟨ob, xs, z⟩ := z
          obtain ⟨e1, _⟩ := hok b _ z
          obtain ⟨e2, _⟩ := hok' b _ (un.frzs b ob _ z)
          rw [e] at e1
          cases e1
          exact e2
theorem law_callG {P : Program} {w : World} {K : PySem.W.Frag} {mg mb : Str → Option Value} {k : Nat}
    {fa a : Addr} {fd : FuncData} {x : Str} {sp : Sp} {s₁ : Shared} {vs : List Value} {ns : List Int}
    (KX : K.In s₁.heap) (hns : s₁.heap.Ns mainGlobals mg) (hb : s₁.heap.Ns builtinsNs mb)
    (hbb : ∀ x : Str, x ≠ "__name__" → mb x = bootBuiltins x)
    (hlim : s₁.heap.NoLimit) (hg : s₁.gens = #[])
    (ha : s₁.heap.get? a = some { cls := .type "list", data := .seq vs.toArray })
    (hi : IntsAre vs ns) (hl : ns.length ≤ sizeLine) (hr : Room k callerA)
    (F : ∀ base : Heap, K.In base → base.Ns mainGlobals mg → FnG P w K mg base k fa fd [x] sp)
    (hbind : ∀ (s : Shared) (u : Value), BindsTo s fd ⟨[u], []⟩ [(x, u)])
    (hsp : ∀ H : Hp, Only H → SqL K H a (ns.map V.int) → sp [.ref a] H (fun v _ => v = .bl true) E0) :
    codeAny (model P w) callerA (.call (.ref fa) ⟨[.ref a], []⟩)
      (fun r s' => r = .ok (.ret (.bool true)) ∧ OldK s₁.heap s'.heap ∧ s'.os = s₁.os ∧
        AllBare s'.gens) s₁ := by
  have rv := vals_ints hi
  have lenV := hi.length
  cases hk : K.lookup a with
  | some o =>
    have e := KX a o hk
    rw [ha] at e
    have eo := Option.some.inj e
    have hS : SqL K (fun _ => none) a (ns.map V.int) :=
      .inr ⟨_, vs.toArray, _, hk, by rw [← eo], by rw [← eo], by rw [← eo],
        by rw [List.size_toArray, lenV]; exact hl, by simpa using rv⟩
    exact law_runG KX hns hb hbb hlim hg ha hr F hbind (hsp _ (fun _ => .inl rfl) hS) (fun _ => .inl rfl)
      (fun b u z => by cases z) (fun b z => absurd rfl z) (fun z => absurd rfl z)
  | none =>
    let ob : Obj := { cls := .type "list", data := .seq vs.toArray }
    let H : Hp := fun b => if b = a then some (.frz ob (.lst (ns.map V.int))) else none
    have hH : H a = some (.frz ob (.lst (ns.map V.int))) := if_pos rfl
    have hO : Only H := by
      intro b
      by_cases eb : b = a
      · exact .inr ⟨_, _, if_pos eb⟩
      · exact .inl (if_neg eb)
    have hok : HOk P w H s₁.heap := by
      intro b u z
      by_cases eb : b = a
      · rw [eb, hH] at z
        cases z
        rw [eb]
        exact ⟨ha, by rw [List.length_map]; exact hl, vs, _, rv, ha⟩
      · have z' : H b = none := if_neg eb
        rw [z'] at z
        cases z
    have hA : ∀ b, H b ≠ none → b = a := by
      intro b z
      by_cases eb : b = a
      · exact eb
      · exact absurd (if_neg eb) z
    exact law_runG KX hns hb hbb hlim hg ha hr F hbind (hsp H hO (.inl (.inr ⟨ob, hH⟩))) hO hok hA
      (fun _ => hk)
/-- the end of a law's row over a head by facts; the script's bits are told -/
theorem walkG {l : PySem.W.OpenLaw} {n k : Nat} {q : Program} {loose : List Str}
    {XP : (Str → Option Value) → Heap → Prop} {YP : World → Heap → Prop} {d : DefRec} {x : Str}
    (hn : l.most = some n) (hn2 : n ≤ sizeLine) (hdf : d.params.defaults = []) (hr : Room k callerA)
    (F : ∀ (w : World) (mg : Str → Option Value) (fa : Addr) (h : Heap), YP w h →
      h.Ns mainGlobals mg → mg d.name = some (.ref fa) →
      ∃ (K : PySem.W.Frag) (fd : FuncData) (sp : Sp), K.In h ∧
        (∀ (s : Shared) (u : Value), BindsTo s fd ⟨[u], []⟩ [(x, u)]) ∧
        (∀ (H : Hp) (a : Addr) (ns : List Int), ns.length ≤ n →
          (∀ z ∈ ns, Builtin.Int.intBits z ≤ 1048576) → Only H → SqL K H a (ns.map V.int) →
          sp [.ref a] H (fun v _ => v = .bl true) E0) ∧
        ∀ base : Heap, K.In base → base.Ns mainGlobals mg →
          FnG l.prog w K mg base k fa fd [x] sp) :
    PySem.W.WalkO q loose XP YP l.row.toRowW d [] (fun f vs => PySem.call f vs) := by
  refine Att.attach_callB hn hdf ?_
  intro w s₀ s₁ mg mb fa o pm cd doc a vs ns G Y ho hd hcd hmg hobj hints hlen hbits hg
  obtain ⟨K, fd, sp, KX, hb, hsp, hF⟩ := F w mg fa _ Y G.T.g hmg
  exact law_callG KX G.T.g G.T.b G.T.builtins G.T.nolimit hg hobj hints (Nat.le_trans hlen hn2) hr hF hb
    (fun H hO hS => hsp H a ns hlen hbits hO hS)
end Vg

set_option Elab.async false
set_option linter.all false
set_option maxRecDepth 100000
set_option maxHeartbeats 2000000
namespace Vg
open PySem PySem.Spec PyProof.Rows L2
/-! ### the head's facts: predicates of the written part, and the defs -/
def seenX (fs : List (PySem.W.Frag → Bool)) (fn : List He.DefD) (K : PySem.W.Frag) : He.AlD :=
  ((fs.all fun f => f K) && (fn.all fun d => d.ok K), fn.map fun d => He.fnW K d.at_)
def SaysX (fs : List (PySem.W.Frag → Bool)) (fn : List He.DefD) (K : PySem.W.Frag) : Prop :=
  seenX fs fn K = He.valD fn
def seenG (n : Nat) (fs : List (PySem.W.Frag → Bool)) (fn : List He.DefD) (g : Addr → Option Obj) : He.AlD :=
  seenX fs fn (He.frG g (He.asD g n))
def hookX (n : Nat) (fs : List (PySem.W.Frag → Bool)) (fn : List He.DefD) : PySem.W.Hook where
  α := He.AlD
  obs := fun s => seenG n fs fn s.heap.get?
  val := fun _ => He.valD fn
  says := fun _ h => ∃ K : PySem.W.Frag, K.In h ∧ SaysX fs fn K
  of := fun _ _ e => ⟨_, He.frG_in, e⟩
  keeps := fun _ _ _ z k => by
    obtain ⟨K, hK, c⟩ := z
    exact ⟨K, PySem.W.Frag.In.keeps hK k, c⟩
theorem seenG_eq {n : Nat} {fs : List (PySem.W.Frag → Bool)} {fn : List He.DefD} {g : Addr → Option Obj}
    {s : Shared} (h : ∀ a, g a = s.heap.get? a) : seenG n fs fn g = (hookX n fs fn).obs s := by
  have e : g = s.heap.get? := funext h
  subst e
  rfl
section
variable {fs : List (PySem.W.Frag → Bool)} {fn : List He.DefD} {K : PySem.W.Frag}
theorem SaysX.both (c : SaysX fs fn K) : (fs.all fun f => f K) = true ∧ (fn.all fun d => d.ok K) = true := by
  have e : ((fs.all fun f => f K) && (fn.all fun d => d.ok K)) = true :=
    congrArg (fun z : He.AlD => z.1) (show seenX fs fn K = He.valD fn from c)
  exact Bool.and_eq_true_iff.mp e
theorem SaysX.fact (c : SaysX fs fn K) (i : Nat) {f : PySem.W.Frag → Bool} (h : fs[i]? = some f := by rfl) :
    f K = true := List.all_eq_true.mp c.both.1 f (List.mem_of_getElem? h)
theorem SaysX.def_ (c : SaysX fs fn K) (i : Nat) {d : He.DefD} (h : fn[i]? = some d := by rfl) :
    ∃ fd, FunD K d.name d.qual d.params d.body d.scope (d.dvs K) (d.kws K) (He.fAd K d.at_) fd := by
  have e : fn.map (fun d => He.fnW K d.at_) = fn.map He.DefD.val :=
    congrArg (fun z : He.AlD => z.2) (show seenX fs fn K = He.valD fn from c)
  have e2 := congrArg (fun z => z[i]?) e
  simp only [List.getElem?_map, h, Option.map_some, Option.some.injEq] at e2
  exact He.DefD.funD e2 (List.all_eq_true.mp c.both.2 d (List.mem_of_getElem? h))
end
/-- a def of the text, without defaults, as the module's name x -/
def dOf (x : Str) (st : Stmt) : He.DefD := ⟨(x, none), x, x, defArgs st, defBody st, defScope st, [], []⟩
def DefAt (K : PySem.W.Frag) (mg : Str → Option Value) (x : Str) (st : Stmt) : Prop :=
  ∃ fd, FunD K x x (defArgs st) (defBody st) (defScope st) [] [] (He.ga K x) fd ∧
    mg x = some (.ref (He.ga K x))
theorem defAt {fs : List (PySem.W.Frag → Bool)} {fn : List He.DefD} {K : PySem.W.Frag} {h : Heap}
    {mg : Str → Option Value} (X : K.In h) (G : h.Ns mainGlobals mg) (c : SaysX fs fn K) {x : Str} {st : Stmt}
    (i : Nat) (j : Nat) (hd : fn[i]? = some (dOf x st) := by rfl)
    (hg : fs[j]? = some (fun K => (He.Fa.glo x).ok K) := by rfl) : DefAt K mg x st := by
  obtain ⟨fd, F⟩ := c.def_ i hd
  exact ⟨fd, F, He.glo_ok X G (c.fact j hg)⟩
section
variable {P : Program} {w : World} {K : PySem.W.Frag} {mg : Str → Option Value} {base : Heap}
theorem cal_mk {x : Str} {st : Stmt} {N ps : List Str} {k : Nat} {sp : Sp} (D : DefAt K mg x st)
    (S : FnScope N ps (defScope st))
    (hb : ∀ (dV kV doc pm : Value) (an : Option Addr) (cdv ct : Value) (us : List Value), us.length = ps.length →
      bindArgs (PySem.W.fnOf x x (defArgs st) (defBody st) (defScope st) .none kV doc pm an cdv ct) ⟨us, []⟩
        = pure (ps.zip us))
    (len : ∀ vs H Q E, sp vs H Q E → vs.length = ps.length)
    (hbody : ∀ (f : Addr) (cdv : Value) (A : Around) (outer : List Env) (s : Shared) (H : Hp)
      (vs : List V) (Q : VK),
      (Cb P w K mg base N x (defScope st) f cdv A outer s H).A.guards = some [] →
      Room k (Cb P w K mg base N x (defScope st) f cdv A outer s H).A → sp vs H Q E0 →
      ∃ t, PSs (Cb P w K mg base N x (defScope st) f cdv A outer s H).nox (defBody st) t ∧
        t { nx := fun _ H' => Q .non H', rt := Q } (start N vs) H) :
    Cal P w K mg base (k + 1) x ps sp := by
  obtain ⟨fd, F, hm⟩ := D
  refine ⟨_, fd, FnG.mk_of F S len (hbody _), hm, F.kp, ?_⟩
  exact F.bindsN fun kV doc pm an cdv ct us hl => hb .none kV doc pm an cdv ct us hl
theorem Cal.mono {x : Str} {ps : List Str} {j k : Nat} {sp : Sp} (c : Cal P w K mg base j x ps sp)
    (h : j ≤ k) : Cal P w K mg base k x ps sp := by
  obtain ⟨f, fd, F, r⟩ := c.ex
  exact ⟨f, fd, F.mono h, r⟩
end
end Vg

set_option Elab.async false
set_option linter.all false
set_option maxRecDepth 100000
set_option maxHeartbeats 2000000
namespace Vg
open PySem PySem.Spec PyProof.Rows L2
/-! ### heaps -/
/-- all that was tracked, but what stands at p, is as it was -/
def But (p : Addr) (H H' : Hp) : Prop := ∀ b o, b ≠ p → H b = some o → H' b = some o
theorem But.refl (p : Addr) (H : Hp) : But p H H := fun _ _ _ h => h
theorem But.trans {p : Addr} {H H1 H2 : Hp} (a : But p H H1) (b : But p H1 H2) : But p H H2 :=
  fun c o n h => b c o n (a c o n h)
theorem But.of {p : Addr} {H H' : Hp} (a : Same H H') : But p H H' := fun b o _ h => a b o h
theorem But.at_ {p : Addr} {H : Hp} {o : HO} : But p H (upd H p o) := fun b u n h => by
  rw [upd_ne n]; exact h
theorem sm_new {H : Hp} {p : Addr} {o : HO} (h : H p = none) : Same H (upd H p o) := fun b u e => by
  rw [upd_ne (ne_of_none e h)]; exact e
theorem But.new {q p : Addr} {H : Hp} {o : HO} (h : H p = none) : But q H (upd H p o) := But.of (sm_new h)
theorem sm_nw {H0 H : Hp} {p : Addr} {o : HO} (a : Same H0 H) (h : H p = none) : Same H0 (upd H p o) := a.trans (sm_new h)
theorem But.nw {q : Addr} {H0 H : Hp} {p : Addr} {o : HO} (a : But q H0 H) (h : H p = none) : But q H0 (upd H p o) := a.trans (But.new h)
/-- a place that was free may be written -/
theorem sm_own {H0 H : Hp} {p : Addr} {o : HO} (a : Same H0 H) (h : H0 p = none) : Same H0 (upd H p o) := fun b u e => by
  rw [upd_ne (ne_of_none e h)]; exact a b u e
theorem But.own {q : Addr} {H0 H : Hp} {p : Addr} {o : HO} (a : But q H0 H) (h : H0 p = none) : But q H0 (upd H p o) := fun b u n e => by
  rw [upd_ne (ne_of_none e h)]; exact a b u n e
theorem But.wr {q : Addr} {H0 H : Hp} {o : HO} (a : But q H0 H) : But q H0 (upd H q o) := fun b u n e => by
  rw [upd_ne n]; exact a b u n e
theorem But.seq {K : PySem.W.Frag} {p a : Addr} {H H' : Hp} {xs : List V} (e : But p H H') (n : a ≠ p)
    (h : SqL K H a xs) : SqL K H' a xs := by
  rcases h with (h | ⟨o, h⟩) | h
  · exact .inl (.inl (e _ _ n h))
  · exact .inl (.inr ⟨o, e _ _ n h⟩)
  · exact .inr h
theorem But.tup {K : PySem.W.Frag} {p a : Addr} {H H' : Hp} {xs : List V} (e : But p H H') (n : a ≠ p)
    (h : SqT K H a xs) : SqT K H' a xs := by
  rcases h with (h | ⟨o, h⟩) | h
  · exact .inl (.inl (e _ _ n h))
  · exact .inl (.inr ⟨o, e _ _ n h⟩)
  · exact .inr h
theorem sm_tup {K : PySem.W.Frag} {a : Addr} {H H' : Hp} {xs : List V} (e : Same H H')
    (h : SqT K H a xs) : SqT K H' a xs := by
  rcases h with (h | ⟨o, h⟩) | h
  · exact .inl (.inl (e _ _ h))
  · exact .inl (.inr ⟨o, e _ _ h⟩)
  · exact .inr h
theorem But.free {p l : Addr} {H H' : Hp} (e : But p H H') (n : l ≠ p) (h : H' l = none) : H l = none := by
  cases q : H l with
  | none => rfl
  | some o => rw [e l o n q] at h; cases h
/-- a list's address is no dict's -/
theorem ne_dl {H : Hp} {a p : Addr} {xs : List V} {kvs : List (Key × V)} (h : H a = some (.lst xs))
    (hp : H p = some (.dK kvs)) : a ≠ p := ne_of h hp (by intro z; cases z)
theorem ne_dt {H : Hp} {a p : Addr} {xs : List V} {kvs : List (Key × V)} (h : H a = some (.tup xs))
    (hp : H p = some (.dK kvs)) : a ≠ p := ne_of h hp (by intro z; cases z)
/-! ### the pen -/
def penD (L : Addr) (t r : Int) : List (Key × V) :=
  [(.inr "cells", .ref L), (.inr "turn", .int t), (.inr "rest", .int r)]
theorem pen_cells (L : Addr) (t r : Int) : valV (penD L t r) (.inr "cells") = some (.ref L) := by
  simp [penD, valV, List.find?]
theorem pen_turn (L : Addr) (t r : Int) : valV (penD L t r) (.inr "turn") = some (.int t) := by
  have h : ¬ (("cells" : Str) = "turn") := by decide +kernel
  simp [penD, valV, List.find?, h]
theorem pen_rest (L : Addr) (t r : Int) : valV (penD L t r) (.inr "rest") = some (.int r) := by
  have h : ¬ (("cells" : Str) = "rest") := by decide +kernel
  have h2 : ¬ (("turn" : Str) = "rest") := by decide +kernel
  simp [penD, valV, List.find?, h, h2]
theorem pen_putT (L : Addr) (t r u : Int) : putK (penD L t r) (.inr "turn") (.int u) = penD L u r := by
  have h : ¬ (("cells" : Str) = "turn") := by decide +kernel
  have h2 : ¬ (("rest" : Str) = "turn") := by decide +kernel
  simp [penD, putK, h, h2]
theorem pen_putR (L : Addr) (t r u : Int) : putK (penD L t r) (.inr "rest") (.int u) = penD L t u := by
  have h : ¬ (("cells" : Str) = "rest") := by decide +kernel
  have h2 : ¬ (("turn" : Str) = "rest") := by decide +kernel
  simp [penD, putK, h, h2]
theorem pen_merge (L : Addr) (t r : Int) : mergeK [] (penD L t r) = penD L t r := by
  have h : ¬ (("cells" : Str) = "turn") := by decide +kernel
  have h2 : ¬ (("cells" : Str) = "rest") := by decide +kernel
  have h3 : ¬ (("turn" : Str) = "rest") := by decide +kernel
  simp [penD, mergeK, putK, h, h2, h3]
theorem cut_take (ns : List Int) : cutV (ns.map V.int) none (some 63) = (ns.take 63).map V.int := by
  unfold cutV HT.sIx
  simp [List.map_take]
/-- a pen at p, its cells at L, that has taken at most n cells -/
def PenAt (H : Hp) (p L : Addr) (n : Nat) : Prop := ∃ (cs : List Int) (t r : Int),
  H p = some (.dK (penD L t r)) ∧ H L = some (.lst (cs.map V.int)) ∧ cs.length ≤ 63 ∧ 0 ≤ t ∧ t ≤ n ∧ 0 ≤ r
section
variable {H H' : Hp} {p L a : Addr} {n m : Nat} {xs ys : List V}
theorem PenAt.mono (h : PenAt H p L n) (l : n ≤ m) : PenAt H p L m := by
  obtain ⟨cs, t, r, h1, h2, h3, h4, h5, h6⟩ := h
  exact ⟨cs, t, r, h1, h2, h3, h4, by omega, h6⟩
theorem PenAt.same (h : PenAt H p L n) (e : Same H H') : PenAt H' p L n := by
  obtain ⟨cs, t, r, h1, h2, h3⟩ := h
  exact ⟨cs, t, r, e _ _ h1, e _ _ h2, h3⟩
theorem PenAt.new {o : HO} (h : PenAt H p L n) (e : H a = none) : PenAt (upd H a o) p L n := h.same (sm_new e)
theorem PenAt.some_ (h : PenAt H p L n) : ∃ kvs, H p = some (.dK kvs) := by
  obtain ⟨cs, t, r, h1, _⟩ := h
  exact ⟨_, h1⟩
theorem PenAt.someL (h : PenAt H p L n) : ∃ cs, H L = some (.lst cs) := by
  obtain ⟨cs, t, r, _, h1, _⟩ := h
  exact ⟨_, h1⟩
theorem PenAt.ne_l (h : PenAt H p L n) (ha : H a = some (.lst xs)) : a ≠ p := by
  obtain ⟨_, hp⟩ := h.some_
  exact ne_dl ha hp
theorem PenAt.ne_t (h : PenAt H p L n) (ha : H a = some (.tup xs)) : a ≠ p := by
  obtain ⟨_, hp⟩ := h.some_
  exact ne_dt ha hp
theorem PenAt.ne_n (h : PenAt H p L n) (ha : H a = none) : a ≠ p := by
  obtain ⟨_, hp⟩ := h.some_
  exact (ne_of_none hp ha).symm
theorem PenAt.ne_nL (h : PenAt H p L n) (ha : H a = none) : a ≠ L := by
  obtain ⟨_, hp⟩ := h.someL
  exact (ne_of_none hp ha).symm
/-- what is written apart from the pen and its cells -/
theorem PenAt.wr {o : HO} (h : PenAt H p L n) (ha : a ≠ p) (hL : a ≠ L) : PenAt (upd H a o) p L n := by
  obtain ⟨cs, t, r, h1, h2, h3⟩ := h
  exact ⟨cs, t, r, (upd_ne ha.symm).trans h1, (upd_ne hL.symm).trans h2, h3⟩
end
/-! ### the promises of the pen's defs -/
def sp_pen (K : PySem.W.Frag) : Sp := fun vs H Q _ => ∃ (a : Addr) (ns : List Int), vs = [.ref a] ∧
  SqL K H a (ns.map V.int) ∧ ns.length ≤ 63 ∧ ∀ H' p L, Same H H' → H p = none → H L = none → PenAt H' p L 0 → Q (.ref p) H'
def sp_draw : Sp := fun vs H Q _ => ∃ (p L : Addr) (n : Nat) (many : Int), vs = [.ref p, .int many] ∧ PenAt H p L n ∧
  n ≤ 100000000 ∧ 0 < many ∧ many.natAbs.log2 < 9000 ∧
  ∀ H' d, But p H H' → PenAt H' p L (n + 1) → 0 ≤ d → d < many → Q (.int d) H'
/-- an item of the list, tuple -/
def sp_pick (K : PySem.W.Frag) : Sp := fun vs H Q _ => ∃ (p L a : Addr) (n : Nat) (xs : List V), vs = [.ref p, .ref a] ∧ PenAt H p L n ∧
  n ≤ 100000000 ∧ (SqL K H a xs ∨ SqT K H a xs) ∧ a ≠ p ∧ 0 < xs.length ∧ xs.length ≤ 1000000 ∧
  ∀ H' v, But p H H' → PenAt H' p L (n + 1) → v ∈ xs → Q v H'
/-- the ints in another order, each at most once -/
def sp_shuffled (K : PySem.W.Frag) : Sp := fun vs H Q _ => ∃ (p L a : Addr) (n : Nat) (ns : List Int), vs = [.ref p, .ref a] ∧ PenAt H p L n ∧
  n + ns.length ≤ 100000000 ∧ SqL K H a (ns.map V.int) ∧ ns.length ≤ 1000 ∧
  ∀ H' l (ms : List Int), But p H H' → PenAt H' p L (n + ns.length) → H l = none → H' l = some (.lst (ms.map V.int)) → ms.Perm ns → Q (.ref l) H'
theorem len_log {n : Nat} (r : n ≤ 1000000) (h : 0 < n) : ((n : Nat) : Int).natAbs.log2 < 9000 := by
  have h1 : ((n : Nat) : Int).natAbs < 2 ^ 64 := by
    have e : (2 : Nat) ^ 64 = 18446744073709551616 := by decide
    omega
  exact Nat.lt_of_lt_of_le (PySem.Flt.log2_lt_of (by decide) h1) (by decide)
theorem log_lt {m : Int} (h : m < 18446744073709551616) (h0 : 0 < m) : m.natAbs.log2 < 9000 := by
  have h1 : m.natAbs < 2 ^ 64 := by
    have e : (2 : Nat) ^ 64 = 18446744073709551616 := by decide
    omega
  exact Nat.lt_of_lt_of_le (PySem.Flt.log2_lt_of (by decide) h1) (by decide)
/-- a remainder by five picks one of five -/
theorem pick5 {a b c d e : Int} {t : Int} (P : Int → Prop) (ha : P a) (hb : P b) (hc : P c) (hd : P d) (he : P e) (ht : 0 ≤ t) :
    ∃ v, atI [V.int a, .int b, .int c, .int d, .int e] (t.fmod 5) = some (.int v) ∧ P v := by
  rw [Int.fmod_eq_emod_of_nonneg _ (by decide)]
  have h0 := Int.emod_nonneg t (by decide : (5 : Int) ≠ 0)
  have h1 := Int.emod_lt_of_pos t (by decide : (0 : Int) < 5)
  generalize t % 5 = k at *
  have hk : k = 0 ∨ k = 1 ∨ k = 2 ∨ k = 3 ∨ k = 4 := by omega
  rcases hk with rfl | rfl | rfl | rfl | rfl
  · exact ⟨a, rfl, ha⟩
  · exact ⟨b, rfl, hb⟩
  · exact ⟨c, rfl, hc⟩
  · exact ⟨d, rfl, hd⟩
  · exact ⟨e, rfl, he⟩
theorem fmod_b {a b : Int} (h : 0 < b) : 0 ≤ a.fmod b ∧ a.fmod b < b :=
  ⟨Int.fmod_nonneg_of_pos a h, Int.fmod_lt_of_pos a h⟩
theorem fdiv_nn {a b : Int} (h : 0 ≤ a) (hb : 0 < b) : 0 ≤ a.fdiv b := Int.fdiv_nonneg h (by omega)
theorem at_mod {xs : List Int} {t : Int} (h : 0 < xs.length) : ∃ v, atI (xs.map V.int) (t.fmod ((xs.map V.int).length : Int)) = some (.int v) := by
  have hb := fmod_b (a := t) (b := (xs.length : Int)) (by omega)
  rw [List.length_map]
  obtain ⟨j, hj⟩ : ∃ j : Nat, t.fmod (xs.length : Int) = (j : Int) := ⟨(t.fmod (xs.length : Int)).toNat, by omega⟩
  rw [hj]
  have hj2 : j < xs.length := by omega
  exact ⟨xs[j], atI_nat (by rw [List.getElem?_map, List.getElem?_eq_getElem hj2]; rfl)⟩
/-- a product of two below 2 ^ 31 -/
theorem mul31 {a b : Int} (h0 : 0 ≤ a) (h1 : a < 2147483648) (h2 : 0 ≤ b) (h3 : b < 2147600000) : 0 ≤ a * b ∧ a * b < 4611686018427387904 * 2 := by
  refine ⟨Int.mul_nonneg h0 h2, ?_⟩
  have := Int.mul_le_mul (by omega : a ≤ 2147483647) (by omega : b ≤ 2147600000) h2 (by decide)
  omega
theorem at_in {xs : List V} {i : Int} (h0 : 0 ≤ i) (h1 : i < (xs.length : Int)) : ∃ v, atI xs i = some v ∧ v ∈ xs := by
  obtain ⟨j, rfl⟩ : ∃ j : Nat, i = (j : Int) := ⟨i.toNat, by omega⟩
  have hj2 : j < xs.length := by omega
  exact ⟨xs[j], atI_nat (List.getElem?_eq_getElem hj2), List.getElem_mem hj2⟩
end Vg

set_option Elab.async false
set_option linter.all false
set_option maxRecDepth 100000
set_option maxHeartbeats 2000000
namespace Vg
open PySem PySem.Spec PyProof.Rows L2
/-! ### lists of ints as data -/
theorem dp_ints {K : PySem.W.Frag} {H : Hp} : ∀ ns : List Int, DpAll K H (ns.map V.int) (ns.map PyData.int)
  | [] => .nil
  | n :: r => .cons (.int n) (dp_ints r)
theorem lay_ints : ∀ ns : List Int, PyData.canLayAll0 (ns.map PyData.int) = true
  | [] => by simp [PyData.canLayAll0]
  | n :: r => by
    have h := lay_ints r
    simp only [List.map_cons, PyData.canLayAll0, PyData.canLay0, h, Bool.and_self]
theorem depth_ints : ∀ ns : List Int, PyData.depthAll (ns.map PyData.int) = 0
  | [] => by simp [PyData.depthAll]
  | n :: r => by
    have h := depth_ints r
    simp only [List.map_cons, PyData.depthAll, PyData.depth, h, Nat.max_self]
theorem shaped_ints (ns : List Int) : SeqAt.shaped (.list (ns.map PyData.int)) = true := by
  unfold SeqAt.shaped
  rw [show PyData.canLay0 (.list (ns.map PyData.int)) = true by simp only [PyData.canLay0]; exact lay_ints ns,
    show PyData.depth (.list (ns.map PyData.int)) = 1 by simp only [PyData.depth]; rw [depth_ints]]
  rfl
theorem eqv_nil (ns : List Int) : PyData.eqv (.list (ns.map PyData.int)) (.list []) = ns.isEmpty := by
  cases ns with
  | nil => simp [PyData.eqv, PyData.eqvAll]
  | cons n r => simp [PyData.eqv, PyData.eqvAll]
/-! ### small things -/
theorem seq_nat {i n : Nat} (h : i < n) : seqIndex? (i : Int) n = some i := by
  unfold seqIndex?
  have h1 : ¬ ((i : Int) < 0) := by omega
  simp [h1, h]
theorem map_erase (l : List Int) (i : Nat) : (l.eraseIdx i).map V.int = (l.map V.int).eraseIdx i := by
  induction l generalizing i with
  | nil => rfl
  | cons x r ih =>
    cases i with
    | zero => rfl
    | succ j => simp only [List.eraseIdx_cons_succ, List.map_cons, ih]
theorem perm_erase {l : List Int} {i : Nat} (h : i < l.length) : ([l[i]] ++ l.eraseIdx i).Perm l := by
  induction l generalizing i with
  | nil => cases h
  | cons x r ih =>
    cases i with
    | zero => exact List.Perm.refl _
    | succ j =>
      have hj : j < r.length := by simpa using h
      show (r[j] :: x :: r.eraseIdx j).Perm (x :: r)
      exact (List.Perm.swap _ _ _).trans ((ih hj).cons x)
theorem mem_cut {xs : List V} {lo hi : Option Int} {v : V} (h : v ∈ cutV xs lo hi) : v ∈ xs := by
  unfold cutV at h
  exact List.mem_of_mem_drop (List.mem_of_mem_take h)
/-- products of the primes up to 13 -/
inductive Sm : Int → Prop where
  | one : Sm 1
  | mul {m q : Int} : Sm m → q ∈ [2, 3, 5, 7, 11, 13] → Sm (m * q)
theorem p13 {q : Int} (h : q ∈ ([2, 3, 5, 7, 11, 13] : List Int)) : 2 ≤ q ∧ q ≤ 13 := by
  simp at h; omega
/-- a modulus up to most -/
def sp_modulus : Sp := fun vs H Q _ => ∃ (p L : Addr) (n : Nat) (most : Int), vs = [.ref p, .int most] ∧ PenAt H p L n ∧
  n ≤ 90000000 ∧ 2 ≤ most ∧ most ≤ 1000000000 ∧
  ∀ H' m, But p H H' → PenAt H' p L (n + 20) → 2 ≤ m → m ≤ most → Sm m → Q (.int m) H'
theorem sm2 : Sm 2 := by
  have h := Sm.mul .one (show (2 : Int) ∈ ([2, 3, 5, 7, 11, 13] : List Int) by simp)
  simpa using h
/-! ### chains: the primes taken out of a number, one after another -/
/-- q taken out of x as often as it goes; what is left, and the products on the way -/
def strip (q x last : Int) : Int × List Int :=
  if h : 0 < x ∧ 2 ≤ q ∧ x % q = 0 then
    ((strip q (x / q) (last * q)).1, (last * q) :: (strip q (x / q) (last * q)).2)
  else (x, [])
termination_by x.toNat
decreasing_by
  all_goals
    have h1 : x / q < x := Int.ediv_lt_self_of_pos_of_ne_one h.1 (by omega)
    omega
theorem strip_go {q x last : Int} (h0 : 0 < x) (h1 : 2 ≤ q) (h2 : x % q = 0) :
    strip q x last = ((strip q (x / q) (last * q)).1, (last * q) :: (strip q (x / q) (last * q)).2) := by
  rw [strip, dif_pos ⟨h0, h1, h2⟩]
theorem strip_end {q x last : Int} (h2 : ¬ x % q = 0) : strip q x last = (x, []) := by
  rw [strip, dif_neg (fun z => h2 z.2.2)]
/-- a turn: x is q times its quotient -/
theorem div_turn {q x : Int} (h0 : 0 < x) (h1 : 2 ≤ q) (h2 : x % q = 0) : q * (x / q) = x ∧ 0 < x / q := by
  have e : q * (x / q) = x := Int.mul_ediv_cancel' (Int.dvd_of_emod_eq_zero h2)
  refine ⟨e, ?_⟩
  rcases Int.lt_or_le 0 (x / q) with h | h
  · exact h
  · have := Int.mul_nonneg (show 0 ≤ q by omega) (show 0 ≤ -(x / q) by omega)
    rw [Int.mul_neg] at this
    omega
/-- the primes of a list one after another -/
def goAll : List Int → Int → Int → Int × List Int
  | [], x, _ => (x, [])
  | q :: qs, x, last =>
    ((goAll qs (strip q x last).1 ((strip q x last).2.getLastD last)).1,
      (strip q x last).2 ++ (goAll qs (strip q x last).1 ((strip q x last).2.getLastD last)).2)
def P6 : List Int := [2, 3, 5, 7, 11, 13]
def chainL (m : Int) : List Int := 1 :: (goAll P6 m 1).2
def isModI (n : Int) : Bool := decide (2 ≤ n) && decide (n ≤ 1000000000) && decide ((goAll P6 n 1).1 = 1)
def isModV : V → Bool
  | .int n => isModI n
  | _ => false
/-- what is left hangs on x alone -/
theorem strip_fst (q : Int) : ∀ (k : Nat) (x a b : Int), x.toNat ≤ k → (strip q x a).1 = (strip q x b).1 := by
  intro k
  induction k with
  | zero =>
    intro x a b h
    rw [strip, dif_neg (fun z => by have := z.1; omega), strip, dif_neg (fun z => by have := z.1; omega)]
  | succ k ih =>
    intro x a b h
    by_cases c : 0 < x ∧ 2 ≤ q ∧ x % q = 0
    · rw [strip_go c.1 c.2.1 c.2.2, strip_go c.1 c.2.1 c.2.2]
      refine ih _ _ _ ?_
      have h1 : x / q < x := Int.ediv_lt_self_of_pos_of_ne_one c.1 (by omega)
      omega
    · rw [strip, dif_neg c, strip, dif_neg c]
theorem goAll_fst : ∀ (qs : List Int) (x a b : Int), (goAll qs x a).1 = (goAll qs x b).1
  | [], _, _, _ => rfl
  | q :: qs, x, a, b => by
    show (goAll qs (strip q x a).1 _).1 = (goAll qs (strip q x b).1 _).1
    rw [strip_fst q x.toNat x a b (Nat.le_refl _)]
    exact goAll_fst qs _ _ _
/-- a state on the way: the list that is kept, what is left; the end is known -/
structure Way (m : Int) (qs : List Int) (pre : List Int) (x : Int) : Prop where
  last : ∃ ini last, pre = ini ++ [last] ∧ last * x = m ∧ 2 ^ ini.length ≤ last.toNat ∧ 1 ≤ last
  pos : 0 < x
  ends : ∀ ini last, pre = ini ++ [last] → chainL m = pre ++ (goAll qs x last).2 ∧ (goAll P6 m 1).1 = (goAll qs x last).1
  low : ∀ ini last, pre = ini ++ [last] → ∀ z ∈ ini, 1 ≤ z ∧ z ≤ last
/-- within a prime's turns -/
structure WayQ (m q : Int) (qs : List Int) (pre : List Int) (x : Int) : Prop where
  last : ∃ ini last, pre = ini ++ [last] ∧ last * x = m ∧ 2 ^ ini.length ≤ last.toNat ∧ 1 ≤ last
  pos : 0 < x
  ends : ∀ ini last, pre = ini ++ [last] → chainL m = pre ++ (goAll (q :: qs) x last).2 ∧ (goAll P6 m 1).1 = (goAll (q :: qs) x last).1
  low : ∀ ini last, pre = ini ++ [last] → ∀ z ∈ ini, 1 ≤ z ∧ z ≤ last
theorem Way.start {m : Int} (h : 1 ≤ m) : Way m P6 [1] m := by
  refine ⟨⟨[], 1, rfl, by omega, by decide, by decide⟩, by omega, ?_, ?_⟩
  · intro ini last e
    cases ini with
    | nil => cases e; exact ⟨rfl, rfl⟩
    | cons a r => simp at e
  · intro ini last e z hz
    cases ini with
    | nil => cases hz
    | cons a r => simp at e
theorem Way.q {m q : Int} {qs pre : List Int} {x : Int} (w : Way m (q :: qs) pre x) : WayQ m q qs pre x := ⟨w.last, w.pos, w.ends, w.low⟩
theorem app_last {ini : List Int} {a : Int} {pre : List Int} {ini' : List Int} {b : Int} (e : pre = ini ++ [a]) (e' : pre = ini' ++ [b]) : ini = ini' ∧ a = b := by
  rw [e] at e'
  have := List.append_inj' e' rfl
  exact ⟨this.1, by simpa using this.2⟩
theorem WayQ.turn {m q : Int} {qs pre : List Int} {x last : Int} {ini : List Int} (w : WayQ m q qs pre x) (e : pre = ini ++ [last]) (hq : 2 ≤ q) (h : x % q = 0) :
    WayQ m q qs (pre ++ [last * q]) (x / q) := by
  obtain ⟨ini', last', e', h1, h2, h3⟩ := w.last
  obtain ⟨rfl, rfl⟩ := app_last e e'
  obtain ⟨d1, d2⟩ := div_turn w.pos hq h
  have hl : 2 * last ≤ last * q := by
    have := Int.mul_le_mul_of_nonneg_left hq (show 0 ≤ last by omega)
    omega
  refine ⟨⟨ini ++ [last], last * q, by rw [e], ?_, ?_, by omega⟩, d2, ?_, ?_⟩
  · rw [Int.mul_assoc, d1, h1]
  · rw [List.length_append, List.length_singleton, Nat.pow_succ]
    omega
  · intro ini2 last2 e2
    have := app_last (a := last * q) (ini := pre) rfl e2
    obtain ⟨rfl, rfl⟩ := this
    obtain ⟨k1, k2⟩ := w.ends ini last e
    rw [k1, k2]
    have g := strip_go (last := last) w.pos hq h
    have gl : (strip q x last).2.getLastD last = (strip q (x / q) (last * q)).2.getLastD (last * q) := by
      rw [g]
      cases (strip q (x / q) (last * q)).2 <;> rfl
    constructor
    · show pre ++ ((strip q x last).2 ++ (goAll qs (strip q x last).1 ((strip q x last).2.getLastD last)).2) =
        pre ++ [last * q] ++ ((strip q (x / q) (last * q)).2 ++ (goAll qs (strip q (x / q) (last * q)).1 ((strip q (x / q) (last * q)).2.getLastD (last * q))).2)
      rw [gl, g]
      simp
    · show (goAll qs (strip q x last).1 ((strip q x last).2.getLastD last)).1 =
        (goAll qs (strip q (x / q) (last * q)).1 ((strip q (x / q) (last * q)).2.getLastD (last * q))).1
      rw [gl, g]
  · intro ini2 last2 e2 z hz
    have := app_last (a := last * q) (ini := pre) rfl e2
    obtain ⟨rfl, rfl⟩ := this
    rw [e] at hz
    rcases List.mem_append.mp hz with hz | hz
    · have := w.low ini last e z hz
      omega
    · have := List.mem_singleton.mp hz
      omega
theorem WayQ.out {m q : Int} {qs pre : List Int} {x : Int} (w : WayQ m q qs pre x) (h : ¬ x % q = 0) : Way m qs pre x := by
  refine ⟨w.last, w.pos, ?_, w.low⟩
  intro ini last e
  obtain ⟨k1, k2⟩ := w.ends ini last e
  rw [k1, k2]
  have g := strip_end (last := last) h
  constructor
  · show pre ++ ((strip q x last).2 ++ (goAll qs (strip q x last).1 ((strip q x last).2.getLastD last)).2) = _
    rw [g]; rfl
  · show (goAll qs (strip q x last).1 ((strip q x last).2.getLastD last)).1 = _
    rw [g]; rfl
theorem Way.done {m : Int} {pre : List Int} {x : Int} (w : Way m [] pre x) : chainL m = pre ∧ (goAll P6 m 1).1 = x := by
  obtain ⟨ini, last, e, _⟩ := w.last
  obtain ⟨k1, k2⟩ := w.ends ini last e
  exact ⟨by rw [k1]; simp [goAll], k2⟩
/-- the list stays short -/
theorem short_way {m x last : Int} {ini : List Int} (h1 : last * x = m) (h2 : 2 ^ ini.length ≤ last.toNat) (hx : 0 < x) (hl : 1 ≤ last) (hm : m ≤ 1000000000) : ini.length ≤ 30 ∧ last ≤ 1000000000 := by
  have hlm : last ≤ m := by
    have := Int.mul_le_mul_of_nonneg_left (show 1 ≤ x by omega) (show 0 ≤ last by omega)
    omega
  refine ⟨?_, by omega⟩
  rcases Nat.lt_or_ge 30 ini.length with h | h
  · have h3 : 2 ^ 31 ≤ 2 ^ ini.length := Nat.pow_le_pow_right (by decide) h
    have h4 : (2 : Nat) ^ 31 = 2147483648 := by decide
    omega
  · exact h
theorem map_snoc (l : List Int) (a : Int) : (l ++ [a]).map V.int = l.map V.int ++ [.int a] := by
  rw [List.map_append]; rfl
theorem pe_globR {X : Cx} {x : Str} {pos : Pos} {a : Addr} (hg : Gl X x) (h : X.mg x = some (.ref a))
    (hdb : (x == ("__debug__" : Str)) = false := by decide) : PE X (.Name x pos) (tC (.ref a)) :=
  pe_glob hg h (show RelV (.ref a) _ from rfl) hdb
theorem WayQ.all {m q : Int} {qs : List Int} (hq : 2 ≤ q) : ∀ (k : Nat) (pre : List Int) (x : Int), x.toNat ≤ k → WayQ m q qs pre x → ∃ pre' x', Way m qs pre' x' := by
  intro k
  induction k with
  | zero => intro pre x h w; have := w.pos; omega
  | succ k ih =>
    intro pre x h w
    by_cases c : x % q = 0
    · obtain ⟨ini, last, e, _⟩ := w.last
      have h1 : x / q < x := Int.ediv_lt_self_of_pos_of_ne_one w.pos (by omega)
      exact ih _ _ (by omega) (w.turn e hq c)
    · exact ⟨pre, x, w.out c⟩
theorem Way.all {m : Int} : ∀ (qs : List Int) (pre : List Int) (x : Int), (∀ q ∈ qs, 2 ≤ q) → Way m qs pre x → ∃ pre' x', Way m [] pre' x'
  | [], pre, x, _, w => ⟨pre, x, w⟩
  | q :: qs, pre, x, hq, w => by
    obtain ⟨pre', x', w'⟩ := WayQ.all (hq q (List.mem_cons_self ..)) _ pre x (Nat.le_refl _) w.q
    exact Way.all qs pre' x' (fun z hz => hq z (List.mem_cons_of_mem _ hz)) w'
theorem chain_last {m : Int} (h : 1 ≤ m) : ∃ ini last, chainL m = ini ++ [last] ∧ last * (goAll P6 m 1).1 = m ∧ 1 ≤ last ∧ 0 < (goAll P6 m 1).1 := by
  obtain ⟨pre, x, w⟩ := Way.all P6 [1] m (by intro q hq; have := p13 (q := q) hq; omega) (Way.start h)
  obtain ⟨d1, d2⟩ := w.done
  obtain ⟨ini, last, e, h1, _, h3⟩ := w.last
  exact ⟨ini, last, by rw [d1, e], by rw [d2]; exact h1, h3, by rw [d2]; exact w.pos⟩
/-! ### whole numbers among values -/
def isI : V → Bool
  | .int _ => true
  | _ => false
/-- what isinstance tells of a value, for int and for bool -/
def Kd (K : PySem.W.Frag) (H : Hp) (x : V) : Prop := ∃ (t : Value) (bi bb : Bool), TyX K H x t ∧
  PySem.W.kitOne K t (.type "int") = some bi ∧ PySem.W.kitOne K t (.type "bool") = some bb ∧ (bi && !bb) = isI x
section
variable {K : PySem.W.Frag} {H H' : Hp}
theorem kd_int (i : Int) : Kd K H (.int i) := ⟨_, true, false, .base (.int i), kit_ty (by decide +kernel), kit_ty (by decide +kernel), rfl⟩
theorem kd_bl (b : Bool) : Kd K H (.bl b) := ⟨_, true, true, .base (.bl b), kit_ty (by decide +kernel), kit_ty (by decide +kernel), rfl⟩
theorem kd_non : Kd K H .non := ⟨_, false, false, .base .non, kit_ty (by decide +kernel), kit_ty (by decide +kernel), rfl⟩
theorem kd_str (x : Str) : Kd K H (.str x) := ⟨_, false, false, .base (.str x), kit_ty (by decide +kernel), kit_ty (by decide +kernel), rfl⟩
theorem kd_lst {a : Addr} {xs : List V} (h : H a = some (.lst xs)) : Kd K H (.ref a) := ⟨_, false, false, .base (.lst h), kit_ty (by decide +kernel), kit_ty (by decide +kernel), rfl⟩
theorem kd_tup {a : Addr} {xs : List V} (h : H a = some (.tup xs)) : Kd K H (.ref a) := ⟨_, false, false, .base (.tup h), kit_ty (by decide +kernel), kit_ty (by decide +kernel), rfl⟩
theorem kd_dK {a : Addr} {xs : List (Key × V)} (h : H a = some (.dK xs)) : Kd K H (.ref a) := ⟨_, false, false, .base (.dK h), kit_ty (by decide +kernel), kit_ty (by decide +kernel), rfl⟩
end
def betw (x : V) (lo hi : Int) : Bool := match x with
  | .int n => decide (lo ≤ n) && decide (n ≤ hi)
  | _ => false
def sp_whole (K : PySem.W.Frag) : Sp := fun vs H Q _ => ∃ x, vs = [x] ∧ Kd K H x ∧ Q (.bl (isI x)) H
def sp_between (K : PySem.W.Frag) : Sp := fun vs H Q _ => ∃ x lo hi, vs = [x, .int lo, .int hi] ∧ Kd K H x ∧ Q (.bl (betw x lo hi)) H
def sp_ismod (K : PySem.W.Frag) : Sp := fun vs H Q _ => ∃ x, vs = [x] ∧ Kd K H x ∧ ∀ H', Same H H' → Q (.bl (isModV x)) H'
theorem pe_ty {X : Cx} {x : Str} {pos : Pos} {n : String} (hg : Gl X x) (hm : X.mg x = none)
    (hv : bootBuiltins x = some (.type n)) (hn : x ≠ "__name__" := by decide)
    (hd : (x == ("__debug__" : Str)) = false := by decide) : PE X (.Name x pos) (tC (.ty n)) :=
  pe_bltn hg hm hv (show RelV (.ty n) _ from rfl) hn hd
/-- a chain's numbers are few and no greater than m -/
theorem chain_small {m : Int} (h : 1 ≤ m) (h9 : m ≤ 1000000000) : (chainL m).length ≤ 40 ∧ ∀ z ∈ chainL m, 1 ≤ z ∧ z ≤ 1000000000 := by
  obtain ⟨pre, x, w⟩ := Way.all P6 [1] m (by intro q hq; have := p13 (q := q) hq; omega) (Way.start h)
  obtain ⟨d1, d2⟩ := w.done
  obtain ⟨ini, last, e, h1, h2, h3⟩ := w.last
  have sh := short_way h1 h2 w.pos h3 h9
  rw [d1, e]
  refine ⟨by rw [List.length_append, List.length_singleton]; omega, ?_⟩
  intro z hz
  rcases List.mem_append.mp hz with hz | hz
  · have := w.low ini last e z hz
    omega
  · have := List.mem_singleton.mp hz
    omega
/-! ### what repr asks of ints, bools -/
theorem show_ints : ∀ (ns : List Int), (∀ z ∈ ns, z.natAbs < 1000000000000) → PyData.showableAll (ns.map PyData.int) = true
  | [], _ => by simp [PyData.showableAll]
  | n :: r, h => by
    have h1 := show_ints r (fun z hz => h z (List.mem_cons_of_mem _ hz))
    have h2 : n.natAbs < 2 ^ 64 := Nat.lt_of_lt_of_le (h n (List.mem_cons_self ..)) (by decide)
    have h3 : n.natAbs.log2 < 1920 := Nat.lt_of_lt_of_le (PySem.Flt.log2_lt_of (by decide) h2) (by decide)
    simp only [List.map_cons, PyData.showableAll, PyData.showable, h1, Bool.and_true]
    exact decide_eq_true h3
theorem int_short {n : Int} (h : n.natAbs < 1000000000000) : (PyData.int n).leavesShort 13 = true := by
  have e : (PyData.shown (.int n)).length ≤ 13 := by
    have e1 := int_text_length_le10 (a := n) (k := 12) (by decide) (Nat.lt_of_lt_of_le h (by decide))
    show (Str.ofString (toString n)).length ≤ 13
    rw [PySem.ofString_length]
    omega
  simp only [PyData.leavesShort]
  exact decide_eq_true e
theorem short_ints : ∀ (ns : List Int), (∀ z ∈ ns, z.natAbs < 1000000000000) → PyData.leavesShortAll 13 (ns.map PyData.int) = true
  | [], _ => by simp [PyData.leavesShortAll]
  | n :: r, h => by
    have h1 := short_ints r (fun z hz => h z (List.mem_cons_of_mem _ hz))
    have h2 := int_short (h n (List.mem_cons_self ..))
    simp only [List.map_cons, PyData.leavesShortAll, h1, h2, Bool.and_true]
theorem bulk_ints : ∀ (ns : List Int), PyData.bulkAll (ns.map PyData.int) = ns.length
  | [] => by simp [PyData.bulkAll]
  | n :: r => by
    have h1 := bulk_ints r
    simp only [List.map_cons, PyData.bulkAll, PyData.bulk, h1, List.length_cons]
    omega
/-- what repr asks of a value -/
structure Rp (K : PySem.W.Frag) (H : Hp) (v : V) (d : PyData) : Prop where
  dp : Dp K H v d
  sh : d.showable = true
  de : d.depth ≤ 60
  le : d.shown.length ≤ sizeLine
theorem rp_ints {K : PySem.W.Frag} {H : Hp} {a : Addr} {ns : List Int} (h : SqL K H a (ns.map V.int)) (hn : ∀ z ∈ ns, z.natAbs < 1000000000000)
    (hl : ns.length ≤ 100000) : Rp K H (.ref a) (.list (ns.map PyData.int)) := by
  refine ⟨Dp.lst h (dp_ints ns), ?_, ?_, ?_⟩
  · simp only [PyData.showable]; exact show_ints ns hn
  · simp only [PyData.depth]; rw [depth_ints]; decide
  · refine PyData.shown_fits_bulk (B := 13) (by decide) (by decide) ?_ ?_
    · simp only [PyData.leavesShort]; exact short_ints ns hn
    · simp only [PyData.bulk]; rw [bulk_ints]; exact Nat.le_trans hl (by decide)
theorem rp_bool {K : PySem.W.Frag} {H : Hp} (b : Bool) : Rp K H (.bl b) (.bool b) := by
  refine ⟨Dp.bl b, by simp only [PyData.showable], by simp [PyData.depth], ?_⟩
  cases b <;> decide
theorem pick3 {v a b c : V} {Q : Prop} (h : v ∈ [a, b, c]) (h1 : v = a → Q) (h2 : v = b → Q) (h3 : v = c → Q) : Q := by
  simp only [List.mem_cons, List.mem_nil_iff, or_false] at h
  rcases h with h | h | h
  · exact h1 h
  · exact h2 h
  · exact h3 h
/-- its kind is known in each later heap -/
def Ks (K : PySem.W.Frag) (H0 : Hp) (v : V) : Prop := ∀ H', Same H0 H' → Kd K H' v
section
variable {K : PySem.W.Frag} {H0 : Hp}
theorem ks_nil : ∀ v ∈ ([] : List V), Ks K H0 v := fun _ h => by cases h
theorem ks_cons {v : V} {vs : List V} (h : Ks K H0 v) (r : ∀ x ∈ vs, Ks K H0 x) : ∀ x ∈ v :: vs, Ks K H0 x := fun x hx => by
  rcases List.mem_cons.mp hx with e | e
  · rw [e]; exact h
  · exact r x e
theorem ks_app {vs ws : List V} (h : ∀ x ∈ vs, Ks K H0 x) (r : ∀ x ∈ ws, Ks K H0 x) : ∀ x ∈ vs ++ ws, Ks K H0 x := fun x hx => by
  rcases List.mem_append.mp hx with e | e
  · exact h x e
  · exact r x e
theorem ks_int (i : Int) : Ks K H0 (.int i) := fun _ _ => kd_int i
theorem ks_bl (b : Bool) : Ks K H0 (.bl b) := fun _ _ => kd_bl b
theorem ks_non : Ks K H0 .non := fun _ _ => kd_non
theorem ks_str (x : Str) : Ks K H0 (.str x) := fun _ _ => kd_str x
theorem ks_lst {a : Addr} {xs : List V} (h : H0 a = some (.lst xs)) : Ks K H0 (.ref a) := fun _ s => kd_lst (s _ _ h)
theorem ks_tup {a : Addr} {xs : List V} (h : H0 a = some (.tup xs)) : Ks K H0 (.ref a) := fun _ s => kd_tup (s _ _ h)
theorem ks_dK {a : Addr} {xs : List (Key × V)} (h : H0 a = some (.dK xs)) : Ks K H0 (.ref a) := fun _ s => kd_dK (s _ _ h)
end
/-- the module's name x is the built-in id -/
def bltB (K : PySem.W.Frag) (x : Str) (id : String) : Bool := He.eqO (PySem.W.nsIn K mainGlobals x) (some (some (.builtin id)))
theorem bltB_ok {K : PySem.W.Frag} {h : Heap} {mg : Str → Option Value} (X : K.In h) (G : h.Ns mainGlobals mg) {x : Str} {id : String}
    (c : bltB K x id = true) : mg x = some (.builtin id) := PySem.W.mg_of X G (He.eqO_ok c)
end Vg

set_option Elab.async false
set_option linter.all false
set_option maxRecDepth 100000
set_option maxHeartbeats 2000000
namespace Vg
open PySem PySem.Spec PyProof.Rows L2
/-! ### greatest common divisors -/
def gcdI (a b : Int) : Int := ((Nat.gcd a.toNat b.toNat : Nat) : Int)
theorem gcd_step {a b : Int} (ha : 0 ≤ a) (hb : 0 < b) : gcdI b (a.fmod b) = gcdI a b := by
  obtain ⟨x, rfl⟩ : ∃ x : Nat, a = (x : Int) := ⟨a.toNat, by omega⟩
  obtain ⟨y, rfl⟩ : ∃ y : Nat, b = (y : Int) := ⟨b.toNat, by omega⟩
  rw [Int.fmod_eq_emod_of_nonneg _ (by omega)]
  show ((Nat.gcd (y : Int).toNat ((x : Int) % (y : Int)).toNat : Nat) : Int) = ((Nat.gcd (x : Int).toNat (y : Int).toNat : Nat) : Int)
  have e : ((x : Int) % (y : Int)).toNat = x % y := by
    rw [← Int.natCast_emod]; rfl
  rw [e]
  show ((Nat.gcd y (x % y) : Nat) : Int) = ((Nat.gcd x y : Nat) : Int)
  rw [Nat.gcd_comm y (x % y), ← Nat.gcd_rec, Nat.gcd_comm]
theorem gcd_end {a : Int} (ha : 0 ≤ a) : gcdI a 0 = a := by
  unfold gcdI
  simp
  omega
def sp_lgcd : Sp := fun vs H Q _ => ∃ a b : Int, vs = [.int a, .int b] ∧ 0 ≤ a ∧ 0 ≤ b ∧ Q (.int (gcdI a b)) H
/-! ### divisors -/
theorem pow_turn {p : Int} (hp : 2 ≤ p) (e : Nat) : 4 * (((e : Int) + 1) * ((e : Int) + 1)) ≤ 9 * p ^ e := by
  have h2 : ∀ e : Nat, 4 * (((e : Int) + 1) * ((e : Int) + 1)) ≤ 9 * 2 ^ e := by
    intro e
    induction e with
    | zero => decide
    | succ e ih =>
      rcases e with _ | _ | e
      · decide
      · decide
      · rw [Int.pow_succ]
        have e1 : (((e + 1 + 1 + 1 : Nat) : Int) + 1) * (((e + 1 + 1 + 1 : Nat) : Int) + 1) ≤ 2 * ((((e + 1 + 1 : Nat) : Int) + 1) * (((e + 1 + 1 : Nat) : Int) + 1)) := by
          generalize hx : (e : Int) = x
          have hx0 : 0 ≤ x := by omega
          have e2 : (((e + 1 + 1 + 1 : Nat) : Int) + 1) = x + 4 := by omega
          have e3 : (((e + 1 + 1 : Nat) : Int) + 1) = x + 3 := by omega
          rw [e2, e3]
          have := Int.mul_nonneg hx0 hx0
          have e4 : (x + 4) * (x + 4) = x * x + 8 * x + 16 := by
            rw [Int.add_mul, Int.mul_add, Int.mul_add]; omega
          have e5 : (x + 3) * (x + 3) = x * x + 6 * x + 9 := by
            rw [Int.add_mul, Int.mul_add, Int.mul_add]; omega
          rw [e4, e5]
          omega
        generalize (2 : Int) ^ (e + 1 + 1) = z at ih ⊢
        omega
  have h3 : (2 : Int) ^ e ≤ p ^ e := by
    induction e with
    | zero => simp
    | succ e ih =>
      rw [Int.pow_succ, Int.pow_succ]
      have h0 : (0 : Int) ≤ 2 ^ e := Int.pow_nonneg (by decide)
      exact Int.mul_le_mul ih hp (by decide) (Int.le_trans h0 ih)
  have := h2 e
  omega
def sp_divisors : Sp := fun vs H Q _ => ∃ m : Int, vs = [.int m] ∧ 1 ≤ m ∧ m ≤ 1000000000 ∧
  ∀ H' l (ds : List Int), Same H H' → H l = none → H' l = some (.lst (ds.map V.int)) → 0 < ds.length → ds.length ≤ 400000 → (∀ d ∈ ds, 1 ≤ d ∧ d ∣ m ∧ d ≤ m) → Q (.ref l) H'
/-- a unit modulo m -/
def Unit' (m u : Int) : Prop := 0 ≤ u ∧ u < m ∧ gcdI u m = 1
def sp_unit : Sp := fun vs H Q _ => ∃ (p L : Addr) (n : Nat) (m : Int), vs = [.ref p, .int m] ∧ PenAt H p L n ∧ n ≤ 95000000 ∧ 2 ≤ m ∧ m ≤ 1000000000 ∧
  ∀ H' u, But p H H' → PenAt H' p L (n + 4) → Unit' m u → Q (.int u) H'
def sp_lmap : Sp := fun vs H Q _ => ∃ (p L : Addr) (n : Nat) (m : Int), vs = [.ref p, .int m] ∧ PenAt H p L n ∧ n ≤ 90000000 ∧ 2 ≤ m ∧ m ≤ 1000000000 ∧
  ∀ H' t u b, But p H H' → PenAt H' p L (n + 6) → Unit' m u → 0 ≤ b → b < m → H t = none → H' t = some (.tup [.int u, .int b]) → Q (.ref t) H'
theorem dv_le {d m : Int} (h : d ∣ m) (hm : 0 < m) : d ≤ m := Int.le_of_dvd hm h
theorem dp1 {a b : Int} : decide (V.int a = V.int b) = decide (a = b) := by
  by_cases h : a = b
  · subst h; simp
  · have : ¬ (V.int a = V.int b) := fun z => h (V.int.inj z)
    rw [decide_eq_false h, decide_eq_false this]
theorem at_lst {ini : List Int} {last : Int} : atI ((ini ++ [last]).map V.int) (-1) = some (.int last) := by
  rw [List.map_append]
  exact atI_last _ _
theorem p6v {i : Nat} {v : V} (h : ([V.int 2, .int 3, .int 5, .int 7, .int 11, .int 13] : List V)[i]? = some v) :
    ∃ q, v = .int q ∧ 2 ≤ q ∧ q ≤ 13 := by
  rcases i with _ | _ | _ | _ | _ | _ | i
  · cases h; exact ⟨2, rfl, by decide, by decide⟩
  · cases h; exact ⟨3, rfl, by decide, by decide⟩
  · cases h; exact ⟨5, rfl, by decide, by decide⟩
  · cases h; exact ⟨7, rfl, by decide, by decide⟩
  · cases h; exact ⟨11, rfl, by decide, by decide⟩
  · cases h; exact ⟨13, rfl, by decide, by decide⟩
  · simp at h
/-- the divisors found so far, what is left; i primes are done -/
structure Dv (m : Int) (i : Nat) (ds : List Int) (left : Int) : Prop where
  pos : 0 < left
  le : left ≤ m
  few : 4 ^ i * (((ds.length : Int) * (ds.length : Int)) * left) ≤ 9 ^ i * m
  ne : 0 < ds.length
  dv : ∀ d ∈ ds, 1 ≤ d ∧ d * left ∣ m
/-- the powers of p found so far, from left0 down to left -/
structure Pw (p left0 : Int) (ps : List Int) (left : Int) : Prop where
  ex : ∃ (ini : List Int) (last : Int), ps = ini ++ [last] ∧ 1 ≤ last ∧ last * left = left0 ∧ last = p ^ ini.length
  pos : 0 < left
  dv : ∀ f ∈ ps, 1 ≤ f ∧ f * left ∣ left0
theorem Dv.start {m : Int} (h : 1 ≤ m) : Dv m 0 [1] m := ⟨by omega, by omega, by simp, by simp, fun d hd => by
  have := List.mem_singleton.mp hd
  subst this
  exact ⟨by decide, by rw [Int.one_mul]; exact Int.dvd_refl m⟩⟩
theorem Pw.start {p l : Int} (h : 0 < l) : Pw p l [1] l := ⟨⟨[], 1, rfl, by decide, by omega, by simp⟩, h, fun d hd => by
  have := List.mem_singleton.mp hd
  subst this
  exact ⟨by decide, by rw [Int.one_mul]; exact Int.dvd_refl l⟩⟩
theorem Pw.turn {p l0 : Int} {ps : List Int} {l last : Int} {ini : List Int} (w : Pw p l0 ps l) (e : ps = ini ++ [last]) (hp : 2 ≤ p) (h : l % p = 0) :
    Pw p l0 (ps ++ [last * p]) (l / p) := by
  obtain ⟨ini', last', e', h1, h2, h3⟩ := w.ex
  obtain ⟨rfl, rfl⟩ := app_last e e'
  obtain ⟨d1, d2⟩ := div_turn w.pos hp h
  have hl : 2 * last ≤ last * p := by
    have := Int.mul_le_mul_of_nonneg_left hp (show 0 ≤ last by omega)
    omega
  refine ⟨⟨ini ++ [last], last * p, by rw [e], by omega, ?_, ?_⟩, d2, ?_⟩
  · rw [Int.mul_assoc, d1, h2]
  · rw [List.length_append, List.length_singleton, Int.pow_succ, h3]
  · intro f hf
    rcases List.mem_append.mp hf with hf | hf
    · obtain ⟨k1, k2⟩ := w.dv f hf
      refine ⟨k1, Int.dvd_trans ?_ k2⟩
      exact Int.mul_dvd_mul_left f ⟨p, by rw [Int.mul_comm]; exact d1.symm⟩
    · have := List.mem_singleton.mp hf
      subst this
      refine ⟨by omega, ?_⟩
      rw [Int.mul_assoc, d1, h2]
      exact Int.dvd_refl _
/-- all products of the divisors and the powers -/
theorem Dv.step {m : Int} {i : Nat} {ds ps es : List Int} {l0 l p : Int} (w : Dv m i ds l0) (q : Pw p l0 ps l) (hp : 2 ≤ p)
    (hl : es.length = ps.length * ds.length) (he : ∀ e ∈ es, ∃ d ∈ ds, ∃ f ∈ ps, e = d * f) : Dv m (i + 1) es l := by
  obtain ⟨ini, last, e, h1, h2, h3⟩ := q.ex
  have hpl : (ps.length : Int) = (ini.length : Int) + 1 := by rw [e, List.length_append, List.length_singleton]; omega
  have hle : l ≤ l0 := by
    have := Int.mul_le_mul_of_nonneg_right h1 (show 0 ≤ l from Int.le_of_lt q.pos)
    omega
  refine ⟨q.pos, by have := w.le; omega, ?_, ?_, ?_⟩
  · have hd := w.few
    have hpt := pow_turn hp ini.length
    rw [← h3] at hpt
    rw [hl, Int.natCast_mul, hpl, Int.pow_succ, Int.pow_succ]
    generalize ((ini.length : Int) + 1) = c at hpt
    generalize (ds.length : Int) = n at hd
    have e1 : (4 : Int) ^ i * 4 * (c * n * (c * n) * l) = (4 ^ i * (n * n)) * (4 * (c * c) * l) := by
      simp only [Int.mul_assoc, Int.mul_comm, Int.mul_left_comm]
    have e2 : (9 : Int) * last * l = 9 * l0 := by rw [Int.mul_assoc, h2]
    have k1 : 4 * (c * c) * l ≤ 9 * last * l := Int.mul_le_mul_of_nonneg_right hpt (Int.le_of_lt q.pos)
    rw [e2] at k1
    have k0 : (0 : Int) ≤ 4 ^ i * (n * n) := Int.mul_nonneg (Int.pow_nonneg (by decide)) (by
      rcases Int.le_total 0 n with z | z
      · exact Int.mul_nonneg z z
      · exact Int.mul_nonneg_of_nonpos_of_nonpos z z)
    have k2 := Int.mul_le_mul_of_nonneg_left k1 k0
    rw [e1]
    have e3 : 4 ^ i * (n * n) * (9 * l0) = 9 * (4 ^ i * (n * n * l0)) := by
      simp only [Int.mul_assoc, Int.mul_comm, Int.mul_left_comm]
    rw [e3] at k2
    have e4 : (9 : Int) ^ i * 9 * m = 9 * (9 ^ i * m) := by
      simp only [Int.mul_assoc, Int.mul_comm, Int.mul_left_comm]
    rw [e4]
    omega
  · rw [hl]
    have z1 := w.ne
    have z2 : 0 < ps.length := by rw [e]; simp
    exact Nat.mul_pos z2 z1
  · intro z hz
    obtain ⟨d, hd, f, hf, rfl⟩ := he z hz
    obtain ⟨a1, a2⟩ := w.dv d hd
    obtain ⟨b1, b2⟩ := q.dv f hf
    refine ⟨?_, ?_⟩
    · have := Int.mul_le_mul_of_nonneg_left b1 (show 0 ≤ d by omega)
      omega
    · rw [Int.mul_assoc]
      exact Int.dvd_trans (Int.mul_dvd_mul_left d b2) a2
theorem Dv.short {m : Int} {i : Nat} {ds : List Int} {left : Int} (w : Dv m i ds left) (hi : i ≤ 6) (h9 : m ≤ 1000000000) : ds.length ≤ 400000 := by
  have hf := w.few
  have k1 : (ds.length : Int) * ds.length ≤ (ds.length : Int) * ds.length * left := by
    have := Int.mul_le_mul_of_nonneg_left (show 1 ≤ left from w.pos) (Int.mul_nonneg (Int.natCast_nonneg ds.length) (Int.natCast_nonneg ds.length))
    omega
  rcases Nat.lt_or_ge 400000 ds.length with h | h
  · have k2 : (400000 : Int) * 400000 ≤ (ds.length : Int) * ds.length := Int.mul_le_mul (by omega) (by omega) (by decide) (by omega)
    have k3 : (400000 : Int) * 400000 ≤ (ds.length : Int) * ds.length * left := Int.le_trans k2 k1
    generalize (ds.length : Int) * ds.length * left = z at hf k3
    have hm := w.le
    have hp := w.pos
    have hc : i = 0 ∨ i = 1 ∨ i = 2 ∨ i = 3 ∨ i = 4 ∨ i = 5 ∨ i = 6 := by omega
    rcases hc with rfl | rfl | rfl | rfl | rfl | rfl | rfl <;> simp at hf <;> omega
  · exact h
theorem gcd_one {m : Int} (h : 1 ≤ m) : gcdI 1 m = 1 := by
  unfold gcdI
  have : Nat.gcd (1 : Int).toNat m.toNat = 1 := Nat.gcd_one_left _
  rw [this]; rfl
theorem unit_pos {m u : Int} (hm : 2 ≤ m) (h : Unit' m u) : 1 ≤ u := by
  rcases Int.lt_or_le 0 u with h0 | h0
  · exact h0
  · have e : u = 0 := by have := h.1; omega
    have h3 := h.2.2
    rw [e] at h3
    unfold gcdI at h3
    simp at h3
    omega
/-- how far a number stands from 1, going up, modulo m -/
def far (m x : Int) : Nat := if x ≤ 1 then (1 - x).toNat else (m + 1 - x).toNat
theorem far_turn {m x : Int} (hm : 2 ≤ m) (h0 : 0 ≤ x) (h1 : x < m) (hx : x ≠ 1) : far m ((x + 1).fmod m) < far m x ∧ 0 ≤ (x + 1).fmod m ∧ (x + 1).fmod m < m := by
  have b := fmod_b (a := x + 1) (b := m) (by omega)
  refine ⟨?_, b⟩
  rw [Int.fmod_eq_emod_of_nonneg _ (by omega)] at b ⊢
  by_cases c : x + 1 < m
  · rw [Int.emod_eq_of_lt (by omega) c]
    unfold far
    split <;> split <;> omega
  · have e : x + 1 = m := by omega
    rw [e, Int.emod_self]
    unfold far
    split <;> split <;> omega
theorem pick5v {v a b c d e : V} {Q : Prop} (h : v ∈ [a, b, c, d, e]) (h1 : v = a → Q) (h2 : v = b → Q) (h3 : v = c → Q) (h4 : v = d → Q) (h5 : v = e → Q) : Q := by
  simp only [List.mem_cons, List.mem_nil_iff, or_false] at h
  rcases h with h | h | h | h | h
  · exact h1 h
  · exact h2 h
  · exact h3 h
  · exact h4 h
  · exact h5 h
end Vg

set_option Elab.async false
set_option linter.all false
set_option maxRecDepth 100000
set_option maxHeartbeats 2000000
namespace Vg
open PySem PySem.Spec PyProof.Rows L2
/-! ### congruences -/
def Cg (m a b : Int) : Prop := m ∣ a - b
theorem Cg.refl (m a : Int) : Cg m a a := ⟨0, by simp⟩
theorem Cg.symm {m a b : Int} (h : Cg m a b) : Cg m b a := by
  obtain ⟨k, e⟩ := h
  exact ⟨-k, by rw [Int.mul_neg]; omega⟩
theorem Cg.trans {m a b c : Int} (h : Cg m a b) (g : Cg m b c) : Cg m a c := by
  obtain ⟨k, e⟩ := h
  obtain ⟨l, d⟩ := g
  exact ⟨k + l, by rw [Int.mul_add]; omega⟩
theorem Cg.add {m a b c d : Int} (h : Cg m a b) (g : Cg m c d) : Cg m (a + c) (b + d) := by
  obtain ⟨k, e⟩ := h
  obtain ⟨l, d⟩ := g
  exact ⟨k + l, by rw [Int.mul_add]; omega⟩
theorem Cg.neg {m a b : Int} (h : Cg m a b) : Cg m (-a) (-b) := by
  obtain ⟨k, e⟩ := h
  exact ⟨-k, by rw [Int.mul_neg]; omega⟩
theorem Cg.sub {m a b c d : Int} (h : Cg m a b) (g : Cg m c d) : Cg m (a - c) (b - d) := by
  obtain ⟨k, e⟩ := h
  obtain ⟨l, d⟩ := g
  exact ⟨k - l, by rw [Int.mul_sub]; omega⟩
theorem Cg.mulL {m a b : Int} (c : Int) (h : Cg m a b) : Cg m (c * a) (c * b) := by
  obtain ⟨k, e⟩ := h
  refine ⟨c * k, ?_⟩
  rw [← Int.mul_sub, e, Int.mul_left_comm]
theorem Cg.mulR {m a b : Int} (c : Int) (h : Cg m a b) : Cg m (a * c) (b * c) := by
  rw [Int.mul_comm a, Int.mul_comm b]
  exact h.mulL c
theorem Cg.mul {m a b c d : Int} (h : Cg m a b) (g : Cg m c d) : Cg m (a * c) (b * d) := (h.mulR c).trans (g.mulL b)
theorem Cg.mod (m a : Int) : Cg m (a % m) a := ⟨-(a / m), by
  have := Int.emod_add_mul_ediv a m
  rw [Int.mul_neg]
  omega⟩
theorem Cg.of {m a b : Int} (h : a = b) : Cg m a b := by rw [h]; exact Cg.refl m b
theorem Cg.eq {m a b : Int} (h : Cg m a b) : a % m = b % m := by
  obtain ⟨k, e⟩ := h
  have : a = b + m * k := by omega
  rw [this, Int.add_mul_emod_self_left]
theorem Cg.eqS {m a b : Int} (h : Cg m a b) (a0 : 0 ≤ a) (a1 : a < m) (b0 : 0 ≤ b) (b1 : b < m) : a = b := by
  have := h.eq
  rw [Int.emod_eq_of_lt a0 a1, Int.emod_eq_of_lt b0 b1] at this
  exact this
theorem Cg.self (m k : Int) : Cg m (m * k) 0 := ⟨k, by simp⟩
/-- images of compositions -/
theorem comp_img {m a b c d x : Int} : ((a * c % m) * x + (c * b + d) % m) % m = (c * ((a * x + b) % m) + d) % m := by
  refine Cg.eq (m := m) ?_
  have h1 : Cg m ((a * c % m) * x + (c * b + d) % m) (a * c * x + (c * b + d)) := ((Cg.mod m (a * c)).mulR x).add (Cg.mod m _)
  have h2 : Cg m (c * ((a * x + b) % m) + d) (c * (a * x + b) + d) := ((Cg.mod m (a * x + b)).mulL c).add (Cg.refl m d)
  refine h1.trans ((Cg.of ?_).trans h2.symm)
  rw [Int.mul_add, Int.mul_left_comm c a x, ← Int.mul_assoc a c x]
  omega
theorem inv_img {m a b r x : Int} (h : Cg m (r * a) 1) (x0 : 0 ≤ x) (x1 : x < m) : (r * ((a * x + b) % m) + (-r * b) % m) % m = x := by
  have h1 : Cg m (r * ((a * x + b) % m) + (-r * b) % m) (r * (a * x + b) + -r * b) := ((Cg.mod m _).mulL r).add (Cg.mod m _)
  have h2 : r * (a * x + b) + -r * b = (r * a) * x := by
    rw [Int.mul_add, ← Int.mul_assoc, Int.neg_mul]
    omega
  have h3 : Cg m ((r * a) * x) (1 * x) := h.mulR x
  have h4 := (h1.trans ((Cg.of h2).trans h3)).eq
  rw [h4, Int.one_mul, Int.emod_eq_of_lt x0 x1]
/-- the inverse is one alone -/
theorem inv_uni {m a r s : Int} (h : Cg m (r * a) 1) (g : Cg m (s * a) 1) (r0 : 0 ≤ r) (r1 : r < m) (s0 : 0 ≤ s) (s1 : s < m) : r = s := by
  have h1 : Cg m (r * (s * a)) (r * 1) := g.mulL r
  have h2 : Cg m (s * (r * a)) (s * 1) := h.mulL s
  rw [Int.mul_left_comm] at h1
  have h3 : Cg m r s := by
    have := h1.symm.trans h2
    rw [Int.mul_one, Int.mul_one] at this
    exact this
  exact h3.eqS r0 r1 s0 s1
/-- an inverse is a unit -/
theorem inv_unit {m a r : Int} (hm : 2 ≤ m) (h : Cg m (r * a) 1) (r0 : 0 ≤ r) (r1 : r < m) : Unit' m r := by
  refine ⟨r0, r1, ?_⟩
  unfold gcdI
  have h1 : (Nat.gcd r.toNat m.toNat) ∣ 1 := by
    have d1 : ((Nat.gcd r.toNat m.toNat : Nat) : Int) ∣ r := by
      have := Int.natCast_dvd_natCast.mpr (Nat.gcd_dvd_left r.toNat m.toNat)
      rw [Int.toNat_of_nonneg r0] at this
      exact this
    have d2 : ((Nat.gcd r.toNat m.toNat : Nat) : Int) ∣ m := by
      have := Int.natCast_dvd_natCast.mpr (Nat.gcd_dvd_right r.toNat m.toNat)
      rw [Int.toNat_of_nonneg (by omega)] at this
      exact this
    obtain ⟨k, e⟩ := h
    have e1 : (1 : Int) = r * a - m * k := by omega
    have d3 : ((Nat.gcd r.toNat m.toNat : Nat) : Int) ∣ 1 := by
      rw [e1]
      exact Int.dvd_sub (Int.dvd_trans d1 (Int.dvd_mul_right r a)) (Int.dvd_trans d2 (Int.dvd_mul_right m k))
    exact Int.natCast_dvd_natCast.mp d3
  rw [Nat.dvd_one.mp h1]
  rfl
/-- Euclid's way to the inverse of a -/
structure Euc (m a x y u v : Int) : Prop where
  x0 : 0 ≤ x
  y0 : 0 ≤ y
  le : x ≤ 1000000000 ∧ y ≤ 1000000000
  cx : Cg m x (u * a)
  cy : Cg m y (v * a)
  g : gcdI x y = 1
theorem Euc.turn {m a x y u v : Int} (e : Euc m a x y u v) (h : 0 < y) : Euc m a y (x - x.fdiv y * y) v (u - x.fdiv y * v) ∧ x - x.fdiv y * y < y ∧ 0 ≤ x.fdiv y ∧ x.fdiv y ≤ 1000000000 := by
  have e1 : x - x.fdiv y * y = x.fmod y := by
    have := Int.mul_fdiv_add_fmod x y
    rw [Int.mul_comm] at this
    omega
  have b := fmod_b (a := x) (b := y) h
  have q0 : 0 ≤ x.fdiv y := fdiv_nn e.x0 h
  have q1 : x.fdiv y ≤ x := by
    rw [Int.fdiv_eq_ediv_of_nonneg _ (by omega)]
    exact Int.ediv_le_self y e.x0
  refine ⟨⟨e.y0, by omega, ⟨e.le.2, by have := e.le.2; omega⟩, e.cy, ?_, ?_⟩, by omega, q0, by have := e.le.1; omega⟩
  · have := e.cx.sub (e.cy.mulL (x.fdiv y))
    rw [Int.sub_mul, Int.mul_assoc]
    exact this
  · rw [e1, gcd_step e.x0 h]
    exact e.g
theorem Euc.out {m a x u v : Int} (e : Euc m a x 0 u v) (hm : 2 ≤ m) : 0 ≤ u.fmod m ∧ u.fmod m < m ∧ Cg m (u.fmod m * a) 1 := by
  have hx : x = 1 := by
    have := e.g
    rw [gcd_end e.x0] at this
    exact this
  have b := fmod_b (a := u) (b := m) (by omega)
  refine ⟨b.1, b.2, ?_⟩
  have h := e.cx
  rw [hx] at h
  rw [Int.fmod_eq_emod_of_nonneg _ (by omega)]
  exact ((Cg.mod m u).mulR a).trans h.symm
theorem gcd_comm' {a b : Int} : gcdI a b = gcdI b a := by
  unfold gcdI
  rw [Nat.gcd_comm]
/-! ### promises of the maps' defs -/
def sp_apply (K : PySem.W.Frag) : Sp := fun vs H Q _ => ∃ (m a b x : Int) (t : Addr), vs = [.int m, .ref t, .int x] ∧ SqT K H t [.int a, .int b] ∧ 1 ≤ m ∧ 0 ≤ a ∧ a ≤ 1000000000 ∧
  Q (.int ((a * x + b) % m)) H
def sp_compose (K : PySem.W.Frag) : Sp := fun vs H Q _ => ∃ (m a b c d : Int) (s t : Addr), vs = [.int m, .ref s, .ref t] ∧ SqT K H s [.int a, .int b] ∧ SqT K H t [.int c, .int d] ∧
  1 ≤ m ∧ 0 ≤ a ∧ a ≤ 1000000000 ∧ 0 ≤ c ∧ c ≤ 1000000000 ∧ ∀ H' p, Same H H' → H p = none → H' p = some (.tup [.int (a * c % m), .int ((c * b + d) % m)]) → Q (.ref p) H'
def sp_uinv : Sp := fun vs H Q _ => ∃ m a : Int, vs = [.int m, .int a] ∧ 2 ≤ m ∧ m ≤ 1000000000 ∧ Unit' m a ∧ ∀ H' r, Same H H' → 0 ≤ r → r < m → Cg m (r * a) 1 → Q (.int r) H'
def sp_luinv : Sp := fun vs H Q _ => ∃ m a : Int, vs = [.int a, .int m] ∧ 2 ≤ m ∧ m ≤ 1000000000 ∧ Unit' m a ∧ ∀ H' r, Same H H' → 0 ≤ r → r < m → Cg m (r * a) 1 → Q (.int r) H'
def sp_inverse (K : PySem.W.Frag) : Sp := fun vs H Q _ => ∃ (m a b : Int) (t : Addr), vs = [.int m, .ref t] ∧ SqT K H t [.int a, .int b] ∧ 2 ≤ m ∧ m ≤ 1000000000 ∧ Unit' m a ∧
  ∀ H' p r, Same H H' → H p = none → 0 ≤ r → r < m → Cg m (r * a) 1 → H' p = some (.tup [.int r, .int ((-r * b) % m)]) → Q (.ref p) H'
def mapXY (m : Int) : V → V → Bool
  | .int a, .int b => (decide (0 ≤ a) && decide (a ≤ m - 1)) && ((decide (0 ≤ b) && decide (b ≤ m - 1)) && decide (gcdI a m = 1))
  | _, _ => false
/-- whether a value is a map modulo m -/
inductive IsMp (K : PySem.W.Frag) (H : Hp) (m : Int) : V → Bool → Prop where
  | no {v : V} {t : Value} (h : TyX K H v t) (k : PySem.W.kitOne K t (.type "tuple") = some false) : IsMp K H m v false
  | len {a : Addr} {xs : List V} (h : H a = some (.tup xs)) (n : xs.length ≠ 2) : IsMp K H m (.ref a) false
  | two {a : Addr} {x y : V} (h : H a = some (.tup [x, y])) (kx : Kd K H x) (ky : Kd K H y) : IsMp K H m (.ref a) (mapXY m x y)
def sp_ismap (K : PySem.W.Frag) : Sp := fun vs H Q _ => ∃ (m : Int) (v : V) (b : Bool), vs = [.int m, v] ∧ 2 ≤ m ∧ m ≤ 1000000000 ∧ IsMp K H m v b ∧ ∀ H', Same H H' → Q (.bl b) H'
/-- a tuple of two ints and its repr -/
theorem rp_tup2 {K : PySem.W.Frag} {H : Hp} {t : Addr} {a b : Int} (h : SqT K H t [.int a, .int b]) (ha : a.natAbs < 1000000000000) (hb : b.natAbs < 1000000000000) :
    Rp K H (.ref t) (.tuple [.int a, .int b]) := by
  have hn : ∀ z ∈ [a, b], z.natAbs < 1000000000000 := by
    intro z hz
    simp only [List.mem_cons, List.mem_nil_iff, or_false] at hz
    rcases hz with rfl | rfl
    · exact ha
    · exact hb
  refine ⟨Dp.tup h (.cons (.int a) (.cons (.int b) .nil)), ?_, ?_, ?_⟩
  · simp only [PyData.showable]; exact show_ints [a, b] hn
  · simp only [PyData.depth]; rw [show PyData.depthAll [.int a, .int b] = 0 from depth_ints [a, b]]; decide
  · refine PyData.shown_fits_bulk (B := 13) (by decide) (by decide) ?_ ?_
    · simp only [PyData.leavesShort]; exact short_ints [a, b] hn
    · simp only [PyData.bulk]; rw [show PyData.bulkAll [.int a, .int b] = 2 from bulk_ints [a, b]]; decide
theorem rp_int {K : PySem.W.Frag} {H : Hp} {a : Int} (ha : a.natAbs < 1000000000000) : Rp K H (.int a) (.int a) := by
  have h2 : a.natAbs < 2 ^ 64 := Nat.lt_of_lt_of_le ha (by decide)
  have h3 : a.natAbs.log2 < 1920 := Nat.lt_of_lt_of_le (PySem.Flt.log2_lt_of (by decide) h2) (by decide)
  refine ⟨Dp.int a, ?_, by simp [PyData.depth], ?_⟩
  · simp only [PyData.showable]; exact decide_eq_true h3
  · have := PyData.shown_fits_bulk (B := 13) (d := .int a) (by decide) (by decide) (int_short ha) (by simp [PyData.bulk])
    exact this
/-- two that are equal are not told apart -/
theorem ne_int {x y : Int} (h : x = y) : V.bl (!decide (V.int x = V.int y)) = V.bl false := by
  rw [h, decide_eq_true rfl]; rfl
theorem ne_str {x y : Str} (h : x = y) : V.bl (!decide (V.str x = V.str y)) = V.bl false := by
  rw [h, decide_eq_true rfl]; rfl
end Vg

set_option Elab.async false
set_option linter.all false
set_option maxRecDepth 100000
set_option maxHeartbeats 2000000
namespace Vg
open PySem PySem.Spec PyProof.Rows L2
/-! ### the group of the maps modulo m -/
abbrev Mp := Int × Int
def cmp (m : Int) (f g : Mp) : Mp := (f.1 * g.1 % m, (g.1 * f.2 + g.2) % m)
def one1 : Mp := (1, 0)
/-- a map modulo m -/
structure Ok (m : Int) (f : Mp) : Prop where
  u : Unit' m f.1
  b0 : 0 ≤ f.2
  b1 : f.2 < m
theorem unit_inv_ex {m a : Int} (hm : 2 ≤ m) (h : Unit' m a) : ∃ r, 0 ≤ r ∧ r < m ∧ Cg m (r * a) 1 := by
  -- by Euclid's way
  have key : ∀ (k : Nat) (x y u v : Int), y.toNat ≤ k → Cg m x (u * a) → Cg m y (v * a) → 0 ≤ x → 0 ≤ y → gcdI x y = 1 → ∃ r, 0 ≤ r ∧ r < m ∧ Cg m (r * a) 1 := by
    intro k
    induction k with
    | zero =>
      intro x y u v hk cx cy x0 y0 g
      have hy : y = 0 := by omega
      subst hy
      rw [gcd_end x0] at g
      subst g
      exact ⟨u % m, Int.emod_nonneg _ (by omega), Int.emod_lt_of_pos _ (by omega), ((Cg.mod m u).mulR a).trans cx.symm⟩
    | succ k ih =>
      intro x y u v hk cx cy x0 y0 g
      by_cases c : y = 0
      · subst c
        rw [gcd_end x0] at g
        subst g
        exact ⟨u % m, Int.emod_nonneg _ (by omega), Int.emod_lt_of_pos _ (by omega), ((Cg.mod m u).mulR a).trans cx.symm⟩
      · have hy : 0 < y := by omega
        have b := fmod_b (a := x) (b := y) hy
        have e1 : x - x.fdiv y * y = x.fmod y := by
          have := Int.mul_fdiv_add_fmod x y
          rw [Int.mul_comm] at this
          omega
        refine ih y (x.fmod y) v (u - x.fdiv y * v) (by omega) cy ?_ y0 b.1 (by rw [gcd_step x0 hy]; exact g)
        have := cx.sub (cy.mulL (x.fdiv y))
        rw [Int.sub_mul, Int.mul_assoc, ← e1]
        exact this
  exact key _ a m 1 0 (Nat.le_refl _) (Cg.of (by omega)) ⟨1, by omega⟩ h.1 (by omega) h.2.2
theorem unit_of {m a r : Int} (hm : 2 ≤ m) (h : Cg m (a * r) 1) (a0 : 0 ≤ a) (a1 : a < m) : Unit' m a := inv_unit hm h a0 a1
theorem unit_mul {m a b : Int} (hm : 2 ≤ m) (ha : Unit' m a) (hb : Unit' m b) : Unit' m (a * b % m) := by
  obtain ⟨r, _, _, hr⟩ := unit_inv_ex hm ha
  obtain ⟨s, _, _, hs⟩ := unit_inv_ex hm hb
  refine unit_of (r := s * r) hm ?_ (Int.emod_nonneg _ (by omega)) (Int.emod_lt_of_pos _ (by omega))
  have h1 : Cg m (a * b % m * (s * r)) (a * b * (s * r)) := (Cg.mod m _).mulR _
  have h2 : a * b * (s * r) = (s * b) * (r * a) := by
    simp only [Int.mul_assoc, Int.mul_comm, Int.mul_left_comm]
  have h3 : Cg m ((s * b) * (r * a)) (1 * 1) := hs.mul hr
  exact h1.trans ((Cg.of h2).trans h3)
theorem Ok.one {m : Int} (hm : 2 ≤ m) : Ok m one1 := ⟨⟨by decide, by show (1 : Int) < m; omega, gcd_one (by omega)⟩, Int.le_refl _, by show (0 : Int) < m; omega⟩
theorem Ok.cmp {m : Int} {f g : Mp} (hm : 2 ≤ m) (hf : Ok m f) (hg : Ok m g) : Ok m (cmp m f g) :=
  ⟨unit_mul hm hf.u hg.u, Int.emod_nonneg _ (by omega), Int.emod_lt_of_pos _ (by omega)⟩
theorem mp_eq {m : Int} {f g : Mp} (hf : Ok m f) (hg : Ok m g) (h1 : Cg m f.1 g.1) (h2 : Cg m f.2 g.2) : f = g := by
  have e1 := h1.eqS hf.u.1 hf.u.2.1 hg.u.1 hg.u.2.1
  have e2 := h2.eqS hf.b0 hf.b1 hg.b0 hg.b1
  cases f; cases g
  simp only at e1 e2
  rw [e1, e2]
theorem cmp_assoc {m : Int} {f g h : Mp} (hm : 2 ≤ m) (hf : Ok m f) (hg : Ok m g) (hh : Ok m h) : cmp m (cmp m f g) h = cmp m f (cmp m g h) := by
  refine mp_eq ((hf.cmp hm hg).cmp hm hh) (hf.cmp hm (hg.cmp hm hh)) ?_ ?_
  · have h1 : Cg m (f.1 * g.1 % m * h.1 % m) (f.1 * g.1 * h.1) := (Cg.mod m _).trans ((Cg.mod m _).mulR _)
    have h2 : Cg m (f.1 * (g.1 * h.1 % m) % m) (f.1 * (g.1 * h.1)) := (Cg.mod m _).trans ((Cg.mod m _).mulL _)
    exact h1.trans ((Cg.of (Int.mul_assoc _ _ _)).trans h2.symm)
  · have h1 : Cg m ((h.1 * ((g.1 * f.2 + g.2) % m) + h.2) % m) (h.1 * (g.1 * f.2 + g.2) + h.2) := (Cg.mod m _).trans (((Cg.mod m _).mulL _).add (Cg.refl m _))
    have h2 : Cg m ((g.1 * h.1 % m * f.2 + (h.1 * g.2 + h.2) % m) % m) (g.1 * h.1 * f.2 + (h.1 * g.2 + h.2)) :=
      (Cg.mod m _).trans (((Cg.mod m _).mulR _).add (Cg.mod m _))
    refine h1.trans ((Cg.of ?_).trans h2.symm)
    rw [Int.mul_add, ← Int.mul_assoc, Int.mul_comm h.1 g.1]
    omega
theorem cmp_one {m : Int} {f : Mp} (hm : 2 ≤ m) (hf : Ok m f) : cmp m f one1 = f := by
  refine mp_eq (hf.cmp hm (Ok.one hm)) hf ?_ ?_
  · exact (Cg.mod m _).trans (Cg.of (by show f.1 * 1 = f.1; omega))
  · exact (Cg.mod m _).trans (Cg.of (by show 1 * f.2 + 0 = f.2; omega))
theorem one_cmp {m : Int} {f : Mp} (hm : 2 ≤ m) (hf : Ok m f) : cmp m one1 f = f := by
  refine mp_eq ((Ok.one hm).cmp hm hf) hf ?_ ?_
  · exact (Cg.mod m _).trans (Cg.of (by show 1 * f.1 = f.1; omega))
  · exact (Cg.mod m _).trans (Cg.of (by show f.1 * 0 + f.2 = f.2; omega))
/-- g takes f back -/
def IsInv (m : Int) (f g : Mp) : Prop := Ok m g ∧ cmp m f g = one1 ∧ cmp m g f = one1
theorem inv_is {m r : Int} {f : Mp} (hm : 2 ≤ m) (hf : Ok m f) (r0 : 0 ≤ r) (r1 : r < m) (h : Cg m (r * f.1) 1) : IsInv m f (r, -r * f.2 % m) := by
  have ok : Ok m (r, -r * f.2 % m) := ⟨inv_unit hm h r0 r1, Int.emod_nonneg _ (by omega), Int.emod_lt_of_pos _ (by omega)⟩
  refine ⟨ok, ?_, ?_⟩
  · refine mp_eq (hf.cmp hm ok) (Ok.one hm) ?_ ?_
    · exact (Cg.mod m _).trans ((Cg.of (Int.mul_comm _ _)).trans h)
    · refine (Cg.mod m _).trans (((Cg.refl m _).add (Cg.mod m _)).trans (Cg.of ?_))
      show r * f.2 + -r * f.2 = 0
      rw [Int.neg_mul]; omega
  · refine mp_eq (ok.cmp hm hf) (Ok.one hm) ?_ ?_
    · exact (Cg.mod m _).trans h
    · have h1 : Cg m (f.1 * (-r * f.2 % m) + f.2) (f.1 * (-r * f.2) + f.2) := ((Cg.mod m _).mulL _).add (Cg.refl m _)
      have h2 : f.1 * (-r * f.2) + f.2 = (1 - r * f.1) * f.2 := by
        rw [Int.sub_mul, Int.one_mul, Int.neg_mul, Int.mul_neg, Int.mul_left_comm, ← Int.mul_assoc]
        omega
      have h3 : Cg m ((1 - r * f.1) * f.2) (0 * f.2) := by
        have : Cg m (1 - r * f.1) 0 := ((Cg.refl m 1).sub h).trans (Cg.of (by omega))
        exact this.mulR _
      refine (Cg.mod m _).trans (h1.trans ((Cg.of h2).trans (h3.trans (Cg.of ?_))))
      show 0 * f.2 = 0
      rw [Int.zero_mul]
theorem inv_alone {m : Int} {f g h : Mp} (hm : 2 ≤ m) (hf : Ok m f) (a : IsInv m f g) (b : IsInv m f h) : g = h := by
  have e := cmp_assoc hm a.1 hf b.1
  rw [a.2.2, b.2.1, one_cmp hm b.1, cmp_one hm a.1] at e
  exact e.symm
theorem IsInv.symm {m : Int} {f g : Mp} (hf : Ok m f) (a : IsInv m f g) : IsInv m g f := ⟨hf, a.2.2, a.2.1⟩
theorem inv_ex {m : Int} {f : Mp} (hm : 2 ≤ m) (hf : Ok m f) : ∃ g, IsInv m f g := by
  obtain ⟨r, r0, r1, h⟩ := unit_inv_ex hm hf.u
  exact ⟨_, inv_is hm hf r0 r1 h⟩
/-- whole powers -/
def npw (m : Int) (f : Mp) : Nat → Mp
  | 0 => one1
  | n + 1 => cmp m (npw m f n) f
section
variable {m : Int} {f g : Mp}
theorem npw_ok (hm : 2 ≤ m) (hf : Ok m f) : ∀ n, Ok m (npw m f n)
  | 0 => Ok.one hm
  | n + 1 => (npw_ok hm hf n).cmp hm hf
theorem npw_add (hm : 2 ≤ m) (hf : Ok m f) (a : Nat) : ∀ b, cmp m (npw m f a) (npw m f b) = npw m f (a + b)
  | 0 => cmp_one hm (npw_ok hm hf a)
  | b + 1 => by
    show cmp m (npw m f a) (cmp m (npw m f b) f) = cmp m (npw m f (a + b)) f
    rw [← cmp_assoc hm (npw_ok hm hf a) (npw_ok hm hf b) hf, npw_add hm hf a b]
theorem npw_one (hm : 2 ≤ m) (hf : Ok m f) : npw m f 1 = f := one_cmp hm hf
theorem npw_mul (hm : 2 ≤ m) (hf : Ok m f) (a : Nat) : ∀ b, npw m (npw m f a) b = npw m f (a * b)
  | 0 => rfl
  | b + 1 => by
    show cmp m (npw m (npw m f a) b) (npw m f a) = npw m f (a * b + a)
    rw [npw_mul hm hf a b, npw_add hm hf]
theorem npw_inv (hm : 2 ≤ m) (hf : Ok m f) (h : IsInv m f g) : ∀ n, IsInv m (npw m f n) (npw m g n)
  | 0 => ⟨Ok.one hm, one_cmp hm (Ok.one hm), one_cmp hm (Ok.one hm)⟩
  | n + 1 => by
    have ih := npw_inv hm hf h n
    have ef : npw m f (n + 1) = cmp m f (npw m f n) := by
      have := npw_add hm hf 1 n
      rw [npw_one hm hf, Nat.add_comm] at this
      exact this.symm
    have eg : npw m g (n + 1) = cmp m g (npw m g n) := by
      have := npw_add hm h.1 1 n
      rw [npw_one hm h.1, Nat.add_comm] at this
      exact this.symm
    have o1 := npw_ok hm hf n
    have o2 := npw_ok hm h.1 n
    refine ⟨npw_ok hm h.1 (n + 1), ?_, ?_⟩
    · rw [eg]
      show cmp m (cmp m (npw m f n) f) (cmp m g (npw m g n)) = one1
      rw [cmp_assoc hm o1 hf (h.1.cmp hm o2), ← cmp_assoc hm hf h.1 o2, h.2.1, one_cmp hm o2, ih.2.1]
    · rw [ef]
      show cmp m (cmp m (npw m g n) g) (cmp m f (npw m f n)) = one1
      rw [cmp_assoc hm o2 h.1 (hf.cmp hm o1), ← cmp_assoc hm h.1 hf o1, h.2.2, one_cmp hm o1, ih.2.2]
/-- the power with exponent e: p is it -/
def IsPw (m : Int) (f : Mp) (e : Int) (p : Mp) : Prop :=
  (0 ≤ e → p = npw m f e.toNat) ∧ (e < 0 → ∀ g, IsInv m f g → p = npw m g (-e).toNat)
theorem pw_ok (hm : 2 ≤ m) (hf : Ok m f) {e : Int} {p : Mp} (h : IsPw m f e p) : Ok m p := by
  by_cases c : 0 ≤ e
  · rw [h.1 c]; exact npw_ok hm hf _
  · obtain ⟨g, hg⟩ := inv_ex hm hf
    rw [h.2 (by omega) g hg]; exact npw_ok hm hg.1 _
theorem pw_alone (hm : 2 ≤ m) (hf : Ok m f) {e : Int} {p q : Mp} (h : IsPw m f e p) (k : IsPw m f e q) : p = q := by
  by_cases c : 0 ≤ e
  · rw [h.1 c, k.1 c]
  · obtain ⟨g, hg⟩ := inv_ex hm hf
    rw [h.2 (by omega) g hg, k.2 (by omega) g hg]
/-- any exponent is a difference of whole ones -/
theorem pw_diff (hm : 2 ≤ m) (hf : Ok m f) (h : IsInv m f g) {a b : Nat} {e : Int} {p : Mp} (he : e = (a : Int) - (b : Int)) : IsPw m f e p ↔ p = cmp m (npw m f a) (npw m g b) := by
  have key : ∀ q, IsPw m f e q → q = cmp m (npw m f a) (npw m g b) := by
    intro q hq
    rcases Nat.le_total b a with c | c
    · rw [hq.1 (by omega)]
      have e1 : a = e.toNat + b := by omega
      rw [e1, ← npw_add hm hf e.toNat b, cmp_assoc hm (npw_ok hm hf _) (npw_ok hm hf _) (npw_ok hm h.1 _), (npw_inv hm hf h b).2.1, cmp_one hm (npw_ok hm hf _)]
    · by_cases c2 : a = b
      · subst c2
        rw [hq.1 (by omega), (npw_inv hm hf h a).2.1]
        have : e.toNat = 0 := by omega
        rw [this]; rfl
      · rw [hq.2 (by omega) g h]
        have e1 : b = a + (-e).toNat := by omega
        rw [e1, ← npw_add hm h.1 a (-e).toNat, ← cmp_assoc hm (npw_ok hm hf _) (npw_ok hm h.1 _) (npw_ok hm h.1 _), (npw_inv hm hf h a).2.1, one_cmp hm (npw_ok hm h.1 _)]
  refine ⟨key p, fun hp => ?_⟩
  by_cases c : 0 ≤ e
  · have h1 : IsPw m f e (npw m f e.toNat) := ⟨fun _ => rfl, fun z => by omega⟩
    rw [hp, ← key _ h1]; exact h1
  · have h1 : IsPw m f e (npw m g (-e).toNat) := ⟨fun z => by omega, fun _ g' hg' => by rw [inv_alone hm hf h hg']⟩
    rw [hp, ← key _ h1]; exact h1
/-- powers of one map commute -/
theorem npw_comm (hm : 2 ≤ m) (hf : Ok m f) (h : IsInv m f g) (a b : Nat) : cmp m (npw m g a) (npw m f b) = cmp m (npw m f b) (npw m g a) := by
  rcases Nat.le_total a b with c | c
  · have e : b = a + (b - a) := by omega
    have e2 : b = (b - a) + a := by omega
    have h1 : cmp m (npw m g a) (npw m f b) = npw m f (b - a) := by
      rw [e, ← npw_add hm hf a (b - a), ← cmp_assoc hm (npw_ok hm h.1 _) (npw_ok hm hf _) (npw_ok hm hf _), (npw_inv hm hf h a).2.2, one_cmp hm (npw_ok hm hf _)]
      congr 1; omega
    have h2 : cmp m (npw m f b) (npw m g a) = npw m f (b - a) := by
      rw [e2, ← npw_add hm hf (b - a) a, cmp_assoc hm (npw_ok hm hf _) (npw_ok hm hf _) (npw_ok hm h.1 _), (npw_inv hm hf h a).2.1, cmp_one hm (npw_ok hm hf _)]
      congr 1; omega
    rw [h1, h2]
  · have e : a = (a - b) + b := by omega
    have e2 : a = b + (a - b) := by omega
    have h1 : cmp m (npw m g a) (npw m f b) = npw m g (a - b) := by
      rw [e, ← npw_add hm h.1 (a - b) b, cmp_assoc hm (npw_ok hm h.1 _) (npw_ok hm h.1 _) (npw_ok hm hf _), (npw_inv hm hf h b).2.2, cmp_one hm (npw_ok hm h.1 _)]
      congr 1; omega
    have h2 : cmp m (npw m f b) (npw m g a) = npw m g (a - b) := by
      rw [e2, ← npw_add hm h.1 b (a - b), ← cmp_assoc hm (npw_ok hm hf _) (npw_ok hm h.1 _) (npw_ok hm h.1 _), (npw_inv hm hf h b).2.1, one_cmp hm (npw_ok hm h.1 _)]
      congr 1; omega
    rw [h1, h2]
/-- exponents add -/
theorem pw_add (hm : 2 ≤ m) (hf : Ok m f) {d e : Int} {p q : Mp} (hp : IsPw m f d p) (hq : IsPw m f e q) : IsPw m f (d + e) (cmp m p q) := by
  obtain ⟨g, h⟩ := inv_ex hm hf
  have e1 := (pw_diff hm hf h (a := d.toNat) (b := (-d).toNat) (by omega)).mp hp
  have e2 := (pw_diff hm hf h (a := e.toNat) (b := (-e).toNat) (by omega)).mp hq
  refine (pw_diff hm hf h (a := d.toNat + e.toNat) (b := (-d).toNat + (-e).toNat) (by omega)).mpr ?_
  have o1 := npw_ok hm hf d.toNat
  have o2 := npw_ok hm h.1 (-d).toNat
  have o3 := npw_ok hm hf e.toNat
  have o4 := npw_ok hm h.1 (-e).toNat
  rw [e1, e2, cmp_assoc hm o1 o2 (o3.cmp hm o4), ← cmp_assoc hm o2 o3 o4, npw_comm hm hf h, cmp_assoc hm o3 o2 o4, ← cmp_assoc hm o1 o3 (o2.cmp hm o4),
    npw_add hm hf, npw_add hm h.1]
/-- a power's inverse -/
theorem pw_neg (hm : 2 ≤ m) (hf : Ok m f) {e : Int} {p q : Mp} (hp : IsPw m f e p) (hq : IsPw m f (-e) q) : IsInv m p q := by
  have o1 := pw_ok hm hf hp
  have o2 := pw_ok hm hf hq
  have z : ∀ x, IsPw m f 0 x → x = one1 := fun x hx => hx.1 (by decide)
  refine ⟨o2, z _ ?_, z _ ?_⟩
  · have := pw_add hm hf hp hq
    rw [show e + -e = 0 by omega] at this
    exact this
  · have := pw_add hm hf hq hp
    rw [show -e + e = 0 by omega] at this
    exact this
theorem pw_ex (hm : 2 ≤ m) (hf : Ok m f) (e : Int) : ∃ p, IsPw m f e p := by
  obtain ⟨g, h⟩ := inv_ex hm hf
  exact ⟨_, (pw_diff hm hf h (a := e.toNat) (b := (-e).toNat) (by omega)).mpr rfl⟩
/-- whole powers of a power -/
theorem pw_npw (hm : 2 ≤ m) (hf : Ok m f) {e : Int} {p : Mp} (hp : IsPw m f e p) : ∀ n : Nat, IsPw m f (e * n) (npw m p n)
  | 0 => by
    rw [show e * ((0 : Nat) : Int) = 0 by simp]
    exact ⟨fun _ => rfl, fun z => by omega⟩
  | n + 1 => by
    have := pw_add hm hf (pw_npw hm hf hp n) hp
    have e1 : e * ((n + 1 : Nat) : Int) = e * n + e := by
      rw [Int.natCast_add, Int.mul_add]; simp
    rw [e1]
    exact this
/-- exponents multiply -/
theorem pw_mul (hm : 2 ≤ m) (hf : Ok m f) {d e : Int} {p q : Mp} (hp : IsPw m f d p) (hq : IsPw m p e q) : IsPw m f (d * e) q := by
  have op := pw_ok hm hf hp
  by_cases c : 0 ≤ e
  · rw [hq.1 c]
    have := pw_npw hm hf hp e.toNat
    rw [show ((e.toNat : Nat) : Int) = e by omega] at this
    exact this
  · obtain ⟨r, hr⟩ := pw_ex hm hf (-d)
    rw [hq.2 (by omega) r (pw_neg hm hf hp hr)]
    have := pw_npw hm hf hr (-e).toNat
    rw [show (((-e).toNat : Nat) : Int) = -e by omega, Int.neg_mul_neg] at this
    exact this
/-- the image of x -/
def img (m : Int) (f : Mp) (x : Int) : Int := (f.1 * x + f.2) % m
theorem img_cmp {x : Int} : img m (cmp m f g) x = img m g (img m f x) := comp_img
end
/-! ### promises about powers -/
def TpAt (K : PySem.W.Frag) (H : Hp) (t : Addr) (f : Mp) : Prop := SqT K H t [.int f.1, .int f.2]
theorem TpAt.same {K : PySem.W.Frag} {H H' : Hp} {t : Addr} {f : Mp} (h : TpAt K H t f) (s : Same H H') : TpAt K H' t f := sm_tup s h
def sp_power (K : PySem.W.Frag) : Sp := fun vs H Q _ => ∃ (m : Int) (f : Mp) (e : Int) (t : Addr), vs = [.int m, .ref t, .int e] ∧ TpAt K H t f ∧ 2 ≤ m ∧ m ≤ 1000000000 ∧ Ok m f ∧
  ∀ H' p q, Same H H' → IsPw m f e p → TpAt K H' q p → Q (.ref q) H'
def sp_power0 (K : PySem.W.Frag) : Sp := fun vs H Q _ => ∃ (m : Int) (f : Mp) (e : Int) (t : Addr), vs = [.int m, .ref t, .int e] ∧ TpAt K H t f ∧ 2 ≤ m ∧ m ≤ 1000000000 ∧ Ok m f ∧ 0 ≤ e ∧
  ∀ H' q, Same H H' → TpAt K H' q (npw m f e.toNat) → Q (.ref q) H'
def sp_repeated (K : PySem.W.Frag) : Sp := fun vs H Q _ => ∃ (m : Int) (f : Mp) (e : Int) (t : Addr), vs = [.int m, .ref t, .int e] ∧ TpAt K H t f ∧ 2 ≤ m ∧ m ≤ 1000000000 ∧ Ok m f ∧ -1000000 ≤ e ∧ e ≤ 1000000 ∧
  ∀ H' p q, Same H H' → IsPw m f e p → TpAt K H' q p → Q (.ref q) H'
def sp_iterate (K : PySem.W.Frag) : Sp := fun vs H Q _ => ∃ (m : Int) (f : Mp) (x e : Int) (t : Addr), vs = [.int m, .ref t, .int x, .int e] ∧ TpAt K H t f ∧ 2 ≤ m ∧ m ≤ 1000000000 ∧ Ok m f ∧
  ∀ H' p, Same H H' → IsPw m f e p → Q (.int (img m p x)) H'
def sp_exponent : Sp := fun vs H Q _ => ∃ (p L : Addr) (n : Nat), vs = [.ref p] ∧ PenAt H p L n ∧ n ≤ 90000000 ∧ ∀ H' e, But p H H' → PenAt H' p L (n + 4) → Q (.int e) H'
section
variable {m : Int} {f g r s : Mp}
theorem sq_npw (hm : 2 ≤ m) (hs : Ok m s) : cmp m s s = npw m s 2 := by
  show cmp m s s = cmp m (npw m s 1) s
  rw [npw_one hm hs]
/-- a turn of squaring -/
theorem sq_turn (hm : 2 ≤ m) (hr : Ok m r) (hs : Ok m s) (l : Nat) : cmp m (if l % 2 = 1 then cmp m r s else r) (npw m (cmp m s s) (l / 2)) = cmp m r (npw m s l) := by
  rw [sq_npw hm hs, npw_mul hm hs]
  by_cases c : l % 2 = 1
  · rw [if_pos c, cmp_assoc hm hr hs (npw_ok hm hs _)]
    have h1 := npw_add hm hs 1 (2 * (l / 2))
    rw [npw_one hm hs] at h1
    rw [h1]
    congr 2; omega
  · rw [if_neg c]
    congr 2; omega
theorem and_one {x : Int} (h : 0 ≤ x) : Builtin.bitAnd x 1 = x % 2 := by
  have := Bits.bitAnd_mask (x := x) 1 h
  simpa using this
theorem rp_mp {K : PySem.W.Frag} {H : Hp} {t : Addr} {m : Int} {f : Mp} (h : TpAt K H t f) (hm : m ≤ 1000000000) (o : Ok m f) : Rp K H (.ref t) (.tuple [.int f.1, .int f.2]) := by
  have h1 := o.u.1
  have h2 := o.u.2.1
  have h3 := o.b0
  have h4 := o.b1
  exact rp_tup2 h (by omega) (by omega)
/-- two tuples of ints compared -/
theorem sh_mp {a b : Int} : SeqAt.shaped (.tuple [.int a, .int b]) = true := by
  unfold SeqAt.shaped
  rw [show PyData.canLay0 (.tuple [.int a, .int b]) = true by simp only [PyData.canLay0]; exact lay_ints [a, b],
    show PyData.depth (.tuple [.int a, .int b]) = 1 by simp only [PyData.depth]; rw [show PyData.depthAll [.int a, .int b] = 0 from depth_ints [a, b]]]
  rfl
theorem eqv_mp {a b : Int} : PyData.eqv (.tuple [.int a, .int b]) (.tuple [.int a, .int b]) = true := by
  simp [PyData.eqv, PyData.eqvAll]
theorem dp_mp {K : PySem.W.Frag} {H : Hp} {t : Addr} {f : Mp} (h : TpAt K H t f) : Dp K H (.ref t) (.tuple [.int f.1, .int f.2]) := Dp.tup h (.cons (.int _) (.cons (.int _) .nil))
theorem ne_mp {a b : Int} : V.bl (!PyData.eqv (.tuple [.int a, .int b]) (.tuple [.int a, .int b])) = V.bl false := by rw [eqv_mp]; rfl
end
section
variable {m : Int} {f g i j : Mp}
theorem inv_cmp (hm : 2 ≤ m) (hf : Ok m f) (hg : Ok m g) (hi : IsInv m f i) (hj : IsInv m g j) : IsInv m (cmp m f g) (cmp m j i) := by
  refine ⟨hj.1.cmp hm hi.1, ?_, ?_⟩
  · rw [cmp_assoc hm hf hg (hj.1.cmp hm hi.1), ← cmp_assoc hm hg hj.1 hi.1, hj.2.1, one_cmp hm hi.1, hi.2.1]
  · rw [cmp_assoc hm hj.1 hi.1 (hf.cmp hm hg), ← cmp_assoc hm hi.1 hf hg, hi.2.2, one_cmp hm hg, hj.2.2]
theorem pw_one' (hm : 2 ≤ m) (hf : Ok m f) : IsPw m f 1 f := ⟨fun _ => (npw_one hm hf).symm, fun z => by omega⟩
theorem img_swap {e x : Int} {p : Mp} (hm : 2 ≤ m) (hf : Ok m f) (hp : IsPw m f e p) : img m p (img m f x) = img m f (img m p x) := by
  rw [← img_cmp, ← img_cmp]
  have h1 := pw_add hm hf (pw_one' hm hf) hp
  have h2 := pw_add hm hf hp (pw_one' hm hf)
  rw [Int.add_comm] at h2
  rw [pw_alone hm hf h1 h2]
theorem ne_mpE {a b c d : Int} (h : ((a, b) : Mp) = (c, d)) : V.bl (!PyData.eqv (.tuple [.int a, .int b]) (.tuple [.int c, .int d])) = V.bl false := by
  cases h
  rw [eqv_mp]; rfl
end
end Vg

set_option Elab.async false
set_option linter.all false
set_option maxRecDepth 100000
set_option maxHeartbeats 2000000
namespace Vg
open PySem PySem.Spec PyProof.Rows L2
section
variable {prog : Program} {w : World} {A : Around} {E : Value → Shared → Prop} {s : Shared}
/-- a pair from behind -/
theorem applied_rev2 {sl : Addr} {vl vu vs : Value} {Q : Int × Int × Nat → Shared → Prop} (hs : s.heap.IsSliceOf sl vl vu vs)
    (pl : IsPart vl none) (pu : IsPart vu none) (ps : IsPart vs (some (-1))) (h : Q (1, -1, 2) s) :
    wpAny (model prog w) A (Builtin.Slice.sliceApplied (.ref sl) (pure (2 : Int))) Q E s := by
  obtain ⟨os, hos, hcs, hds⟩ := id hs
  unfold Builtin.Slice.sliceApplied Builtin.Slice.sliceFields
  refine wpAny_bind (wpAny_bind (wpAny_field hos hds (x := vl) rfl (wpAny_bind (wpAny_field hos hds (x := vu) rfl
    (wpAny_bind (wpAny_field hos hds (x := vs) rfl (wpAny_pure ?_)))))))
  refine wpAny_bind (HT.slicePart_ ps ?_)
  show wpAny _ _ (if ((-1 : Int) == 0) = true then _ else _) _ _ s
  rw [if_neg (by decide)]
  refine wpAny_bind (HT.slicePart_ pl (wpAny_bind (HT.slicePart_ pu (wpAny_bind (wpAny_pure ?_)))))
  exact wpAny_pure h
theorem getItem_rev2 {t sl : Addr} {x y : Value} {vl vu vs : Value} {Q : Value → Shared → Prop} (ht : IsTup s.heap t #[x, y])
    (hs : s.heap.IsSliceOf sl vl vu vs) (pl : IsPart vl none) (pu : IsPart vu none) (ps : IsPart vs (some (-1)))
    (h : Q (.ref s.heap.objs.size) { s with heap := s.heap.push { cls := .type "tuple", data := .seq #[y, x] } }) :
    wpAny (model prog w) A (getItem (.ref t) (.ref sl)) Q E s := by
  have hsz : sizeOk (.seq #[y, x]) := by
    show 2 ≤ sizeLine
    decide
  obtain ⟨os, hos, hcs, hds⟩ := id hs
  have hTs : s.TypeIs (.ref sl) "slice" := ⟨os, hos, hcs⟩
  unfold getItem
  try with_reducible refine wpAny_holding ?_
  first
    | refine wpAny_bind (wpAny_pure ?_)
    | skip
  refine wpAny_bind (wpAny_sequenceKey ht.typeIs (by decide) ?_)
  refine wpAny_bind (wpAny_callSpecial?_slot (name := Str.ofString "__getitem__") ht.typeIs
    PyProof.Rows.slot_tuple_getitem (wpAny_call_entry PyProof.Rows.slot_tuple_getitem ht.typeIs
      entry_tuple_getitem ?_ (args_tuple_getitem _ _)))
  show wpAny _ _ (Builtin.Tuple.tupleItemsOf (.ref t) >>= _) _ _ s
  refine wpAny_bind (tupleItemsOf_ ht ?_)
  refine wpAny_bind (wpAny_typeOf hTs ?_)
  rw [if_pos (by decide)]
  refine wpAny_bind (applied_rev2 hs pl pu ps ?_)
  show wpAny _ _ (if ((1 : Int) == 0 && (-1 : Int) == 1 && (2 : Nat) == 2) = true then _ else _) _ _ s
  rw [if_neg (by decide)]
  first
    | exact wpAny_bind (m := Builtin.Tuple.tupleExact _) (wpAny_newObj_type (wpAny_pure ⟨_, rfl, wpAny_pure h⟩) hsz)
    | exact wpAny_bind (m := Builtin.Tuple.tupleExact _) (wpAny_newObj_type (wpAny_bind (wpAny_pure (wpAny_pure ⟨_, rfl, wpAny_pure h⟩))) hsz)
end
/-- t[::-1] of a pair -/
def tRev2 (K : PySem.W.Frag) (te : TE) : TE := fun σ H Q => te σ H fun v H1 => ∃ a x y, v = .ref a ∧ SqT K H1 a [x, y] ∧ ∀ p, H1 p = none → Q (.ref p) (upd H1 p (.tup [y, x]))
theorem pe_rev2 {X : Cx} {e : Expr} {te : TE} {k : Nat} {p1 p2 p3 pos : Pos} (he : PE X e te) :
    PE X (.Subscript e (.Slice none none (some (.UnaryOp .USub (.Constant (.int 1) k p1) p2)) p3) pos) (tRev2 X.K te) := by
  constructor
  intro pins s σ H Q I h
  refine Subscript_ (thn (he.run pins s σ H _ I h) ?_)
  intro v s1 hh
  obtain ⟨v0, H1, I1, r1, a, x, y, ex, hx, q⟩ := hh
  subst ex
  cases r1
  have hst : PO X (some (.UnaryOp .USub (.Constant (.int 1) k p1) p2)) (tPart (tUn (rU fun i => .int (-i)) (tC (.int 1)))) :=
    po_some (pe_un un_neg pe_int)
  refine wpAny_Slice (thn (po_none.run pins s1 σ H1 (fun o H2 => o = none ∧ H2 = H1) I1 ⟨rfl, rfl⟩) ?_)
  intro vl s2 h2
  obtain ⟨l, H2, I2, pl, el, e2⟩ := h2
  subst el e2
  refine thn (po_none.run pins s2 σ H2 (fun o H3 => o = none ∧ H3 = H2) I2 ⟨rfl, rfl⟩) ?_
  intro vu s3 h3
  obtain ⟨u, H3, I3, pu, eu, e3⟩ := h3
  subst eu e3
  refine thn (hst.run pins s3 σ H3 (fun o H4 => o = some (-1) ∧ H4 = H3) I3 ⟨1, rfl, -1, rfl, rfl, rfl⟩) ?_
  intro vs s4 h4
  obtain ⟨o, H4, I4, ps, eo, e4⟩ := h4
  subst eo e4
  have I5 : Inv X pins σ H4 { s4 with heap := s4.heap.push { cls := .type "slice", data := .fields #[vl, vu, vs] } } :=
    I4.kept (t' := s4.toks) fun b ob q => Heap.get?_push_of_some _ q
  obtain ⟨its, r, ht, hz⟩ := I5.tuple hx
  obtain ⟨u1, u2, rfl, r1, r2⟩ := vals2 r
  refine tail_any (ops := [.ref a, .ref s4.heap.objs.size]) ht.typeIs (PyProof.Rows.slot_tuple_getitem.lookup) ?_ (by with_unfolding_all rfl)
  refine getItem_rev2 ht (Heap.IsSliceOf.new _ vl vu vs) pl pu ps ?_
  refine ⟨.ref _, _, I5.laid (t' := s4.toks) (o := .tup [y, x]) (fun b ob q => Heap.get?_push_of_some _ q) (Nat.le_refl _) ?_, rfl,
    q _ (I5.hok.fresh (Nat.le_refl _))⟩
  exact ⟨by show 2 ≤ sizeLine; decide, [u2, u1], .cons r2 (.cons r1 .nil), IsTup.new _ _⟩
/-! ### what is known of values stays known -/
section
variable {K : PySem.W.Frag} {H H' : Hp}
theorem tyof_same (s : Same H H') {v : V} {t : Value} (h : TyOf K H v t) : TyOf K H' v t := by
  cases h with
  | non => exact .non
  | bl x => exact .bl x
  | int i => exact .int i
  | str x => exact .str x
  | flt x => exact .flt x
  | lst e => exact .lst (s _ _ e)
  | frz e => exact .frz (s _ _ e)
  | tup e => exact .tup (s _ _ e)
  | dK e => exact .dK (s _ _ e)
  | dT e => exact .dT (s _ _ e)
  | ins e cl ha hn ht hm => exact .ins (s _ _ e) cl ha hn ht hm
theorem tyx_same (s : Same H H') {v : V} {t : Value} (h : TyX K H v t) : TyX K H' v t := by
  cases h with
  | base b => exact .base (tyof_same s b)
  | byt b => exact .byt b
  | set e => exact .set (s _ _ e)
  | kList e c => exact .kList e c
  | kTuple e c => exact .kTuple e c
  | kDict e c => exact .kDict e c
  | fTuple e => exact .fTuple (s _ _ e)
  | fDict e => exact .fDict (s _ _ e)
theorem kd_same (s : Same H H') {v : V} (h : Kd K H v) : Kd K H' v := by
  obtain ⟨t, bi, bb, ty, r⟩ := h
  exact ⟨t, bi, bb, tyx_same s ty, r⟩
theorem ismp_same (s : Same H H') {m : Int} {v : V} {b : Bool} (h : IsMp K H m v b) : IsMp K H' m v b := by
  cases h with
  | no ty k => exact .no (tyx_same s ty) k
  | len h n => exact .len (s _ _ h) n
  | two h kx ky => exact .two (s _ _ h) (kd_same s kx) (kd_same s ky)
mutual
theorem dp_same (s : Same H H') : ∀ (d : PyData) (v : V), Dp K H v d → Dp K H' v d
  | .none, _, h => by cases h; exact .non
  | .bool b, _, h => by cases h; exact .bl b
  | .int i, _, h => by cases h; exact .int i
  | .str x, _, h => by cases h; exact .str x
  | .list ds, _, h => by
    cases h with
    | lst hs ha => exact .lst (s.seq hs) (dps_same s ds _ ha)
  | .tuple ds, _, h => by
    cases h with
    | tup hs ha => exact .tup (sm_tup s hs) (dps_same s ds _ ha)
  | .dict _, _, h => by cases h
theorem dps_same (s : Same H H') : ∀ (ds : List PyData) (vs : List V), DpAll K H vs ds → DpAll K H' vs ds
  | [], _, h => by cases h; exact .nil
  | d :: ds, _, h => by
    cases h with
    | cons h1 h2 => exact .cons (dp_same s d _ h1) (dps_same s ds _ h2)
end
/-- a value that repr shows: its data, how deep, how large -/
structure It (K : PySem.W.Frag) (H : Hp) (v : V) (d : PyData) (e k : Nat) : Prop where
  dp : Dp K H v d
  sh : d.showable = true
  de : d.depth ≤ e
  ls : d.leavesShort 13 = true
  bk : d.bulk ≤ k
inductive Its (K : PySem.W.Frag) (H : Hp) : List V → List PyData → Nat → Nat → Prop where
  | nil {e : Nat} : Its K H [] [] e 0
  | cons {v : V} {vs : List V} {d : PyData} {ds : List PyData} {e k l : Nat} (h : It K H v d e k) (r : Its K H vs ds e l) : Its K H (v :: vs) (d :: ds) e (k + 1 + l)
theorem It.up {v : V} {d : PyData} {e k e' k' : Nat} (h : It K H v d e k) (he : e ≤ e') (hk : k ≤ k') : It K H v d e' k' :=
  ⟨h.dp, h.sh, Nat.le_trans h.de he, h.ls, Nat.le_trans h.bk hk⟩
theorem its_all {vs : List V} {ds : List PyData} {e k : Nat} (h : Its K H vs ds e k) :
    DpAll K H vs ds ∧ PyData.showableAll ds = true ∧ PyData.depthAll ds ≤ e ∧ PyData.leavesShortAll 13 ds = true ∧ PyData.bulkAll ds ≤ k := by
  induction h with
  | nil => exact ⟨.nil, by simp [PyData.showableAll], by simp [PyData.depthAll], by simp [PyData.leavesShortAll], by simp [PyData.bulkAll]⟩
  | cons h r ih =>
    obtain ⟨a, b, c, d, f⟩ := ih
    refine ⟨.cons h.dp a, ?_, ?_, ?_, ?_⟩
    · simp only [PyData.showableAll, h.sh, b, Bool.and_self]
    · simp only [PyData.depthAll]; exact Nat.max_le.mpr ⟨h.de, c⟩
    · simp only [PyData.leavesShortAll, h.ls, d, Bool.and_self]
    · simp only [PyData.bulkAll]; have := h.bk; omega
theorem it_tup {a : Addr} {vs : List V} {ds : List PyData} {e k : Nat} (h : H a = some (.tup vs)) (r : Its K H vs ds e k) : It K H (.ref a) (.tuple ds) (e + 1) k := by
  obtain ⟨h1, h2, h3, h4, h5⟩ := its_all r
  refine ⟨.tup (SqT.of h) h1, ?_, ?_, ?_, ?_⟩
  · simp only [PyData.showable]; exact h2
  · simp only [PyData.depth]; omega
  · simp only [PyData.leavesShort]; exact h4
  · simp only [PyData.bulk]; exact h5
theorem it_lst {a : Addr} {vs : List V} {ds : List PyData} {e k : Nat} (h : H a = some (.lst vs)) (r : Its K H vs ds e k) : It K H (.ref a) (.list ds) (e + 1) k := by
  obtain ⟨h1, h2, h3, h4, h5⟩ := its_all r
  refine ⟨.lst (SqL.of h) h1, ?_, ?_, ?_, ?_⟩
  · simp only [PyData.showable]; exact h2
  · simp only [PyData.depth]; omega
  · simp only [PyData.leavesShort]; exact h4
  · simp only [PyData.bulk]; exact h5
theorem it_int {i : Int} (h : i.natAbs < 1000000000000) : It K H (.int i) (.int i) 0 0 := by
  have h2 : i.natAbs < 2 ^ 64 := Nat.lt_of_lt_of_le h (by decide)
  have h3 : i.natAbs.log2 < 1920 := Nat.lt_of_lt_of_le (PySem.Flt.log2_lt_of (by decide) h2) (by decide)
  refine ⟨.int i, ?_, by simp [PyData.depth], int_short h, by simp [PyData.bulk]⟩
  simp only [PyData.showable]
  exact decide_eq_true h3
theorem it_bl (b : Bool) : It K H (.bl b) (.bool b) 0 0 := ⟨.bl b, by simp only [PyData.showable], by simp [PyData.depth], by simp only [PyData.leavesShort], by simp [PyData.bulk]⟩
theorem it_non : It K H .non .none 0 0 := ⟨.non, by simp only [PyData.showable], by simp [PyData.depth], by simp only [PyData.leavesShort], by simp [PyData.bulk]⟩
theorem it_str {x : Str} (h : (x.cps.toList.all fun c => decide (c < 16 ^ 8)) = true) (hk : x.cps.size ≤ 100) : It K H (.str x) (.str x) 0 100 :=
  ⟨.str x, by simp only [PyData.showable], by simp [PyData.depth], by simp only [PyData.leavesShort]; exact h, by simp only [PyData.bulk]; exact hk⟩
theorem It.rp {v : V} {d : PyData} {e k : Nat} (h : It K H v d e k) (he : e ≤ 60) (hk : k ≤ 1048576) : Rp K H v d :=
  ⟨h.dp, h.sh, Nat.le_trans h.de he, PyData.shown_fits_bulk (B := 13) (by decide) (by decide) h.ls (Nat.le_trans h.bk (by show k ≤ 2 ^ 20; exact Nat.le_trans hk (by decide)))⟩
theorem rp_same (s : Same H H') {v : V} {d : PyData} (h : Rp K H v d) : Rp K H' v d := ⟨dp_same s _ _ h.dp, h.sh, h.de, h.le⟩
/-- what repr shows of a value: data, or the empty dict -/
def Shw (K : PySem.W.Frag) (H : Hp) (v : V) (x : Str) : Prop := (∃ d, Rp K H v d ∧ x = d.shown) ∨ (∃ a, v = .ref a ∧ H a = some (.dK []) ∧ x = PyData.shown (.dict []))
theorem shw_same (s : Same H H') {v : V} {x : Str} (h : Shw K H v x) : Shw K H' v x := by
  rcases h with ⟨d, r, e⟩ | ⟨a, e1, e2, e3⟩
  · exact .inl ⟨d, rp_same s r, e⟩
  · exact .inr ⟨a, e1, s _ _ e2, e3⟩
/-- all that a law asks of a value: whether it is a map modulo m, how it is shown -/
def Vok (K : PySem.W.Frag) (H : Hp) (m : Int) (v : V) : Prop := (∃ b, IsMp K H m v b) ∧ ∃ x, Shw K H v x
theorem vok_same (s : Same H H') {m : Int} {v : V} (h : Vok K H m v) : Vok K H' m v := by
  obtain ⟨⟨b, hb⟩, x, hx⟩ := h
  exact ⟨⟨b, ismp_same s hb⟩, x, shw_same s hx⟩
/-- the heap without two of its places -/
def mask (p u : Addr) (H : Hp) : Hp := fun b => if b = p then none else if b = u then none else H b
theorem mask_at {p u b : Addr} (h1 : b ≠ p) (h2 : b ≠ u) : mask p u H b = H b := by
  unfold mask; rw [if_neg h1, if_neg h2]
theorem mask_same {p u : Addr} : Same (mask p u H) H := fun b o e => by
  unfold mask at e
  by_cases h1 : b = p
  · rw [if_pos h1] at e; cases e
  · rw [if_neg h1] at e
    by_cases h2 : b = u
    · rw [if_pos h2] at e; cases e
    · rw [if_neg h2] at e; exact e
theorem mask_mono {p u : Addr} (h : ∀ b o, b ≠ p → b ≠ u → H b = some o → H' b = some o) : Same (mask p u H) (mask p u H') := fun b o e => by
  unfold mask at e ⊢
  by_cases h1 : b = p
  · rw [if_pos h1] at e; cases e
  · rw [if_neg h1] at e ⊢
    by_cases h2 : b = u
    · rw [if_pos h2] at e; cases e
    · rw [if_neg h2] at e ⊢; exact h b o h1 h2 e
end
section
variable {X : Cx}
def rReprS (K : PySem.W.Frag) : List V → Hp → VK → Prop := fun xs H Q => ∃ v x, xs = [v] ∧ Shw K H v x ∧ Q (.str x) H
theorem call_reprS (hgu : X.A.guards = some []) (hu : X.A.units + 64 < cLine) : CallR X (.builtin "repr") (rReprS X.K) := by
  intro pins s σ H xs us Q I r h
  obtain ⟨v, x, rfl, hs, q⟩ := h
  rcases hs with ⟨d, rp, rfl⟩ | ⟨a, rfl, ha, rfl⟩
  · exact call_repr hgu hu pins s σ H [v] us Q I r ⟨v, d, rfl, rp.dp, rp.sh, rp.de, rp.le, q⟩
  · obtain ⟨u, rfl, ru⟩ := vals1 r
    cases ru
    obtain ⟨_, hsys, vs, kv, o, es, ep, h1, h2, h3, h4, h5, h6⟩ := (show ObjOk X.prog X.w H s.heap a (.dK []) from I.hok a _ ha)
    cases kv
    generalize hl : es.toList = l at h5
    cases h5
    have R : Reads s.heap (.ref a) (.dict []) (a :: [] ++ []) :=
      .dict h1 h2.1 h3 (by rw [hl]; exact .nil) (by rw [hl]; exact .nil)
    refine repr_of_reads' R rfl (fun _ e => ?_) hgu (by show X.A.units + (PyData.depth (.dict []) + 1) < cLine; have : PyData.depth (.dict []) ≤ 1 := by decide
                                                        omega) (fun _ _ e => e)
      (fun h' uu tk kk => ⟨.str _, H, I.kept kk, ⟨_, rfl⟩, q⟩) (by decide)
    rcases List.mem_cons.mp e with e | e
    · subst e; cases hsys
    · cases e
end
end Vg

set_option Elab.async false
set_option linter.all false
set_option maxRecDepth 100000
set_option maxHeartbeats 2000000
namespace Vg
open PySem PySem.Spec PyProof.Rows L2
/-! ### steps: each combinator's reading, as a rule to go on by -/
section
variable {σ : L2.St} {H H' : Hp} {Q : VK} {D : Ends} {K : PySem.W.Frag}
theorem w_seq {t u : TS} (h : t { D with nx := u D } σ H) : tSeq t u D σ H := h
theorem w_next (h : D.nx σ H) : tNext D σ H := h
theorem w_nx {f b c : L2.St → Hp → Prop} {r : VK} (h : f σ H) : (Ends.mk f r b c).nx σ H := h
theorem w_rt {f b c : L2.St → Hp → Prop} {r : VK} {v : V} (h : r v H) : (Ends.mk f r b c).rt v H := h
theorem w_bk {f b c : L2.St → Hp → Prop} {r : VK} (h : b σ H) : (Ends.mk f r b c).bk σ H := h
theorem w_ct {f b c : L2.St → Hp → Prop} {r : VK} (h : c σ H) : (Ends.mk f r b c).ct σ H := h
theorem w_brk (h : D.bk σ H) : tBreak D σ H := h
theorem w_cnt (h : D.ct σ H) : tCont D σ H := h
theorem w_drop {te : TE} (h : te σ H fun _ H1 => D.nx σ H1) : tDrop te D σ H := h
theorem w_ret {te : TE} (h : te σ H D.rt) : tRet te D σ H := h
theorem w_rtP {te : TE} {f b c : L2.St → Hp → Prop} {r : VK} (h : te σ H r) : te σ H (Ends.mk f r b c).rt := h
theorem w_retN (h : D.rt .non H) : tRetN D σ H := h
theorem w_ifS {c : TT} {t u : TS} (h : c σ H fun b H1 => if b = true then t D σ H1 else u D σ H1) : tIfS c t u D σ H := h
theorem w_asg {te : TE} {g : TG} (h : te σ H fun x H1 => g x σ H1 D.nx) : tAsg te g D σ H := h
theorem w_gname {i : Nat} {v : V} {R : L2.St → Hp → Prop} (h : R (σ.set i (some v)) H) : gName i v σ H R := h
theorem w_gnameN {i : Nat} {v : V} {R : L2.St → Hp → Prop} {σ' : L2.St} (e : σ.set i (some v) = σ') (h : R σ' H) : gName i v σ H R := by subst e; exact h
theorem w_var {i : Nat} {v : V} (e : σ[i]? = some (some v)) (h : Q v H) : tVar i σ H Q := ⟨v, e, h⟩
theorem w_c {v : V} (h : Q v H) : tC v σ H Q := h
theorem w_op {r : R2} {ta tb : TE} (h : ta σ H fun x H1 => tb σ H1 fun y H2 => r x y H2 Q) : tOp r ta tb σ H Q := h
theorem w_un {r : V → Hp → VK → Prop} {ta : TE} (h : ta σ H fun x H1 => r x H1 Q) : tUn r ta σ H Q := h
theorem w_add {i j : Int} (h : Q (.int (i + j)) H) : rI0 (fun i j => .int (i + j)) (.int i) (.int j) H Q := ⟨i, j, rfl, rfl, h⟩
theorem w_sub {i j : Int} (h : Q (.int (i - j)) H) : rI0 (fun i j => .int (i - j)) (.int i) (.int j) H Q := ⟨i, j, rfl, rfl, h⟩
theorem w_mul {i j : Int} (c : CMul i j) (h : Q (.int (i * j)) H) : rI CMul (fun i j => .int (i * j)) (.int i) (.int j) H Q := ⟨i, j, rfl, rfl, c, h⟩
theorem w_mulL {i j : Int} (h1 : -18446744073709551616 < i) (h2 : i < 18446744073709551616) (h : Q (.int (i * j)) H) : rI CMul (fun i j => .int (i * j)) (.int i) (.int j) H Q := w_mul (.inl ⟨by omega, by omega⟩) h
theorem w_mulR {i j : Int} (h1 : -18446744073709551616 < j) (h2 : j < 18446744073709551616) (h : Q (.int (i * j)) H) : rI CMul (fun i j => .int (i * j)) (.int i) (.int j) H Q := w_mul (.inr ⟨by omega, by omega⟩) h
theorem w_modN {i j : Int} (c : 0 < j) (h : Q (.int (i % j)) H) : rI (fun _ j => j ≠ 0) (fun i j => .int (i.fmod j)) (.int i) (.int j) H Q :=
  ⟨i, j, rfl, rfl, by show j ≠ 0; omega, by show Q (.int (i.fmod j)) H; rw [Int.fmod_eq_emod_of_nonneg _ (by omega)]; exact h⟩
theorem w_fdivN {i j : Int} (c : 0 < j) (c1 : j < 1073741824) (h : Q (.int (i / j)) H) : rI CDivN (fun i j => .int (i.fdiv j)) (.int i) (.int j) H Q :=
  ⟨i, j, rfl, rfl, ⟨by omega, by omega⟩, by show Q (.int (i.fdiv j)) H; rw [Int.fdiv_eq_ediv_of_nonneg _ (by omega)]; exact h⟩
theorem w_fdivW {i j : Int} (c : 0 < j) (c1 : j < 18446744073709551616) (h : Q (.int (i / j)) H) : rI CDivW (fun i j => .int (i / j)) (.int i) (.int j) H Q :=
  ⟨i, j, rfl, rfl, ⟨c, log_lt c1 c⟩, h⟩
theorem w_neg {i : Int} (h : Q (.int (-i)) H) : rU (fun i => .int (-i)) (.int i) H Q := ⟨i, rfl, h⟩
theorem w_lt {i j : Int} (h : Q (.bl (decide (i < j))) H) : rI0 (fun i j => .bl (decide (i < j))) (.int i) (.int j) H Q := ⟨i, j, rfl, rfl, h⟩
theorem w_le {i j : Int} (h : Q (.bl (decide (i ≤ j))) H) : rI0 (fun i j => .bl (decide (i ≤ j))) (.int i) (.int j) H Q := ⟨i, j, rfl, rfl, h⟩
theorem w_gt {i j : Int} (h : Q (.bl (decide (j < i))) H) : rI0 (fun i j => .bl (decide (j < i))) (.int i) (.int j) H Q := ⟨i, j, rfl, rfl, h⟩
theorem w_ge {i j : Int} (h : Q (.bl (decide (j ≤ i))) H) : rI0 (fun i j => .bl (decide (j ≤ i))) (.int i) (.int j) H Q := ⟨i, j, rfl, rfl, h⟩
theorem w_eq {i j : Int} (h : Q (.bl (decide (i = j))) H) : rEq (.int i) (.int j) H Q := ⟨rfl, by rw [dp1]; exact h⟩
theorem w_ne {i j : Int} (h : Q (.bl (!decide (i = j))) H) : rNe (.int i) (.int j) H Q := ⟨rfl, by rw [dp1]; exact h⟩
theorem dpS {a b : Str} : decide (V.str a = V.str b) = decide (a = b) := by
  by_cases h : a = b
  · subst h; simp
  · have : ¬ (V.str a = V.str b) := fun z => h (V.str.inj z)
    rw [decide_eq_false h, decide_eq_false this]
theorem w_eqS {i j : Str} (h : Q (.bl (decide (i = j))) H) : rEq (.str i) (.str j) H Q := ⟨rfl, by rw [dpS]; exact h⟩
theorem w_neS {i j : Str} (h : Q (.bl (!decide (i = j))) H) : rNe (.str i) (.str j) H Q := ⟨rfl, by rw [dpS]; exact h⟩
theorem w_neB {i j : Bool} (h : Q (.bl (!decide (i = j))) H) : rNe (.bl i) (.bl j) H Q := by
  refine ⟨rfl, ?_⟩
  have e : decide (V.bl i = V.bl j) = decide (i = j) := by
    cases i <;> cases j <;> simp
  rw [e]; exact h
theorem w_eqB {i j : Bool} (h : Q (.bl (decide (i = j))) H) : rEq (.bl i) (.bl j) H Q := by
  refine ⟨rfl, ?_⟩
  have e : decide (V.bl i = V.bl j) = decide (i = j) := by
    cases i <;> cases j <;> simp
  rw [e]; exact h
theorem w_chain {r r' : R2} {ta tb tc : TE} (h : ta σ H fun x H1 => tb σ H1 fun y H2 => r x y H2 fun z H3 => ∃ k, z = .bl k ∧ (if k = true then tc σ H3 fun w' H4 => r' y w' H4 Q else Q (.bl false) H3)) : tChain r r' ta tb tc σ H Q := h
theorem w_notV {ta : TE} (h : ta σ H fun x H1 => ∃ c, x = .bl c ∧ Q (.bl (!c)) H1) : tNotV ta σ H Q := h
theorem w_pow9 (h : Q (.int 1000000000) H) : rI CPow (fun i j => .int (i ^ j.toNat)) (.int 10) (.int 9) H Q := ⟨10, 9, rfl, rfl, ⟨by decide, by decide, by decide⟩, h⟩
theorem w_pow6 (h : Q (.int 1000000) H) : rI CPow (fun i j => .int (i ^ j.toNat)) (.int 10) (.int 6) H Q := ⟨10, 6, rfl, rfl, ⟨by decide, by decide, by decide⟩, h⟩
theorem w_pow8 (h : Q (.int 100000000) H) : rI CPow (fun i j => .int (i ^ j.toNat)) (.int 10) (.int 8) H Q := ⟨10, 8, rfl, rfl, ⟨by decide, by decide, by decide⟩, h⟩
theorem w_pow18 (h : Q (.int 1000000000000000000) H) : rI CPow (fun i j => .int (i ^ j.toNat)) (.int 10) (.int 18) H Q := ⟨10, 18, rfl, rfl, ⟨by decide, by decide, by decide⟩, h⟩
theorem w_neSe {i j : Str} (e : i = j) (h : Q (.bl false) H) : rNe (.str i) (.str j) H Q := w_neS (by rw [decide_eq_true e]; exact h)
theorem w_test {t : TE} {R : Bool → Hp → Prop} (h : t σ H fun x H' => ∃ k, x = .bl k ∧ R k H') : tTest t σ H R := h
theorem w_tb {b : Bool} {R : Bool → Prop} (h : R b) : ∃ k, V.bl b = .bl k ∧ R k := ⟨b, rfl, h⟩
theorem w_tB {t : TE} {R : Bool → Hp → Prop} (h : t σ H fun x H' => ∃ k, x = .bl k ∧ R k H') : tB t σ H R := h
theorem w_and {t u : TT} {R : Bool → Hp → Prop} (h : t σ H fun c H1 => if c = true then u σ H1 R else R false H1) : tAnd t u σ H R := h
theorem w_or {t u : TT} {R : Bool → Hp → Prop} (h : t σ H fun c H1 => if c = true then R true H1 else u σ H1 R) : tOr t u σ H R := h
theorem w_not {t : TT} {R : Bool → Hp → Prop} (h : t σ H fun c H1 => R (!c) H1) : tNot t σ H R := h
theorem w_tif {t : TT} {ta tb : TE} (h : t σ H fun c H1 => if c = true then ta σ H1 Q else tb σ H1 Q) : tIf t ta tb σ H Q := h
theorem w_nil {R : List V → Hp → Prop} (h : R [] H) : tNil σ H R := h
theorem w_cons {ta : TE} {tr : TA} {R : List V → Hp → Prop} (h : ta σ H fun x H1 => tr σ H1 fun xs H2 => R (x :: xs) H2) : tCons ta tr σ H R := h
theorem w_call {sp : Sp} {E : XK} {t : TA} (h : t σ H fun vs H1 => sp vs H1 Q E) : tCall sp [] E t σ H Q := by
  show t σ H fun vs H1 => sp (vs ++ []) H1 Q E
  simp only [List.append_nil]
  exact h
theorem w_cb {r : List V → Hp → VK → Prop} {t : TA} (h : t σ H fun vs H1 => r vs H1 Q) : tCB r t σ H Q := h
def NewT (Q : VK) (xs : List V) (H : Hp) : Prop := xs.length ≤ sizeLine ∧ ∀ p, H p = none → Q (.ref p) (upd H p (.tup xs))
def NewL (Q : VK) (xs : List V) (H : Hp) : Prop := xs.length ≤ sizeLine ∧ ∀ p, H p = none → Q (.ref p) (upd H p (.lst xs))
theorem w_tup {t : TA} (h : t σ H (NewT Q)) : tTup t σ H Q := h
theorem w_lst {t : TA} (h : t σ H (NewL Q)) : tLst t σ H Q := h
/-- a new tuple, a new list -/
theorem w_newT {xs : List V} (l : Nat.ble xs.length 1000 = true) (h : ∀ p H', H p = none → Same H H' → H' p = some (.tup xs) → Q (.ref p) H') : NewT Q xs H :=
  ⟨Nat.le_trans (Nat.le_of_ble_eq_true l) (by decide), fun p hp => h p _ hp (sm_new hp) upd_same⟩
theorem w_newL {xs : List V} (l : Nat.ble xs.length 1000 = true) (h : ∀ p H', H p = none → Same H H' → H' p = some (.lst xs) → Q (.ref p) H') : NewL Q xs H :=
  ⟨Nat.le_trans (Nat.le_of_ble_eq_true l) (by decide), fun p hp => h p _ hp (sm_new hp) upd_same⟩
theorem w_par {i j : Nat} {ta : TA} (h : ta σ H fun vs H1 => ∃ v w, vs = [v, w] ∧ D.nx ((σ.set i (some v)).set j (some w)) H1) : tPar i j ta D σ H := h
theorem w_par' {i j : Nat} {v w : V} {R : L2.St → Hp → Prop} (h : R ((σ.set i (some v)).set j (some w)) H) : ∃ v' w', [v, w] = [v', w'] ∧ R ((σ.set i (some v')).set j (some w')) H := ⟨v, w, rfl, h⟩
theorem w_par3 {i j l : Nat} {ta : TA} (h : ta σ H fun vs H1 => ∃ u v w, vs = [u, v, w] ∧ D.nx (((σ.set i (some u)).set j (some v)).set l (some w)) H1) : tPar3 i j l ta D σ H := h
theorem w_parN {i j : Nat} {v w : V} {R : L2.St → Hp → Prop} {σ' : L2.St} (e : (σ.set i (some v)).set j (some w) = σ') (h : R σ' H) : ∃ v' w', [v, w] = [v', w'] ∧ R ((σ.set i (some v')).set j (some w')) H := by subst e; exact ⟨v, w, rfl, h⟩
theorem w_par3' {i j l : Nat} {u v w : V} {R : L2.St → Hp → Prop} (h : R (((σ.set i (some u)).set j (some v)).set l (some w)) H) : ∃ u' v' w', [u, v, w] = [u', v', w'] ∧ R (((σ.set i (some u')).set j (some v')).set l (some w')) H := ⟨u, v, w, rfl, h⟩
/-- a, b = t -/
theorem w_gtup {K' : PySem.W.Frag} {n : Nat} {t : TGs} {a : Addr} {xs : List V} {R : L2.St → Hp → Prop} (e : SqT K H a xs) (l : xs.length = n) (hk : K' = K) (h : t xs σ H R) : gTup K' n t (.ref a) σ H R := by
  subst hk
  exact ⟨a, xs, rfl, e, l, h⟩
theorem w_ixT {K' : PySem.W.Frag} {a : Addr} {xs : List V} {i : Int} {v : V} (e : SqT K H a xs) (hk : K' = K) (hv : atI xs i = some v) (h : Q v H) : rIxT K' (.ref a) (.int i) H Q := by
  subst hk
  exact ⟨a, xs, i, v, rfl, rfl, e, hv, h⟩
theorem w_gcons {t : TG} {u : TGs} {v : V} {r : List V} {R : L2.St → Hp → Prop} (h : t v σ H fun σ' H' => u r σ' H' R) : gCons t u (v :: r) σ H R := ⟨v, r, rfl, h⟩
theorem w_gnil {R : L2.St → Hp → Prop} (h : R σ H) : gNil [] σ H R := ⟨rfl, h⟩
theorem w_for {wi : TI} {g : TG} {tb : TS} (h : wi σ H fun J H1 => ∃ W : Nat → Nat → L2.St → Hp → Prop, (∃ m, W 0 m σ H1) ∧ ∀ i m σ H, W i m σ H →
  (J.stop i H ∧ D.nx σ H) ∨ (J.go i H ∧ ∃ N : L2.St → Hp → Prop, (∀ σ' H', N σ' H' → ∃ m', m' < m ∧ W (i + 1) m' σ' H') ∧ ∀ x H', J.yld i H x H' → g x σ H' fun σ2 H2 => tb { D with nx := N, ct := N, bk := D.nx } σ2 H2)) : tFor wi g tb D σ H := h
theorem w_rng1 {ta : TA} {R : L2.It → Hp → Prop} (h : ta σ H fun vs H1 => ∃ j : Int, vs = [.int j] ∧ -(2 ^ 62) ≤ j ∧ j < 2 ^ 62 ∧ R (Itr 0 j.toNat) H1) : iRng1 ta σ H R := h
theorem i_nn {A B : Prop} (h : A) : if decide (V.non = V.non) = true then A else B := by rw [if_pos (by decide)]; exact h
theorem i_rn {A B : Prop} {q : Addr} (h : B) : if decide (V.ref q = V.non) = true then A else B := by
  rw [decide_eq_false (by intro z; cases z), if_neg Bool.false_ne_true]; exact h
theorem i_in {A B : Prop} {q : Int} (h : B) : if decide (V.int q = V.non) = true then A else B := by
  rw [decide_eq_false (by intro z; cases z), if_neg Bool.false_ne_true]; exact h
theorem i_nn' {A B : Prop} (h : B) : if (!decide (V.non = V.non)) = true then A else B := by rw [if_neg (by decide)]; exact h
theorem i_rn' {A B : Prop} {q : Addr} (h : A) : if (!decide (V.ref q = V.non)) = true then A else B := by
  rw [decide_eq_false (by intro z; cases z)]; exact h
theorem i_in' {A B : Prop} {q : Int} (h : A) : if (!decide (V.int q = V.non)) = true then A else B := by
  rw [decide_eq_false (by intro z; cases z)]; exact h
theorem i_ff {A B : Prop} (h : B) : if false = true then A else B := iteF h
theorem i_tt {A B : Prop} (h : A) : if true = true then A else B := iteT h
theorem i_nt {A B : Prop} (h : B) : if (!true) = true then A else B := iteF h
theorem i_nf {A B : Prop} (h : A) : if (!false) = true then A else B := iteT h
theorem i_eq {A B : Prop} {a b : Int} (e : a = b) (h : A) : if decide (a = b) = true then A else B := by rw [decide_eq_true e]; exact h
theorem i_ne {A B : Prop} {a b : Int} (e : a ≠ b) (h : B) : if decide (a = b) = true then A else B := by rw [decide_eq_false e, if_neg Bool.false_ne_true]; exact h
theorem i_yes {A B P : Prop} [Decidable P] (e : P) (h : A) : if decide P = true then A else B := by rw [decide_eq_true e]; exact h
theorem i_no {A B P : Prop} [Decidable P] (e : ¬ P) (h : B) : if decide P = true then A else B := by rw [decide_eq_false e, if_neg Bool.false_ne_true]; exact h
theorem i_yes' {A B P : Prop} [Decidable P] (e : P) (h : B) : if (!decide P) = true then A else B := by rw [decide_eq_true e]; exact h
theorem i_no' {A B P : Prop} [Decidable P] (e : ¬ P) (h : A) : if (!decide P) = true then A else B := by rw [decide_eq_false e]; exact h
theorem i_if {A B P : Prop} [Decidable P] (h1 : P → A) (h2 : ¬ P → B) : if decide P = true then A else B := by
  by_cases c : P
  · rw [decide_eq_true c]; exact h1 c
  · rw [decide_eq_false c, if_neg Bool.false_ne_true]; exact h2 c
theorem i_if' {A B P : Prop} [Decidable P] (h1 : ¬ P → A) (h2 : P → B) : if (!decide P) = true then A else B := by
  by_cases c : P
  · rw [decide_eq_true c]; exact h2 c
  · rw [decide_eq_false c]; exact h1 c
theorem w_isN {v : V} (h : Q (.bl (decide (v = .non))) H) : (fun (x y : V) (H : Hp) (Q : VK) => y = V.non ∧ Q (.bl (decide (x = .non))) H) v .non H Q := ⟨rfl, h⟩
theorem w_itup {K' : PySem.W.Frag} {tl : TE} {R : L2.It → Hp → Prop} (h : tl σ H fun x H1 => ∃ a, x = .ref a ∧ (∃ xs, SqT K' H1 a xs) ∧ R (Itt K' a) H1) : iTup K' tl σ H R := h
theorem w_ilst {K' : PySem.W.Frag} {tl : TE} {R : L2.It → Hp → Prop} (h : tl σ H fun x H1 => ∃ a, x = .ref a ∧ (∃ xs, SqL K' H1 a xs) ∧ R (Itl K' a) H1) : iList K' tl σ H R := h
theorem w_repr {v : V} {d : PyData} (r : Rp K H v d) (h : Q (.str d.shown) H) : rRepr K [v] H Q := ⟨v, d, rfl, r.dp, r.sh, r.de, r.le, h⟩
theorem rp_non : Rp K H .non .none := ⟨.non, by simp only [PyData.showable], by simp [PyData.depth], by decide⟩
theorem w_lc {wi : TI} {g : TG} {tt : TT} {te : TE} {vs : List Nat} (h : wi σ H fun J H1 => ∀ D, H1 D = none → ∃ W : Nat → Nat → Hp → Prop, (∃ m, W 0 m (upd H1 D (.lst []))) ∧ ∀ i m H, W i m H →
  (J.stop i H ∧ Q (.ref D) H) ∨ (J.go i H ∧ ∃ Nx : Hp → Prop, (∀ H', Nx H' → ∃ m', m' < m ∧ W (i + 1) m' H') ∧ ∀ x H', J.yld i H x H' → g x (wipe σ vs) H' fun σ2 H2 => wipe σ2 vs = wipe σ vs ∧ tt σ2 H2 fun b H3 =>
    if b = true then te σ2 H3 fun y H4 => ∃ acc, H4 D = some (.lst acc) ∧ acc.length < sizeLine ∧ Nx (upd H4 D (.lst (acc ++ [y]))) else Nx H3)) : tLc wi g tt te vs σ H Q := h
theorem w_bm {K' : PySem.W.Frag} {ty : String} {r : V → List V → Hp → VK → Prop} {to : TE} {t : TA} (h : to σ H fun x H1 => tyV K' ty x H1 ∧ t σ H1 fun xs H2 => r x xs H2 Q) : tBM K' ty r to t σ H Q := h
theorem w_tyL {K' : PySem.W.Frag} {a : Addr} {xs : List V} {X : Prop} (e : SqL K H a xs) (hk : K' = K) (h : X) : tyV K' "list" (.ref a) H ∧ X := by
  subst hk
  exact ⟨.inl ⟨rfl, _, e⟩, h⟩
theorem inV_int {y : Int} : ∀ ns : List Int, inV (.int y) (ns.map V.int) = decide (y ∈ ns)
  | [] => rfl
  | n :: r => by
    show (eqV (.int n) (.int y) || inV (.int y) (r.map V.int)) = _
    rw [inV_int r]
    show ((n == y) || _) = _
    by_cases c : n = y
    · subst c; simp
    · have c' : ¬ y = n := fun z => c z.symm
      simp [c, c']
theorem flat_ints : ∀ ns : List Int, (ns.map V.int).all flatV = true
  | [] => rfl
  | n :: r => by show (true && (r.map V.int).all flatV) = true; rw [flat_ints r]; rfl
theorem w_inL {K' : PySem.W.Frag} {y : Int} {a : Addr} {ns : List Int} (e : SqL K H a (ns.map V.int)) (h : Q (.bl (decide (y ∈ ns))) H) (hk : K' = K := by rfl) : rIn K' false (.int y) (.ref a) H Q := by
  subst hk
  refine ⟨a, _, rfl, .inl e, rfl, flat_ints ns, ?_⟩
  rw [if_neg Bool.false_ne_true, inV_int]
  exact h
theorem w_index {K' : PySem.W.Frag} {y : Int} {a : Addr} {ns : List Int} {j : Nat} (e : SqL K H a (ns.map V.int)) (hj : ns[j]? = some y) (hno : ∀ i : Nat, i < j → ns[i]? ≠ some y) (h : Q (.int (j : Nat)) H) (hk : K' = K := by rfl) :
    rIndex K' (.ref a) [.int y] H Q := by
  subst hk
  refine ⟨a, _, _, j, .int y, rfl, rfl, e, rfl, flat_ints ns, by rw [List.getElem?_map, hj]; rfl, by show (y == y) = true; simp, fun i z' hi hz => ?_, h⟩
  rw [List.getElem?_map] at hz
  cases hx : ns[i]? with
  | none => rw [hx] at hz; cases hz
  | some w =>
    rw [hx] at hz
    cases hz
    show (w == y) = false
    have : w ≠ y := fun z => hno i hi (by rw [hx, z])
    simp [this]
theorem w_append {l : Addr} {xs : List V} {y : V} (g : H l = some (.lst xs)) (hz : xs.length ≤ 1000000) (h : Q .non (upd H l (.lst (xs ++ [y])))) : rAppend (.ref l) [y] H Q :=
  ⟨l, xs, y, rfl, rfl, g, Nat.lt_of_lt_of_le (show xs.length < 1000001 by omega) (by decide), h⟩
theorem w_cat {a b : Addr} {xs ys : List V} (e1 : H a = some (.lst xs)) (e2 : H b = some (.lst ys)) (hl : xs.length + ys.length ≤ 1000000)
    (h : ∀ p H', H p = none → Same H H' → H' p = some (.lst (xs ++ ys)) → Q (.ref p) H') : rCat (.ref a) (.ref b) H Q :=
  ⟨a, b, xs, ys, rfl, rfl, e1, e2, Nat.le_trans hl (by decide), fun p hp => h p _ hp (sm_new hp) upd_same⟩
theorem w_yes {R : Bool → Hp → Prop} (h : R true H) : tYes σ H R := h
theorem w_ixL {K' : PySem.W.Frag} {a : Addr} {xs : List V} {i : Int} {v : V} (e : SqL K H a xs) (hv : atI xs i = some v) (h : Q v H) (hk : K' = K := by rfl) : rIxL K' (.ref a) (.int i) H Q := by
  subst hk
  exact ⟨a, xs, i, v, rfl, rfl, e, hv, h⟩
/-- a list of what is drawn, one after another -/
theorem lc_pen {lo : Int} {n j n0 c : Nat} {te : TE} {vs : List Nat} {σ : L2.St} {H0 : Hp} {D p L : Addr} {Qd : Hp → Prop} (G : V → Prop) (hp : PenAt H0 p L n0) (hD : H0 D = none)
    (hw : ∀ v, wipe ((wipe σ vs).set j (some v)) vs = wipe σ vs) (hn : n ≤ 100000)
    (hs : ∀ i H' (R : VK), i < n → But p H0 H' → PenAt H' p L (n0 + i * c) → (∀ y H4, But p H' H4 → PenAt H4 p L (n0 + i * c + c) → G y → R y H4) → te ((wipe σ vs).set j (some (.int (lo + i)))) H' R)
    (hd : ∀ H' done, But p H0 H' → PenAt H' p L (n0 + n * c) → H' D = some (.lst done) → (∀ v ∈ done, G v) → done.length = n → Qd H') :
    ∃ W : Nat → Nat → Hp → Prop, (∃ m, W 0 m (upd H0 D (.lst []))) ∧ ∀ i m H, W i m H →
      ((Itr lo n).stop i H ∧ Qd H) ∨ ((Itr lo n).go i H ∧ ∃ Nx : Hp → Prop, (∀ H', Nx H' → ∃ m', m' < m ∧ W (i + 1) m' H') ∧ ∀ x H', (Itr lo n).yld i H x H' → gName j x (wipe σ vs) H' fun σ2 H2 => wipe σ2 vs = wipe σ vs ∧ tYes σ2 H2 fun b H3 =>
        if b = true then te σ2 H3 fun y H4 => ∃ acc, H4 D = some (.lst acc) ∧ acc.length < sizeLine ∧ Nx (upd H4 D (.lst (acc ++ [y]))) else Nx H3) := by
  have nDp : D ≠ p := hp.ne_n hD
  have nDL : D ≠ L := hp.ne_nL hD
  refine lc_range (fun i H' => ∃ done : List V, But p H0 H' ∧ PenAt H' p L (n0 + i * c) ∧ H' D = some (.lst done) ∧ (∀ v ∈ done, G v) ∧ done.length = i) ?_ ?_ ?_
  · exact ⟨[], But.own (But.refl _ _) hD, (hp.wr nDp nDL).mono (by omega), upd_same, by simp, rfl⟩
  · rintro i H' hi ⟨done, b1, pn, eD, hG, hl⟩
    refine ⟨hw _, ?_⟩
    refine w_yes ?_
    rw [if_pos rfl]
    refine hs i H' _ hi b1 pn fun y H4 b2 pn2 gy => ?_
    refine ⟨done, b2 _ _ nDp eD, Nat.lt_of_lt_of_le (show done.length < 100001 by omega) (by decide), done ++ [y], But.own (b1.trans b2) hD, ?_, upd_same, ?_, by rw [List.length_append, List.length_singleton, hl]⟩
    · rw [Nat.add_mul, Nat.one_mul, ← Nat.add_assoc]
      exact pn2.wr nDp nDL
    · intro v hv
      rcases List.mem_append.mp hv with z | z
      · exact hG v z
      · rw [List.mem_singleton.mp z]; exact gy
  · rintro H' ⟨done, b1, pn, eD, hG, hl⟩
    exact hd H' done b1 pn eD hG hl
theorem w_sl {r : V → Option Int → Option Int → Hp → VK → Prop} {te : TE} {tl th : TO} (h : te σ H fun x H1 => tl σ H1 fun l H2 => th σ H2 fun u H3 => r x l u H3 Q) : tSl r te tl th σ H Q := h
theorem w_noPart {R : Option Int → Hp → Prop} (h : R none H) : tNoPart σ H R := h
theorem w_part {t : TE} {R : Option Int → Hp → Prop} (h : t σ H fun x H1 => ∃ i, x = .int i ∧ R (some i) H1) : tPart t σ H R := h
theorem w_slL {K' : PySem.W.Frag} {a : Addr} {xs : List V} {lo hi : Option Int} (e : SqL K H a xs) (h : ∀ p H', H p = none → Same H H' → H' p = some (.lst (cutV xs lo hi)) → Q (.ref p) H') (hk : K' = K := by rfl) :
    rSlL K' (.ref a) lo hi H Q := by
  subst hk
  exact ⟨a, xs, rfl, e, fun p hp => h p _ hp (sm_new hp) upd_same⟩
theorem cut_tail {x : V} {l : List V} : cutV (x :: l) (some 1) none = l := by
  unfold cutV HT.sIx
  simp
theorem at0 {x : V} {r : List V} : atI (x :: r) 0 = some x := atI_nat (xs := x :: r) (j := 0) rfl
/-! ### facts of an earlier heap -/
theorem At.same {a : Addr} {o : HO} (h : H a = some o) (s : Same H H') : H' a = some o := s _ _ h
theorem At.but {p a : Addr} {o : HO} (h : H a = some o) (n : a ≠ p) (s : But p H H') : H' a = some o := s _ _ n h
theorem SqT.sm {a : Addr} {xs : List V} (h : SqT K H a xs) (s : Same H H') : SqT K H' a xs := sm_tup s h
theorem SqL.sm {a : Addr} {xs : List V} (h : SqL K H a xs) (s : Same H H') : SqL K H' a xs := s.seq h
theorem SqT.bt {p a : Addr} {xs : List V} (h : SqT K H a xs) (n : a ≠ p) (s : But p H H') : SqT K H' a xs := s.tup n h
theorem SqL.bt {p a : Addr} {xs : List V} (h : SqL K H a xs) (n : a ≠ p) (s : But p H H') : SqL K H' a xs := s.seq n h
theorem TpAt.sq {a : Addr} {f : Mp} (h : TpAt K H a f) : SqT K H a [.int f.1, .int f.2] := h
theorem TpAt.of {a : Addr} {x y : Int} (h : H a = some (.tup [.int x, .int y])) : TpAt K H a (x, y) := SqT.of h
theorem TpAt.bt {p a : Addr} {f : Mp} (h : TpAt K H a f) (n : a ≠ p) (s : But p H H') : TpAt K H' a f := s.tup n h
theorem fx_at {a : Addr} {o : HO} (s : Same H H') (h : H a = some o) : H' a = some o := s _ _ h
theorem fx_atb {p a : Addr} {o : HO} (s : But p H H') (n : a ≠ p) (h : H a = some o) : H' a = some o := s _ _ n h
theorem fx_t {a : Addr} {xs : List V} (s : Same H H') (h : SqT K H a xs) : SqT K H' a xs := sm_tup s h
theorem fx_tb {p a : Addr} {xs : List V} (s : But p H H') (n : a ≠ p) (h : SqT K H a xs) : SqT K H' a xs := s.tup n h
theorem fx_l {a : Addr} {xs : List V} (s : Same H H') (h : SqL K H a xs) : SqL K H' a xs := s.seq h
theorem fx_lb {p a : Addr} {xs : List V} (s : But p H H') (n : a ≠ p) (h : SqL K H a xs) : SqL K H' a xs := s.seq n h
theorem fx_tp {a : Addr} {f : Mp} (s : Same H H') (h : TpAt K H a f) : TpAt K H' a f := sm_tup s h
theorem fx_tpb {p a : Addr} {f : Mp} (s : But p H H') (n : a ≠ p) (h : TpAt K H a f) : TpAt K H' a f := s.tup n h
theorem fx_pn {p L : Addr} {n : Nat} (s : Same H H') (h : PenAt H p L n) : PenAt H' p L n := h.same s
/-! ### the promises as rules -/
variable {E : XK} {p L a t : Addr} {n : Nat}
theorem w_pen {ns : List Int} (hS : SqL K H a (ns.map V.int)) (hl : ns.length ≤ 63) (h : ∀ H' p L, Same H H' → H p = none → H L = none → PenAt H' p L 0 → Q (.ref p) H') : sp_pen K [.ref a] H Q E := ⟨a, ns, rfl, hS, hl, h⟩
theorem w_draw {many : Int} (hp : PenAt H p L n) (hn : n ≤ 100000000) (h0 : 0 < many) (h1 : many < 18446744073709551616)
    (h : ∀ H' d, But p H H' → PenAt H' p L (n + 1) → 0 ≤ d → d < many → Q (.int d) H') : sp_draw [.ref p, .int many] H Q E := ⟨p, L, n, many, rfl, hp, hn, h0, log_lt h1 h0, h⟩
theorem w_pickL {xs : List V} (hp : PenAt H p L n) (hn : n ≤ 100000000) (hS : SqL K H a xs) (na : a ≠ p) (l0 : Nat.ble 1 xs.length = true) (l1 : Nat.ble xs.length 1000000 = true)
    (h : ∀ H' v, But p H H' → PenAt H' p L (n + 1) → v ∈ xs → Q v H') : sp_pick K [.ref p, .ref a] H Q E := ⟨p, L, a, n, xs, rfl, hp, hn, .inl hS, na, Nat.le_of_ble_eq_true l0, Nat.le_of_ble_eq_true l1, h⟩
theorem w_pickVL {xs : List V} (hp : PenAt H p L n) (hn : n ≤ 100000000) (hS : SqL K H a xs) (na : a ≠ p) (l0 : 0 < xs.length) (l1 : xs.length ≤ 1000000)
    (h : ∀ H' v, But p H H' → PenAt H' p L (n + 1) → v ∈ xs → Q v H') : sp_pick K [.ref p, .ref a] H Q E := ⟨p, L, a, n, xs, rfl, hp, hn, .inl hS, na, l0, l1, h⟩
theorem w_pickT {xs : List V} (hp : PenAt H p L n) (hn : n ≤ 100000000) (hS : SqT K H a xs) (na : a ≠ p) (l0 : Nat.ble 1 xs.length = true) (l1 : Nat.ble xs.length 1000000 = true)
    (h : ∀ H' v, But p H H' → PenAt H' p L (n + 1) → v ∈ xs → Q v H') : sp_pick K [.ref p, .ref a] H Q E := ⟨p, L, a, n, xs, rfl, hp, hn, .inr hS, na, Nat.le_of_ble_eq_true l0, Nat.le_of_ble_eq_true l1, h⟩
theorem w_pickVT {xs : List V} (hp : PenAt H p L n) (hn : n ≤ 100000000) (hS : SqT K H a xs) (na : a ≠ p) (l0 : 0 < xs.length) (l1 : xs.length ≤ 1000000)
    (h : ∀ H' v, But p H H' → PenAt H' p L (n + 1) → v ∈ xs → Q v H') : sp_pick K [.ref p, .ref a] H Q E := ⟨p, L, a, n, xs, rfl, hp, hn, .inr hS, na, l0, l1, h⟩
theorem w_modulus {most : Int} (hp : PenAt H p L n) (hn : n ≤ 90000000) (h2 : 2 ≤ most) (h9 : most ≤ 1000000000)
    (h : ∀ H' m, But p H H' → PenAt H' p L (n + 20) → 2 ≤ m → m ≤ most → Sm m → Q (.int m) H') : sp_modulus [.ref p, .int most] H Q E := ⟨p, L, n, most, rfl, hp, hn, h2, h9, h⟩
theorem w_lmap (K : PySem.W.Frag) {m : Int} (hp : PenAt H p L n) (hn : n ≤ 90000000) (h2 : 2 ≤ m) (h9 : m ≤ 1000000000)
    (h : ∀ H' t (f : Mp), But p H H' → PenAt H' p L (n + 6) → Ok m f → H t = none → t ≠ p → TpAt K H' t f → Q (.ref t) H') : sp_lmap [.ref p, .int m] H Q E :=
  ⟨p, L, n, m, rfl, hp, hn, h2, h9, fun H' t u b hb pn hu b0 b1 t0 e => h H' t (u, b) hb pn ⟨hu, b0, b1⟩ t0 (pn.ne_t e) (SqT.of e)⟩
theorem w_lgcd {a b : Int} (h0 : 0 ≤ a) (h1 : 0 ≤ b) (h : Q (.int (gcdI a b)) H) : sp_lgcd [.int a, .int b] H Q E := ⟨a, b, rfl, h0, h1, h⟩
theorem w_apply {m x : Int} {f : Mp} (ht : TpAt K H t f) (hm : 1 ≤ m) (h0 : 0 ≤ f.1) (h1 : f.1 ≤ 1000000000) (h : Q (.int (img m f x)) H) : sp_apply K [.int m, .ref t, .int x] H Q E :=
  ⟨m, f.1, f.2, x, t, rfl, ht, hm, h0, h1, h⟩
theorem w_compose {m : Int} {f g : Mp} {s t : Addr} (hs : TpAt K H s f) (ht : TpAt K H t g) (hm : 1 ≤ m) (f0 : 0 ≤ f.1) (f1 : f.1 ≤ 1000000000) (g0 : 0 ≤ g.1) (g1 : g.1 ≤ 1000000000)
    (h : ∀ H' p, Same H H' → H p = none → H' p = some (.tup [.int (cmp m f g).1, .int (cmp m f g).2]) → Q (.ref p) H') : sp_compose K [.int m, .ref s, .ref t] H Q E :=
  ⟨m, f.1, f.2, g.1, g.2, s, t, rfl, hs, ht, hm, f0, f1, g0, g1, h⟩
theorem w_inverse {m : Int} {f : Mp} (ht : TpAt K H t f) (hm : 2 ≤ m) (h9 : m ≤ 1000000000) (hf : Ok m f)
    (h : ∀ H' p g, Same H H' → H p = none → IsInv m f g → H' p = some (.tup [.int g.1, .int g.2]) → Q (.ref p) H') : sp_inverse K [.int m, .ref t] H Q E :=
  ⟨m, f.1, f.2, t, rfl, ht, hm, h9, hf.u, fun H' p r s0 p0 r0 r1 hc e => h H' p (r, -r * f.2 % m) s0 p0 (inv_is hm hf r0 r1 hc) e⟩
theorem w_power {m e : Int} {f : Mp} (ht : TpAt K H t f) (hm : 2 ≤ m) (h9 : m ≤ 1000000000) (hf : Ok m f)
    (h : ∀ H' p q, Same H H' → IsPw m f e p → TpAt K H' q p → Q (.ref q) H') : sp_power K [.int m, .ref t, .int e] H Q E := ⟨m, f, e, t, rfl, ht, hm, h9, hf, h⟩
end
theorem gcdI_eq {a b : Int} (ha : 0 ≤ a) (hb : 0 ≤ b) : gcdI a b = ((Int.gcd a b : Nat) : Int) := by
  unfold gcdI Int.gcd
  rw [show a.toNat = a.natAbs by omega, show b.toNat = b.natAbs by omega]
theorem pick2 {v a b : V} {Q : Prop} (h : v ∈ [a, b]) (h1 : v = a → Q) (h2 : v = b → Q) : Q := by
  simp only [List.mem_cons, List.mem_nil_iff, or_false] at h
  rcases h with h | h
  · exact h1 h
  · exact h2 h
theorem pick4 {v a b c d : V} {Q : Prop} (h : v ∈ [a, b, c, d]) (h1 : v = a → Q) (h2 : v = b → Q) (h3 : v = c → Q) (h4 : v = d → Q) : Q := by
  simp only [List.mem_cons, List.mem_nil_iff, or_false] at h
  rcases h with h | h | h | h
  · exact h1 h
  · exact h2 h
  · exact h3 h
  · exact h4 h
/-- the ordinary end of a law whose body is done in turns -/
theorem Ok.bd {m : Int} {f : Mp} (h : Ok m f) : 0 ≤ f.1 ∧ f.1 < m ∧ 0 ≤ f.2 ∧ f.2 < m := ⟨h.u.1, h.u.2.1, h.b0, h.b1⟩
end Vg

set_option Elab.async false
set_option linter.all false
set_option maxRecDepth 100000
set_option maxHeartbeats 2000000
namespace Vg
/-! ### orbits -/
def orb (m : Int) (f : Mp) (x : Int) (e : Nat) : Int := img m (npw m f e) x
section
variable {m : Int} {f : Mp} {x y d : Int}
theorem orb_zero (h0 : 0 ≤ x) (h1 : x < m) : orb m f x 0 = x := by
  show (1 * x + 0) % m = x
  rw [Int.one_mul, Int.add_zero, Int.emod_eq_of_lt h0 h1]
theorem orb_succ (e : Nat) : orb m f x (e + 1) = img m f (orb m f x e) := img_cmp
theorem orb_bd (hm : 2 ≤ m) (e : Nat) : 0 ≤ orb m f x e ∧ orb m f x e < m := ⟨Int.emod_nonneg _ (by omega), Int.emod_lt_of_pos _ (by omega)⟩
theorem orb_add (hm : 2 ≤ m) (hf : Ok m f) (a b : Nat) : orb m f x (a + b) = orb m f (orb m f x a) b := by
  show img m (npw m f (a + b)) x = img m (npw m f b) (img m (npw m f a) x)
  rw [← npw_add hm hf a b, img_cmp]
theorem cg_of_dvd {d m a b : Int} (h : d ∣ m) (c : Cg m a b) : Cg d a b := Int.dvd_trans h c
theorem img_cg (hd : d ∣ m) {a b : Int} (h : Cg d a b) : Cg d (img m f a) (img m f b) := by
  have h1 : ∀ z, Cg d (img m f z) (f.1 * z + f.2) := fun z => cg_of_dvd hd (Cg.mod m _)
  exact (h1 a).trans (((h.mulL f.1).add (Cg.refl d f.2)).trans (h1 b).symm)
theorem img_inj (hm : 2 ≤ m) (hf : Ok m f) (hd : d ∣ m) {a b : Int} (h : Cg d (img m f a) (img m f b)) : Cg d a b := by
  obtain ⟨g, hg⟩ := inv_ex hm hf
  have h1 := img_cg (f := g) hd h
  rw [← img_cmp, ← img_cmp, hg.2.1] at h1
  have h2 : ∀ z, Cg d (img m one1 z) z := fun z => (cg_of_dvd hd (Cg.mod m _)).trans (Cg.of (by show 1 * z + 0 = z; omega))
  exact (h2 a).symm.trans (h1.trans (h2 b))
theorem orb_cg (hm : 2 ≤ m) (hf : Ok m f) (hd : d ∣ m) {a b : Nat} (c : Nat) : Cg d (orb m f x a) (orb m f x b) ↔ Cg d (orb m f x (a + c)) (orb m f x (b + c)) := by
  rw [orb_add hm hf, orb_add hm hf]
  exact ⟨fun h => img_cg hd h, fun h => img_inj hm (npw_ok hm hf c) hd h⟩
/-- n is the period of x modulo d -/
structure Per (m : Int) (f : Mp) (x d : Int) (n : Nat) : Prop where
  pos : 0 < n
  back : Cg d (orb m f x n) (orb m f x 0)
  least : ∀ j, 0 < j → j < n → ¬ Cg d (orb m f x j) (orb m f x 0)
theorem Per.mulB (hm : 2 ≤ m) (hf : Ok m f) (hd : d ∣ m) {n : Nat} (h : Per m f x d n) (r : Nat) : ∀ t : Nat, Cg d (orb m f x (r + n * t)) (orb m f x r)
  | 0 => Cg.refl _ _
  | t + 1 => by
    have h1 := (orb_cg hm hf hd (r + n * t)).mp h.back
    have e : r + n * (t + 1) = n + (r + n * t) := by rw [Nat.mul_add]; omega
    rw [e]
    rw [Nat.zero_add] at h1
    exact h1.trans (Per.mulB hm hf hd h r t)
theorem Per.iff (hm : 2 ≤ m) (hf : Ok m f) (hd : d ∣ m) {n : Nat} (h : Per m f x d n) (a b : Nat) : Cg d (orb m f x a) (orb m f x b) ↔ a % n = b % n := by
  have red : ∀ a, Cg d (orb m f x a) (orb m f x (a % n)) := fun a => by
    have := Per.mulB hm hf hd h (a % n) (a / n)
    rw [Nat.mod_add_div] at this
    exact this
  have key : ∀ r s, r < n → s < n → r < s → ¬ Cg d (orb m f x r) (orb m f x s) := by
    intro r s hr hs l c
    have e : s = (s - r) + r := by omega
    have e0 : r = 0 + r := by omega
    rw [e] at c
    rw [e0] at c
    have c2 : Cg d (orb m f x (0 + r)) (orb m f x ((s - r) + r)) := by
      have : s - (0 + r) = s - r := by omega
      simpa [this] using c
    exact h.least (s - r) (by omega) (by omega) ((orb_cg hm hf hd r).mpr c2).symm
  constructor
  · intro c
    have c2 := (red a).symm.trans (c.trans (red b))
    have ha := Nat.mod_lt a h.pos
    have hb := Nat.mod_lt b h.pos
    rcases Nat.lt_trichotomy (a % n) (b % n) with l | l | l
    · exact absurd c2 (key _ _ ha hb l)
    · exact l
    · exact absurd c2.symm (key _ _ hb ha l)
  · intro e
    have := red a
    rw [e] at this
    exact this.trans (red b).symm
theorem Per.alone (hm : 2 ≤ m) (hf : Ok m f) (hd : d ∣ m) {n k : Nat} (h : Per m f x d n) (g : Per m f x d k) : n = k := by
  have h1 := (h.iff hm hf hd k 0).mp g.back
  have h2 := (g.iff hm hf hd n 0).mp h.back
  simp at h1 h2
  exact Nat.dvd_antisymm (Nat.dvd_of_mod_eq_zero h1) (Nat.dvd_of_mod_eq_zero h2)
theorem Per.dvd (hm : 2 ≤ m) (hf : Ok m f) (hd : d ∣ m) {n k : Nat} (h : Per m f x d n) : Cg d (orb m f x k) (orb m f x 0) ↔ n ∣ k := by
  rw [h.iff hm hf hd k 0]
  simp
  exact ⟨Nat.dvd_of_mod_eq_zero, Nat.mod_eq_zero_of_dvd⟩
theorem Per.one : Per m f x 1 1 := ⟨by decide, Int.one_dvd _, fun j h1 h2 => by omega⟩
/-- two of p + 1 numbers below p are equal -/
theorem pigeon : ∀ (p : Nat) (g : Nat → Nat), (∀ i, i ≤ p → g i < p) → ∃ i j, i < j ∧ j ≤ p ∧ g i = g j := by
  intro p
  induction p with
  | zero => intro g h; exact absurd (h 0 (Nat.le_refl _)) (by omega)
  | succ p ih =>
    intro g h
    by_cases c : ∃ i, i < p + 1 ∧ g i = g (p + 1)
    · obtain ⟨i, hi, e⟩ := c
      exact ⟨i, p + 1, hi, Nat.le_refl _, e⟩
    · -- the last value is left out
      let v := g (p + 1)
      let g' : Nat → Nat := fun i => if g i < v then g i else g i - 1
      have hne : ∀ i, i ≤ p → g i ≠ v := fun i hi e => c ⟨i, by omega, e⟩
      have hv : v < p + 1 := h (p + 1) (Nat.le_refl _)
      obtain ⟨i, j, h1, h2, h3⟩ := ih g' (fun i hi => by
        have a := h i (by omega)
        have b := hne i hi
        show (if g i < v then g i else g i - 1) < p
        split <;> omega)
      refine ⟨i, j, h1, by omega, ?_⟩
      have a := hne i (by omega)
      have b := hne j h2
      have h3' : (if g i < v then g i else g i - 1) = (if g j < v then g j else g j - 1) := h3
      split at h3' <;> split at h3' <;> omega
/-- around the period a few times -/
theorem Per.around (hm : 2 ≤ m) (hf : Ok m f) {p : Int} (hp : 2 ≤ p) (d1 : 1 ≤ d) (hd : d * p ∣ m) {n : Nat} (h : Per m f x d n) :
    ∃ t : Nat, 1 ≤ t ∧ (t : Int) ≤ p ∧ Cg (d * p) (orb m f x (n * t)) (orb m f x 0) := by
  have hdm : d ∣ m := Int.dvd_trans (Int.dvd_mul_right d p) hd
  have hq : ∀ t : Nat, d ∣ orb m f x (n * t) - orb m f x 0 := fun t => by
    have := Per.mulB hm hf hdm h 0 t
    rw [Nat.zero_add] at this
    exact this
  let g : Nat → Nat := fun t => (((orb m f x (n * t) - orb m f x 0) / d) % p).toNat
  obtain ⟨i, j, hij, hj, e⟩ := pigeon p.toNat g (fun i hi => by
    have a := Int.emod_nonneg ((orb m f x (n * i) - orb m f x 0) / d) (show p ≠ 0 by omega)
    have b := Int.emod_lt_of_pos ((orb m f x (n * i) - orb m f x 0) / d) (show 0 < p by omega)
    show (((orb m f x (n * i) - orb m f x 0) / d) % p).toNat < p.toNat
    omega)
  refine ⟨j - i, by omega, by omega, ?_⟩
  have e2 : ((orb m f x (n * i) - orb m f x 0) / d) % p = ((orb m f x (n * j) - orb m f x 0) / d) % p := by
    have a := Int.emod_nonneg ((orb m f x (n * i) - orb m f x 0) / d) (show p ≠ 0 by omega)
    have b := Int.emod_nonneg ((orb m f x (n * j) - orb m f x 0) / d) (show p ≠ 0 by omega)
    have e' : (((orb m f x (n * i) - orb m f x 0) / d) % p).toNat = (((orb m f x (n * j) - orb m f x 0) / d) % p).toNat := e
    omega
  have e3 : p ∣ (orb m f x (n * j) - orb m f x 0) / d - (orb m f x (n * i) - orb m f x 0) / d := Int.dvd_of_emod_eq_zero (by
    rw [Int.sub_emod, e2, Int.sub_self, Int.zero_emod])
  obtain ⟨k, hk⟩ := e3
  have q1 := Int.mul_ediv_cancel' (hq j)
  have q2 := Int.mul_ediv_cancel' (hq i)
  have c : Cg (d * p) (orb m f x (n * j)) (orb m f x (n * i)) := by
    refine ⟨k, ?_⟩
    have : d * ((orb m f x (n * j) - orb m f x 0) / d - (orb m f x (n * i) - orb m f x 0) / d) = d * (p * k) := by rw [hk]
    rw [Int.mul_sub, q1, q2] at this
    rw [Int.mul_assoc]
    omega
  have e4 : n * j = n * (j - i) + n * i := by rw [← Nat.mul_add]; congr 1; omega
  have e5 : n * i = 0 + n * i := by omega
  rw [e4] at c
  have c2 : Cg (d * p) (orb m f x (n * (j - i) + n * i)) (orb m f x (0 + n * i)) := by rw [Nat.zero_add]; exact c
  exact (orb_cg hm hf hd (n * i)).mpr c2
/-- the period modulo the next divisor -/
theorem Per.lift (hm : 2 ≤ m) (hf : Ok m f) {p : Int} (hd : d * p ∣ m) {n t : Nat} (h : Per m f x d n) (t1 : 1 ≤ t) (ht : Cg (d * p) (orb m f x (n * t)) (orb m f x 0))
    (hl : ∀ s, 1 ≤ s → s < t → ¬ Cg (d * p) (orb m f x (n * s)) (orb m f x 0)) : Per m f x (d * p) (n * t) := by
  have hdm : d ∣ m := Int.dvd_trans (Int.dvd_mul_right d p) hd
  refine ⟨Nat.mul_pos h.pos t1, ht, fun j j0 j1 c => ?_⟩
  have c1 : Cg d (orb m f x j) (orb m f x 0) := cg_of_dvd (Int.dvd_mul_right d p) c
  obtain ⟨s, rfl⟩ := (h.dvd hm hf hdm).mp c1
  refine hl s ?_ ?_ c
  · rcases Nat.eq_zero_or_pos s with z | z
    · subst z; simp at j0
    · exact z
  · exact Nat.lt_of_mul_lt_mul_left j1
/-- f leads from x to y modulo d, first after k times; n is the period -/
structure App (m : Int) (f : Mp) (x y d : Int) (n k : Nat) : Prop where
  per : Per m f x d n
  lt : k < n
  at_ : Cg d (orb m f x k) y
theorem App.iff (hm : 2 ≤ m) (hf : Ok m f) (hd : d ∣ m) {n k : Nat} (h : App m f x y d n k) (e : Nat) : Cg d (orb m f x e) y ↔ e % n = k := by
  have h1 := h.per.iff hm hf hd e k
  rw [Nat.mod_eq_of_lt h.lt] at h1
  rw [← h1]
  exact ⟨fun c => c.trans h.at_.symm, fun c => c.trans h.at_⟩
/-- one divisor further -/
theorem App.step (hm : 2 ≤ m) (hf : Ok m f) {p : Int} (hd : d * p ∣ m) {n k s t : Nat} (h : App m f x y d n k) (t1 : 1 ≤ t) (ht : Cg (d * p) (orb m f x (n * t)) (orb m f x 0))
    (hl : ∀ s, 1 ≤ s → s < t → ¬ Cg (d * p) (orb m f x (n * s)) (orb m f x 0)) (hs : Cg (d * p) (orb m f x (k + s * n)) y) (hsl : ∀ r, r < s → ¬ Cg (d * p) (orb m f x (k + r * n)) y) :
    App m f x y (d * p) (n * t) (k + s * n) := by
  have P := h.per.lift hm hf hd t1 ht hl
  refine ⟨P, ?_, hs⟩
  -- s is below t
  have hst : s < t := by
    rcases Nat.lt_or_ge s t with l | l
    · exact l
    · refine absurd ?_ (hsl (s - t) (by omega))
      have e : k + s * n = (k + (s - t) * n) + (n * t) * 1 := by
        have : s * n = (s - t) * n + t * n := by rw [← Nat.add_mul]; congr 1; omega
        rw [this, Nat.mul_one, Nat.mul_comm n t]; omega
      have := P.mulB hm hf hd (k + (s - t) * n) 1
      rw [← e] at this
      exact this.symm.trans hs
  have h1 : (s + 1) * n ≤ t * n := Nat.mul_le_mul_right n hst
  rw [Nat.add_mul, Nat.one_mul] at h1
  have := h.lt
  rw [Nat.mul_comm n t]
  omega
/-- no way further -/
theorem App.stop (hm : 2 ≤ m) (hf : Ok m f) {p : Int} (hp : 2 ≤ p) (d1 : 1 ≤ d) (hd : d * p ∣ m) {n k : Nat} (h : App m f x y d n k)
    (hl : ∀ r : Nat, (r : Int) < p → ¬ Cg (d * p) (orb m f x (k + r * n)) y) (e : Nat) : ¬ Cg (d * p) (orb m f x e) y := by
  intro c
  have hdm : d ∣ m := Int.dvd_trans (Int.dvd_mul_right d p) hd
  have c1 := (h.iff hm hf hdm e).mp (cg_of_dvd (Int.dvd_mul_right d p) c)
  obtain ⟨t, t1, tp, ht⟩ := h.per.around hm hf hp d1 hd
  have e1 : e = k + (e / n) * n := by
    have := Nat.mod_add_div e n
    rw [c1] at this
    rw [Nat.mul_comm]; omega
  have e2 : e / n = (e / n) % t + t * ((e / n) / t) := (Nat.mod_add_div _ _).symm
  refine hl ((e / n) % t) ?_ ?_
  · have := Nat.mod_lt (e / n) (show 0 < t by omega)
    omega
  · -- whole laps change nothing
    have lap : ∀ q : Nat, Cg (d * p) (orb m f x ((k + (e / n) % t * n) + (n * t) * q)) (orb m f x (k + (e / n) % t * n)) := by
      intro q
      induction q with
      | zero => exact Cg.refl _ _
      | succ q ih =>
        have h1 := (orb_cg hm hf hd ((k + (e / n) % t * n) + (n * t) * q)).mp ht
        have e3 : (k + (e / n) % t * n) + (n * t) * (q + 1) = n * t + ((k + (e / n) % t * n) + (n * t) * q) := by rw [Nat.mul_add]; omega
        rw [e3]
        rw [Nat.zero_add] at h1
        exact h1.trans ih
    have e4 : e = (k + (e / n) % t * n) + (n * t) * ((e / n) / t) := by
      have : (e / n) * n = (e / n) % t * n + (n * t) * ((e / n) / t) := by
        have h5 : ((e / n) % t + t * ((e / n) / t)) * n = (e / n) % t * n + (n * t) * ((e / n) / t) := by
          rw [Nat.add_mul, Nat.mul_comm n t, Nat.mul_assoc, Nat.mul_assoc, Nat.mul_comm n]
        rw [← e2] at h5
        exact h5
      omega
    have := lap ((e / n) / t)
    rw [← e4] at this
    exact this.symm.trans c
end
end Vg
namespace Vg
/-! ### Euclid's way, for any number -/
structure EucG (m a x y u v : Int) : Prop where
  y0 : 0 ≤ y
  x0 : 0 ≤ x ∨ 0 < y
  le : -1152921504606846976 ≤ x ∧ x ≤ 1152921504606846976 ∧ y ≤ 1000000000
  cx : Cg m x (u * a)
  cy : Cg m y (v * a)
  g : Int.gcd x y = 1
theorem EucG.start {m a : Int} (hm : 1 ≤ m) (h9 : m ≤ 1000000000) (h0 : -1152921504606846976 ≤ a) (h1 : a ≤ 1152921504606846976) (g : Int.gcd a m = 1) : EucG m a a m 1 0 :=
  ⟨by omega, .inr (by omega), ⟨h0, h1, h9⟩, Cg.of (by omega), ⟨1, by omega⟩, g⟩
theorem EucG.turn {m a x y u v : Int} (e : EucG m a x y u v) (h : 0 < y) : EucG m a y (x - x / y * y) v (u - x / y * v) ∧ x - x / y * y < y ∧ -1152921504606846976 ≤ x / y ∧ x / y ≤ 1152921504606846976 := by
  have e1 : x - x / y * y = x % y := by
    have := Int.emod_add_mul_ediv x y
    rw [Int.mul_comm] at this
    omega
  have b0 := Int.emod_nonneg x (show y ≠ 0 by omega)
  have b1 := Int.emod_lt_of_pos x h
  have hl := e.le
  have q0 : x / y ≤ 1152921504606846976 := by
    rcases Int.le_total 0 x with z | z
    · have := Int.ediv_le_self y z; omega
    · have : x / y ≤ 0 := by
        rcases Int.lt_or_le 0 (x / y) with l | l
        · have h2 : 1 * y ≤ x / y * y := Int.mul_le_mul_of_nonneg_right l (by omega)
          omega
        · exact l
      omega
  have q1 : -1152921504606846976 ≤ x / y := by
    rcases Int.lt_or_le (x / y) (-1152921504606846976) with l | l
    · exfalso
      have h2 : (-1152921504606846976 - x / y) * 1 ≤ (-1152921504606846976 - x / y) * y := Int.mul_le_mul_of_nonneg_left (by omega) (by omega)
      rw [Int.sub_mul _ _ y, Int.mul_one] at h2
      have h3 : -1152921504606846976 * y ≤ -1152921504606846976 * 1 := by omega
      omega
    · exact l
  refine ⟨⟨by omega, .inl (by omega), ⟨by omega, by omega, by omega⟩, e.cy, ?_, ?_⟩, by omega, q1, q0⟩
  · have := e.cx.sub (e.cy.mulL (x / y))
    rw [Int.sub_mul, Int.mul_assoc]
    exact this
  · rw [Int.gcd_comm, Int.gcd_sub_mul_right_left]
    exact e.g
theorem EucG.out {m a x u v : Int} (e : EucG m a x 0 u v) (hm : 1 ≤ m) : 0 ≤ u % m ∧ u % m < m ∧ Cg m (u % m * a) 1 := by
  have hx : x = 1 := by
    have := e.g
    rw [Int.gcd_zero_right] at this
    rcases e.x0 with z | z <;> omega
  refine ⟨Int.emod_nonneg _ (by omega), Int.emod_lt_of_pos _ (by omega), ?_⟩
  have h := e.cx
  rw [hx] at h
  exact ((Cg.mod m u).mulR a).trans h.symm
/-! ### a * x = w modulo m -/
theorem gcd_posI {a m : Int} (hm : 1 ≤ m) : 1 ≤ ((Int.gcd a m : Nat) : Int) := by
  rcases Nat.eq_zero_or_pos (Int.gcd a m) with h | h
  · have := (Int.gcd_eq_zero_iff.mp h).2; omega
  · omega
theorem gcd_leI {a m : Int} (hm : 1 ≤ m) : ((Int.gcd a m : Nat) : Int) ≤ m := Int.le_of_dvd (by omega) (Int.gcd_dvd_right a m)
/-- the numbers that solve it -/
structure Slv (m a w s t : Int) : Prop where
  t1 : 1 ≤ t
  s0 : 0 ≤ s
  s1 : s < t
  dv : t * (Int.gcd a m : Int) = m
  iff : ∀ x, Cg m (a * x) w ↔ Cg t x s
theorem slv_none {m a w x : Int} (h : ¬ ((Int.gcd a m : Nat) : Int) ∣ w) : ¬ Cg m (a * x) w := by
  intro ⟨k, e⟩
  refine h ?_
  have e2 : w = a * x - m * k := by omega
  rw [e2]
  exact Int.dvd_sub (Int.dvd_trans (Int.gcd_dvd_left a m) (Int.dvd_mul_right a x)) (Int.dvd_trans (Int.gcd_dvd_right a m) (Int.dvd_mul_right m k))
theorem slv_gcd {m a : Int} (hm : 1 ≤ m) : Int.gcd (a / (Int.gcd a m : Int)) (m / (Int.gcd a m : Int)) = 1 := by
  rw [Int.gcd_ediv (Int.gcd_dvd_left a m) (Int.gcd_dvd_right a m)]
  have := gcd_posI (a := a) hm
  rw [Int.natAbs_natCast, Nat.div_self (by omega)]
theorem slv_some {m a w r : Int} (hm : 1 ≤ m) (h : ((Int.gcd a m : Nat) : Int) ∣ w) (hr : Cg (m / (Int.gcd a m : Int)) (r * (a / (Int.gcd a m : Int))) 1) :
    Slv m a w (w / (Int.gcd a m : Int) * r % (m / (Int.gcd a m : Int))) (m / (Int.gcd a m : Int)) := by
  have g1 := gcd_posI (a := a) hm
  have ga : (Int.gcd a m : Int) * (a / (Int.gcd a m : Int)) = a := Int.mul_ediv_cancel' (Int.gcd_dvd_left a m)
  have gm : (Int.gcd a m : Int) * (m / (Int.gcd a m : Int)) = m := Int.mul_ediv_cancel' (Int.gcd_dvd_right a m)
  have gw : (Int.gcd a m : Int) * (w / (Int.gcd a m : Int)) = w := Int.mul_ediv_cancel' h
  generalize hg : (Int.gcd a m : Int) = g at *
  generalize a / g = a' at *
  generalize hM : m / g = m' at *
  generalize w / g = w' at *
  have m1 : 1 ≤ m' := by
    rcases Int.lt_or_le 0 m' with l | l
    · omega
    · have := Int.mul_le_mul_of_nonneg_left l (show 0 ≤ g by omega)
      omega
  refine ⟨m1, Int.emod_nonneg _ (by omega), Int.emod_lt_of_pos _ (by omega), by rw [hg, Int.mul_comm]; exact gm, fun x => ?_⟩
  have step : Cg m (a * x) w ↔ Cg m' (a' * x) w' := by
    constructor
    · rintro ⟨k, e⟩
      refine ⟨k, ?_⟩
      have e2 : g * (a' * x - w') = g * (m' * k) := by
        rw [Int.mul_sub, ← Int.mul_assoc, ga, gw, ← Int.mul_assoc, gm]; exact e
      exact Int.eq_of_mul_eq_mul_left (by omega) e2
    · rintro ⟨k, e⟩
      refine ⟨k, ?_⟩
      have e2 : g * (a' * x - w') = g * (m' * k) := by rw [e]
      rw [Int.mul_sub, ← Int.mul_assoc, ga, gw, ← Int.mul_assoc, gm] at e2
      exact e2
  rw [step]
  constructor
  · intro c
    have h1 := c.mulL r
    rw [← Int.mul_assoc] at h1
    have h2 : Cg m' (r * a' * x) x := by
      have := hr.mulR x
      rw [Int.one_mul] at this
      exact this
    refine (h2.symm.trans h1).trans ?_
    rw [Int.mul_comm r w']
    exact (Cg.mod m' _).symm
  · intro c
    have h1 := (c.trans (Cg.mod m' (w' * r))).mulL a'
    refine h1.trans ?_
    have h2 := hr.mulL w'
    rw [Int.mul_one] at h2
    refine (Cg.of ?_).trans h2
    rw [Int.mul_left_comm a' w' r, Int.mul_comm a' r]
/-! ### the numbers of a range that are congruent to s modulo t -/
theorem filter_none {P : Nat → Bool} : ∀ n, (∀ i, i < n → P i = false) → (List.range n).filter P = [] := by
  intro n h
  refine List.filter_eq_nil_iff.mpr ?_
  intro a ha
  rw [h a (List.mem_range.mp ha)]
  decide
theorem range_cong (s t : Nat) (hs : s < t) : ∀ g : Nat, (List.range (t * g)).filter (fun x => decide (x % t = s)) = (List.range g).map (fun i => s + t * i) := by
  intro g
  induction g with
  | zero => simp
  | succ g ih =>
    rw [Nat.mul_succ, List.range_add, List.filter_append, ih, List.range_succ, List.map_append]
    congr 1
    rw [List.filter_map]
    have e : ((fun x => decide (x % t = s)) ∘ fun x => t * g + x) = fun x => decide (x % t = s) := by
      funext x
      simp [Nat.add_comm, Nat.add_mul_mod_self_left]
    rw [e]
    have e2 : (List.range t).filter (fun x => decide (x % t = s)) = [s] := by
      have et : t = s + ((t - s - 1) + 1) := by omega
      have h1 : (List.range t).filter (fun x => decide (x % t = s)) = (List.range t).filter (fun x => decide (x = s)) := by
        refine List.filter_congr ?_
        intro x hx
        rw [Nat.mod_eq_of_lt (List.mem_range.mp hx)]
      rw [h1]
      rw [et, List.range_add, List.filter_append, filter_none s (fun i hi => by simp; omega), List.range_succ_eq_map, List.map_cons, List.filter_cons]
      simp
    rw [e2]
    simp [Nat.add_comm]
end Vg
namespace Vg
section
variable {m : Int} {f g : Mp} {x y d : Int}
/-- a map is known by the images of 0 and 1 -/
theorem mp_by_img (hm : 2 ≤ m) {p q : Mp} (hp : Ok m p) (hq : Ok m q) (h0 : img m p 0 = img m q 0) (h1 : img m p 1 = img m q 1) : p = q := by
  have e0 : ∀ z : Mp, Ok m z → img m z 0 = z.2 := fun z hz => by
    show (z.1 * 0 + z.2) % m = z.2
    rw [Int.mul_zero, Int.zero_add, Int.emod_eq_of_lt hz.b0 hz.b1]
  rw [e0 p hp, e0 q hq] at h0
  refine mp_eq hp hq ?_ (Cg.of h0)
  have h2 : (p.1 * 1 + p.2) % m = (q.1 * 1 + q.2) % m := h1
  rw [Int.mul_one, Int.mul_one, h0] at h2
  have h3 : Cg m (p.1 + q.2) (q.1 + q.2) := Int.dvd_of_emod_eq_zero (by rw [Int.sub_emod, h2, Int.sub_self, Int.zero_emod])
  have h4 := h3.sub (Cg.refl m q.2)
  have e5 : p.1 + q.2 - q.2 = p.1 := by omega
  have e6 : q.1 + q.2 - q.2 = q.1 := by omega
  rw [e5, e6] at h4
  exact h4
theorem orb_eq_cg (hm : 2 ≤ m) {a b : Nat} : orb m f x a = orb m f x b ↔ Cg m (orb m f x a) (orb m f x b) :=
  ⟨fun h => Cg.of h, fun h => h.eqS (orb_bd hm a).1 (orb_bd hm a).2 (orb_bd hm b).1 (orb_bd hm b).2⟩
/-- n is the order of f -/
structure Ord (m : Int) (f : Mp) (n : Nat) : Prop where
  pos : 0 < n
  iff : ∀ k, npw m f k = one1 ↔ n ∣ k
theorem ord_lcm (hm : 2 ≤ m) (hf : Ok m f) {a b : Nat} (h0 : Per m f 0 m a) (h1 : Per m f 1 m b) : Ord m f (Nat.lcm a b) := by
  refine ⟨Nat.lcm_pos h0.pos h1.pos, fun k => ?_⟩
  have e : npw m f k = one1 ↔ (a ∣ k ∧ b ∣ k) := by
    rw [← h0.dvd hm hf (Int.dvd_refl m), ← h1.dvd hm hf (Int.dvd_refl m)]
    constructor
    · intro z
      constructor <;> · show Cg m (img m (npw m f k) _) (img m one1 _); rw [z]; exact Cg.refl _ _
    · intro ⟨z0, z1⟩
      exact mp_by_img hm (npw_ok hm hf k) (Ok.one hm) ((orb_eq_cg hm).mpr z0) ((orb_eq_cg hm).mpr z1)
  rw [e]
  exact ⟨fun z => Nat.lcm_dvd z.1 z.2, fun z => ⟨Nat.dvd_trans (Nat.dvd_lcm_left a b) z, Nat.dvd_trans (Nat.dvd_lcm_right a b) z⟩⟩
theorem Ord.alone {n k : Nat} (h : Ord m f n) (q : Ord m f k) : n = k :=
  Nat.dvd_antisymm ((h.iff k).mp ((q.iff k).mpr (Nat.dvd_refl k))) ((q.iff n).mp ((h.iff n).mpr (Nat.dvd_refl n)))
/-- each period divides the order -/
theorem Ord.per (hm : 2 ≤ m) (hf : Ok m f) {n k : Nat} (h : Ord m f n) (q : Per m f x m k) : k ∣ n := by
  refine (q.dvd hm hf (Int.dvd_refl m)).mp ?_
  show Cg m (img m (npw m f n) x) (img m one1 x)
  rw [(h.iff n).mpr (Nat.dvd_refl n)]
  exact Cg.refl _ _
theorem per_small (hm : 2 ≤ m) (hf : Ok m f) {n : Nat} (hd : d ∣ m) (d1 : 1 ≤ d) (h : Per m f x d n) : (n : Int) ≤ d := by
  rcases Int.lt_or_le d n with l | l
  · exfalso
    obtain ⟨i, j, h1, h2, h3⟩ := pigeon d.toNat (fun i => (orb m f x i % d).toNat) (fun i hi => by
      have a := Int.emod_nonneg (orb m f x i) (show d ≠ 0 by omega)
      have b := Int.emod_lt_of_pos (orb m f x i) (show 0 < d by omega)
      show (orb m f x i % d).toNat < d.toNat
      omega)
    have c : Cg d (orb m f x i) (orb m f x j) := by
      have a := Int.emod_nonneg (orb m f x i) (show d ≠ 0 by omega)
      have b := Int.emod_nonneg (orb m f x j) (show d ≠ 0 by omega)
      have e : (orb m f x i % d).toNat = (orb m f x j % d).toNat := h3
      have e2 : orb m f x i % d = orb m f x j % d := by omega
      exact (Cg.mod d _).symm.trans ((Cg.of e2).trans (Cg.mod d _))
    have := (h.iff hm hf hd i j).mp c
    rw [Nat.mod_eq_of_lt (by omega), Nat.mod_eq_of_lt (by omega)] at this
    omega
  · exact l
/-! ### both at once -/
theorem meet_iff {s t s' t' j gap : Int} (h1 : 1 ≤ t) (h : Slv t' t (s' - s) j gap) (e : Int) : (Cg t e s ∧ Cg t' e s') ↔ Cg (t * gap) e (s + j * t) := by
  constructor
  · rintro ⟨⟨k, ek⟩, c2⟩
    have c3 : Cg t' (t * k) (s' - s) := by
      have : t * k = e - s := ek.symm
      rw [this]
      exact c2.sub (Cg.refl t' s)
    obtain ⟨l, el⟩ := (h.iff k).mp c3
    refine ⟨l, ?_⟩
    have e2 : t * (k - j) = t * (gap * l) := by rw [el]
    rw [Int.mul_sub, ← Int.mul_assoc] at e2
    rw [Int.mul_comm j t]
    omega
  · rintro ⟨l, el⟩
    have ek : e - s = t * (j + gap * l) := by
      rw [Int.mul_add, ← Int.mul_assoc, Int.mul_comm t j]; omega
    refine ⟨⟨_, ek⟩, ?_⟩
    have c3 : Cg t' (t * (j + gap * l)) (s' - s) := (h.iff _).mpr ⟨l, by omega⟩
    rw [← ek] at c3
    have c4 := c3.add (Cg.refl t' s)
    have e5 : e - s + s = e := by omega
    have e6 : s' - s + s = s' := by omega
    rw [e5, e6] at c4
    exact c4
theorem meet_no {s t s' t' : Int} (h : ¬ ((Int.gcd t t' : Nat) : Int) ∣ (s' - s)) (e : Int) : ¬ (Cg t e s ∧ Cg t' e s') := by
  rintro ⟨⟨k, ek⟩, c2⟩
  have c3 : Cg t' (t * k) (s' - s) := by
    have : t * k = e - s := ek.symm
    rw [this]
    exact c2.sub (Cg.refl t' s)
  exact slv_none h c3
theorem cg_nat {n e k : Nat} (hk : k < n) : Cg (n : Int) (e : Int) (k : Int) ↔ e % n = k := by
  constructor
  · intro h
    have h1 := h.eq
    rw [← Int.natCast_emod, ← Int.natCast_emod, Nat.mod_eq_of_lt hk] at h1
    omega
  · intro h
    refine (Cg.mod (n : Int) e).symm.trans (Cg.of ?_)
    rw [← Int.natCast_emod, h]
/-! ### a power that is the identity modulo d -/
structure Idm (m : Int) (f : Mp) (d : Int) (M : Nat) : Prop where
  a : Cg d (npw m f M).1 1
  b : Cg d (npw m f M).2 0
/-- 1 + A + .. + A ^ (t - 1) -/
def geo (A : Int) : Nat → Int
  | 0 => 0
  | t + 1 => geo A t + A ^ t
theorem geo_mul (A : Int) : ∀ t, (A - 1) * geo A t = A ^ t - 1
  | 0 => by simp [geo]
  | t + 1 => by
    show (A - 1) * (geo A t + A ^ t) = A ^ (t + 1) - 1
    rw [Int.mul_add, geo_mul A t, Int.sub_mul, Int.one_mul, Int.pow_succ, Int.mul_comm A]
    omega
theorem geo_cg {q A : Int} (h : Cg q A 1) : ∀ t : Nat, Cg q (geo A t) t ∧ Cg q (A ^ t) 1
  | 0 => ⟨Cg.refl _ _, by simp; exact Cg.refl _ _⟩
  | t + 1 => by
    obtain ⟨h1, h2⟩ := geo_cg h t
    refine ⟨?_, ?_⟩
    · have := h1.add h2
      exact this
    · rw [Int.pow_succ]
      have := h2.mul h
      exact this
theorem npw_geo (hm : 2 ≤ m) (hf : Ok m f) : ∀ t : Nat, Cg m (npw m f t).1 (f.1 ^ t) ∧ Cg m (npw m f t).2 (f.2 * geo f.1 t)
  | 0 => ⟨by simp [npw, one1]; exact Cg.refl _ _, by simp [npw, one1, geo]; exact Cg.refl _ _⟩
  | t + 1 => by
    obtain ⟨h1, h2⟩ := npw_geo hm hf t
    refine ⟨?_, ?_⟩
    · refine (Cg.mod m _).trans ?_
      rw [Int.pow_succ]
      exact h1.mulR f.1
    · refine (Cg.mod m _).trans ?_
      refine ((h2.mulL f.1).add (Cg.refl m f.2)).trans (Cg.of ?_)
      show f.1 * (f.2 * geo f.1 t) + f.2 = f.2 * geo f.1 (t + 1)
      have : ∀ t, f.1 * geo f.1 t + 1 = geo f.1 (t + 1) := by
        intro t
        have := geo_mul f.1 t
        rw [Int.sub_mul, Int.one_mul] at this
        show f.1 * geo f.1 t + 1 = geo f.1 t + f.1 ^ t
        omega
      rw [← this t, Int.mul_add, Int.mul_left_comm]
      omega
theorem Idm.up (hm : 2 ≤ m) (hf : Ok m f) (hd : d ∣ m) {M : Nat} (h : Idm m f d M) (k : Nat) : Idm m f d (M * k) := by
  have hg := npw_ok hm hf M
  obtain ⟨h1, h2⟩ := npw_geo hm hg k
  rw [npw_mul hm hf] at h1 h2
  refine ⟨(cg_of_dvd hd h1).trans (geo_cg h.a k).2, (cg_of_dvd hd h2).trans ?_⟩
  have := h.b.mulR (geo (npw m f M).1 k)
  rw [Int.zero_mul] at this
  exact this
/-- one prime more, modulo which the multiplier is 1 -/
theorem Idm.step (hm : 2 ≤ m) (hf : Ok m f) {p : Nat} (hd : d * p ∣ m) {M : Nat} (h : Idm m f d M) (hp : Cg p (npw m f M).1 1) : Idm m f (d * p) (M * p) := by
  have hg := npw_ok hm hf M
  obtain ⟨h1, h2⟩ := npw_geo hm hg p
  rw [npw_mul hm hf] at h1 h2
  have hs : (p : Int) ∣ geo (npw m f M).1 p := by
    obtain ⟨k, e⟩ := (geo_cg hp p).1
    exact ⟨k + 1, by rw [Int.mul_add]; omega⟩
  obtain ⟨s, es⟩ := hs
  refine ⟨(cg_of_dvd hd h1).trans ?_, (cg_of_dvd hd h2).trans ?_⟩
  · obtain ⟨k, e⟩ := h.a
    refine ⟨k * s, ?_⟩
    rw [← geo_mul, e, es]
    simp only [Int.mul_assoc, Int.mul_comm, Int.mul_left_comm]
  · obtain ⟨k, e⟩ := h.b
    have e' : (npw m f M).2 = d * k := by omega
    refine ⟨k * s, ?_⟩
    rw [e', es, Int.sub_zero]
    simp only [Int.mul_assoc, Int.mul_comm, Int.mul_left_comm]
/-- Fermat for the six primes -/
theorem fermat {p : Nat} (hp : p ∈ [2, 3, 5, 7, 11, 13]) {A : Int} (h : ¬ (p : Int) ∣ A) : Cg p (A ^ (p - 1)) 1 := by
  have red : ∀ (q : Int) (k : Nat), Cg q (A ^ k) ((A % q) ^ k) := by
    intro q k
    induction k with
    | zero => exact Cg.of (by simp)
    | succ k ih => rw [Int.pow_succ, Int.pow_succ]; exact ih.mul (Cg.mod q A).symm
  refine (red p (p - 1)).trans ?_
  have h0 : A % (p : Int) ≠ 0 := fun z => h (Int.dvd_of_emod_eq_zero z)
  have h1 := Int.emod_nonneg A (show (p : Int) ≠ 0 by simp at hp; omega)
  have h2 := Int.emod_lt_of_pos A (show 0 < (p : Int) by simp at hp; omega)
  generalize A % (p : Int) = r at h0 h1 h2
  obtain ⟨n, rfl⟩ : ∃ n : Nat, r = (n : Int) := ⟨r.toNat, by omega⟩
  have key : ∀ p ∈ [2, 3, 5, 7, 11, 13], ∀ n, n < p → n ≠ 0 → n ^ (p - 1) % p = 1 := by decide
  have := key p hp n (by omega) (by omega)
  have e : ((n : Int) ^ (p - 1)) % (p : Int) = 1 := by
    rw [← Int.natCast_pow, ← Int.natCast_emod, this]; rfl
  refine (Cg.mod (p : Int) _).symm.trans (Cg.of e)
end
end Vg
namespace Vg
section
variable {m : Int} {f g : Mp} {x y d : Int}
def fac (p : Nat) (d : Int) : Nat := if d % p = 0 then p - 1 else 1
def phi (d : Int) : Nat := fac 2 d * (fac 3 d * (fac 5 d * (fac 7 d * (fac 11 d * fac 13 d))))
theorem fac_dvd (p : Nat) (d q : Int) : fac p d ∣ fac p (d * q) := by
  unfold fac
  by_cases c : d % (p : Int) = 0
  · have : (d * q) % (p : Int) = 0 := by rw [Int.mul_emod, c, Int.zero_mul, Int.zero_emod]
    rw [if_pos c, if_pos this]
    exact Nat.dvd_refl _
  · rw [if_neg c]; exact Nat.one_dvd _
theorem phi_dvd (d q : Int) : phi d ∣ phi (d * q) :=
  Nat.mul_dvd_mul (fac_dvd _ _ _) (Nat.mul_dvd_mul (fac_dvd _ _ _) (Nat.mul_dvd_mul (fac_dvd _ _ _) (Nat.mul_dvd_mul (fac_dvd _ _ _) (Nat.mul_dvd_mul (fac_dvd _ _ _) (fac_dvd _ _ _)))))
theorem fac_new {p : Nat} (h : ¬ (d % (p : Int) = 0)) : fac p d * (p - 1) ∣ fac p (d * p) := by
  unfold fac
  rw [if_neg h, if_pos (Int.mul_emod_left _ _), Nat.one_mul]
  exact Nat.dvd_refl _
theorem phi_new {p : Nat} (hp : p ∈ [2, 3, 5, 7, 11, 13]) (h : ¬ (d % (p : Int) = 0)) : phi d * (p - 1) ∣ phi (d * p) := by
  have F := fac_new h
  simp only [List.mem_cons, List.mem_nil_iff, or_false] at hp
  unfold phi
  rcases hp with rfl | rfl | rfl | rfl | rfl | rfl
  · have e : ∀ a b c : Nat, a * b * c = (a * c) * b := fun a b c => Nat.mul_right_comm a b c
    rw [e]
    exact Nat.mul_dvd_mul F (Nat.mul_dvd_mul (fac_dvd _ _ _) (Nat.mul_dvd_mul (fac_dvd _ _ _) (Nat.mul_dvd_mul (fac_dvd _ _ _) (Nat.mul_dvd_mul (fac_dvd _ _ _) (fac_dvd _ _ _)))))
  · have e : ∀ a b c t : Nat, a * (b * c) * t = a * ((b * t) * c) := fun a b c t => by simp only [Nat.mul_assoc, Nat.mul_comm, Nat.mul_left_comm]
    rw [e]
    exact Nat.mul_dvd_mul (fac_dvd _ _ _) (Nat.mul_dvd_mul F (Nat.mul_dvd_mul (fac_dvd _ _ _) (Nat.mul_dvd_mul (fac_dvd _ _ _) (Nat.mul_dvd_mul (fac_dvd _ _ _) (fac_dvd _ _ _)))))
  · have e : ∀ a b c d t : Nat, a * (b * (c * d)) * t = a * (b * ((c * t) * d)) := fun a b c d t => by simp only [Nat.mul_assoc, Nat.mul_comm, Nat.mul_left_comm]
    rw [e]
    exact Nat.mul_dvd_mul (fac_dvd _ _ _) (Nat.mul_dvd_mul (fac_dvd _ _ _) (Nat.mul_dvd_mul F (Nat.mul_dvd_mul (fac_dvd _ _ _) (Nat.mul_dvd_mul (fac_dvd _ _ _) (fac_dvd _ _ _)))))
  · have e : ∀ a b c d x t : Nat, a * (b * (c * (d * x))) * t = a * (b * (c * ((d * t) * x))) := fun a b c d x t => by simp only [Nat.mul_assoc, Nat.mul_comm, Nat.mul_left_comm]
    rw [e]
    exact Nat.mul_dvd_mul (fac_dvd _ _ _) (Nat.mul_dvd_mul (fac_dvd _ _ _) (Nat.mul_dvd_mul (fac_dvd _ _ _) (Nat.mul_dvd_mul F (Nat.mul_dvd_mul (fac_dvd _ _ _) (fac_dvd _ _ _)))))
  · have e : ∀ a b c d x y t : Nat, a * (b * (c * (d * (x * y)))) * t = a * (b * (c * (d * ((x * t) * y)))) := fun a b c d x y t => by simp only [Nat.mul_assoc, Nat.mul_comm, Nat.mul_left_comm]
    rw [e]
    exact Nat.mul_dvd_mul (fac_dvd _ _ _) (Nat.mul_dvd_mul (fac_dvd _ _ _) (Nat.mul_dvd_mul (fac_dvd _ _ _) (Nat.mul_dvd_mul (fac_dvd _ _ _) (Nat.mul_dvd_mul F (fac_dvd _ _ _)))))
  · have e : ∀ a b c d x y t : Nat, a * (b * (c * (d * (x * y)))) * t = a * (b * (c * (d * (x * (y * t))))) := fun a b c d x y t => by simp only [Nat.mul_assoc]
    rw [e]
    exact Nat.mul_dvd_mul (fac_dvd _ _ _) (Nat.mul_dvd_mul (fac_dvd _ _ _) (Nat.mul_dvd_mul (fac_dvd _ _ _) (Nat.mul_dvd_mul (fac_dvd _ _ _) (Nat.mul_dvd_mul (fac_dvd _ _ _) F))))
theorem sm_pos {d : Int} (h : Sm d) : 1 ≤ d := by
  induction h with
  | one => decide
  | @mul m q hm hq ih =>
    have h2 : 2 ≤ q := by simp at hq; omega
    have := Int.mul_le_mul_of_nonneg_left h2 (show 0 ≤ m by omega)
    omega
theorem unit_not_dvd {A : Int} {p : Nat} (hp : 2 ≤ p) (hA : Unit' m A) (hm : 2 ≤ m) (h : (p : Int) ∣ m) : ¬ (p : Int) ∣ A := by
  intro c
  have h3 := hA.2.2
  unfold gcdI at h3
  have d1 : p ∣ A.toNat := by
    have : (p : Int) ∣ ((A.toNat : Nat) : Int) := by rw [Int.toNat_of_nonneg hA.1]; exact c
    exact Int.natCast_dvd_natCast.mp this
  have d2 : p ∣ m.toNat := by
    have : (p : Int) ∣ ((m.toNat : Nat) : Int) := by rw [Int.toNat_of_nonneg (by omega)]; exact h
    exact Int.natCast_dvd_natCast.mp this
  have d3 := Nat.dvd_gcd d1 d2
  have h4 : Nat.gcd A.toNat m.toNat = 1 := by omega
  rw [h4] at d3
  have := Nat.dvd_one.mp d3
  omega
/-- some power is the identity modulo d -/
theorem sm_idm (hm : 2 ≤ m) (hf : Ok m f) (h : Sm d) : d ∣ m → ∃ M, 0 < M ∧ Idm m f d M ∧ M ∣ d.toNat * phi d := by
  induction h with
  | one => exact fun _ => ⟨1, by decide, ⟨Int.one_dvd _, Int.one_dvd _⟩, Nat.one_dvd _⟩
  | @mul d q hd hq ih =>
    intro hdm
    obtain ⟨p, rfl⟩ : ∃ p : Nat, q = (p : Int) := ⟨q.toNat, by simp at hq; omega⟩
    have hp : p ∈ [2, 3, 5, 7, 11, 13] := by simp at hq ⊢; omega
    have p2 : 2 ≤ p := by simp at hp; omega
    obtain ⟨M, M0, I, D⟩ := ih (Int.dvd_trans (Int.dvd_mul_right d p) hdm)
    have d1 := sm_pos hd
    have et : (d * (p : Int)).toNat = d.toNat * p := by
      have e1 : ((d.toNat * p : Nat) : Int) = d * (p : Int) := by rw [Int.natCast_mul, Int.toNat_of_nonneg (by omega)]
      omega
    by_cases c : d % (p : Int) = 0
    · have hpd : (p : Int) ∣ d := Int.dvd_of_emod_eq_zero c
      refine ⟨M * p, Nat.mul_pos M0 (by omega), I.step hm hf hdm (cg_of_dvd hpd I.a), ?_⟩
      rw [et]
      have h1 := Nat.mul_dvd_mul D (Nat.dvd_refl p)
      have h2 : d.toNat * phi d * p = d.toNat * p * phi d := Nat.mul_right_comm _ _ _
      rw [h2] at h1
      exact Nat.dvd_trans h1 (Nat.mul_dvd_mul (Nat.dvd_refl _) (phi_dvd d p))
    · have hg := npw_ok hm hf M
      have hpm : (p : Int) ∣ m := Int.dvd_trans (Int.dvd_mul_left d (p : Int)) hdm
      have I2 := I.up hm hf (Int.dvd_trans (Int.dvd_mul_right d p) hdm) (p - 1)
      have hA : Cg p (npw m f (M * (p - 1))).1 1 := by
        have h1 := (npw_geo hm hg (p - 1)).1
        rw [npw_mul hm hf] at h1
        exact (cg_of_dvd hpm h1).trans (fermat hp (unit_not_dvd p2 hg.u hm hpm))
      refine ⟨M * (p - 1) * p, Nat.mul_pos (Nat.mul_pos M0 (by omega)) (by omega), I2.step hm hf hdm hA, ?_⟩
      rw [et]
      have h1 : M * (p - 1) * p ∣ d.toNat * phi d * (p - 1) * p := Nat.mul_dvd_mul (Nat.mul_dvd_mul D (Nat.dvd_refl _)) (Nat.dvd_refl p)
      have h2 : d.toNat * phi d * (p - 1) * p = d.toNat * p * (phi d * (p - 1)) := by simp only [Nat.mul_assoc, Nat.mul_comm, Nat.mul_left_comm]
      rw [h2] at h1
      exact Nat.dvd_trans h1 (Nat.mul_dvd_mul (Nat.dvd_refl _) (phi_new hp c))
theorem Idm.back (hm : 2 ≤ m) (hd : d ∣ m) {M : Nat} (h : Idm m f d M) (x : Int) : Cg d (orb m f x M) (orb m f x 0) := by
  have h1 : ∀ z : Mp, Cg d (img m z x) (z.1 * x + z.2) := fun z => cg_of_dvd hd (Cg.mod m _)
  refine (h1 _).trans ((((h.a.mulR x).add h.b)).trans ?_)
  refine (Cg.of ?_).trans (h1 one1).symm
  show 1 * x + 0 = 1 * x + 0
  rfl
/-- a period divides it -/
theorem per_dvd (hm : 2 ≤ m) (hf : Ok m f) (h : Sm d) (hd : d ∣ m) {n : Nat} (q : Per m f x d n) : n ∣ d.toNat * phi d := by
  obtain ⟨M, _, I, D⟩ := sm_idm hm hf h hd
  exact Nat.dvd_trans ((q.dvd hm hf hd).mp (I.back hm hd x)) D
end
end Vg

set_option Elab.async false
set_option linter.all false
set_option maxRecDepth 100000
set_option maxHeartbeats 2000000
namespace Vg
open PySem PySem.Spec PyProof.Rows L2
/-! ### promises: the inverse of any unit, the numbers that solve, both at once -/
def sp_uinvG : Sp := fun vs H Q _ => ∃ m a : Int, vs = [.int m, .int a] ∧ 1 ≤ m ∧ m ≤ 1000000000 ∧ -1152921504606846976 ≤ a ∧ a ≤ 1152921504606846976 ∧ Int.gcd a m = 1 ∧
  ∀ H' r, Same H H' → 0 ≤ r → r < m → Cg m (r * a) 1 → Q (.int r) H'
theorem w_uinvG {H : Hp} {Q : VK} {E : XK} {m a : Int} (hm : 1 ≤ m) (h9 : m ≤ 1000000000) (a0 : -1152921504606846976 ≤ a) (a1 : a ≤ 1152921504606846976) (g : Int.gcd a m = 1)
    (h : ∀ H' r, Same H H' → 0 ≤ r → r < m → Cg m (r * a) 1 → Q (.int r) H') : sp_uinvG [.int m, .int a] H Q E := ⟨m, a, rfl, hm, h9, a0, a1, g, h⟩
/-- None, or (start, step) -/
def sp_solve : Sp := fun vs H Q _ => ∃ m a w : Int, vs = [.int m, .int a, .int w] ∧ 1 ≤ m ∧ m ≤ 1000000000 ∧ -1152921504606846976 ≤ a ∧ a ≤ 1152921504606846976 ∧ -1152921504606846976 ≤ w ∧ w ≤ 1152921504606846976 ∧
  (∀ H', Same H H' → ¬ ((Int.gcd a m : Nat) : Int) ∣ w → Q .non H') ∧
  ∀ H' p s t, Same H H' → H p = none → ((Int.gcd a m : Nat) : Int) ∣ w → Slv m a w s t → H' p = some (.tup [.int s, .int t]) → Q (.ref p) H'
theorem w_solve {H : Hp} {Q : VK} {E : XK} {m a w : Int} (hm : 1 ≤ m) (h9 : m ≤ 1000000000) (a0 : -1152921504606846976 ≤ a) (a1 : a ≤ 1152921504606846976) (w0 : -1152921504606846976 ≤ w) (w1 : w ≤ 1152921504606846976)
    (hn : ∀ H', Same H H' → ¬ ((Int.gcd a m : Nat) : Int) ∣ w → Q .non H')
    (h : ∀ H' p s t, Same H H' → H p = none → ((Int.gcd a m : Nat) : Int) ∣ w → Slv m a w s t → H' p = some (.tup [.int s, .int t]) → Q (.ref p) H') : sp_solve [.int m, .int a, .int w] H Q E :=
  ⟨m, a, w, rfl, hm, h9, a0, a1, w0, w1, hn, h⟩
theorem w_gcd {H : Hp} {Q : VK} {a b : Int} (h : Q (.int ((Int.gcd a b : Nat) : Int)) H) : rGcd [.int a, .int b] H Q := ⟨a, b, rfl, h⟩
theorem dvd_emod {g w : Int} : w % g = 0 ↔ g ∣ w := ⟨Int.dvd_of_emod_eq_zero, Int.emod_eq_zero_of_dvd⟩
/-- what division leaves small -/
theorem div_le {a g : Int} (h : 1 ≤ g) (a0 : -1152921504606846976 ≤ a) (a1 : a ≤ 1152921504606846976) : -1152921504606846976 ≤ a / g ∧ a / g ≤ 1152921504606846976 := by
  have e := Int.emod_add_mul_ediv a g
  have b0 := Int.emod_nonneg a (show g ≠ 0 by omega)
  have b1 := Int.emod_lt_of_pos a (show 0 < g by omega)
  constructor
  · rcases Int.lt_or_le (a / g) (-1152921504606846976) with l | l
    · exfalso
      have h2 : (-1152921504606846976 - a / g) * 1 ≤ (-1152921504606846976 - a / g) * g := Int.mul_le_mul_of_nonneg_left h (by omega)
      rw [Int.sub_mul _ _ g, Int.mul_one, Int.mul_comm (a / g) g] at h2
      omega
    · exact l
  · rcases Int.le_total 0 a with z | z
    · have := Int.ediv_le_self g z; omega
    · rcases Int.lt_or_le 0 (a / g) with l | l
      · have h2 : g * 1 ≤ g * (a / g) := Int.mul_le_mul_of_nonneg_left l (by omega)
        omega
      · omega
theorem div_lt' {m g : Int} (h : 1 ≤ g) (m0 : 0 ≤ m) (d : g ∣ m) (m1 : 1 ≤ m) : 1 ≤ m / g ∧ m / g ≤ m := by
  have e := Int.mul_ediv_cancel' d
  have l := Int.ediv_le_self g m0
  refine ⟨?_, l⟩
  rcases Int.lt_or_le 0 (m / g) with z | z
  · omega
  · have := Int.mul_le_mul_of_nonneg_left z (show 0 ≤ g by omega)
    omega
end Vg

set_option Elab.async false
set_option linter.all false
set_option maxRecDepth 100000
set_option maxHeartbeats 2000000
namespace Vg
open PySem PySem.Spec PyProof.Rows L2
/-! ### the chain's steps -/
/-- from d on, the next divisors of m, each by the least prime of what is left -/
inductive Run (m : Int) : Int → List Int → Prop where
  | nil {d : Int} (h : ∀ p ∈ P6, ¬ p ∣ m / d) : Run m d []
  | cons {d q : Int} {l : List Int} (hq : q ∈ P6) (hd : d * q ∣ m) (low : ∀ p ∈ P6, p < q → ¬ p ∣ m / d) (r : Run m (d * q) l) : Run m d (d * q :: l)
theorem p6_bd {q : Int} (h : q ∈ P6) : 2 ≤ q ∧ q ≤ 13 := p13 h
theorem strip_run {m q : Int} (hq : q ∈ P6) : ∀ (k : Nat) (x last : Int) (rest : List Int), x.toNat ≤ k → 0 < x → 1 ≤ last → last * x = m → (∀ p ∈ P6, p < q → ¬ p ∣ x) →
    (∀ x' last', 0 < x' → 1 ≤ last' → last' * x' = m → x' ∣ x → ¬ q ∣ x' → (strip q x last).1 = x' → (strip q x last).2.getLastD last = last' → Run m last' rest) → Run m last ((strip q x last).2 ++ rest) := by
  intro k
  induction k with
  | zero => intro x last rest hk x0; omega
  | succ k ih =>
    intro x last rest hk x0 l1 e low fin
    have q2 := p6_bd hq
    have ml : m / last = x := by rw [← e]; exact Int.mul_ediv_cancel_left _ (by omega)
    by_cases c : x % q = 0
    · have g := strip_go (last := last) x0 q2.1 c
      obtain ⟨d1, d2⟩ := div_turn x0 q2.1 c
      have hlt : x / q < x := Int.ediv_lt_self_of_pos_of_ne_one x0 (by omega)
      have lq : last ≤ last * q := by
        have := Int.mul_le_mul_of_nonneg_left (show 1 ≤ q by omega) (show 0 ≤ last by omega); omega
      have e2 : last * q * (x / q) = m := by rw [Int.mul_assoc, d1]; exact e
      rw [g]
      show Run m last (last * q :: ((strip q (x / q) (last * q)).2 ++ rest))
      have dvx : x / q ∣ x := ⟨q, by rw [Int.mul_comm]; exact d1.symm⟩
      refine Run.cons hq ⟨_, e2.symm⟩ (by rw [ml]; exact low) (ih _ _ rest (by omega) d2 (by omega) e2 (fun p hp l z => low p hp l (Int.dvd_trans z dvx)) ?_)
      intro x' last' h1 h2 h3 h4 h5 h6 h7
      refine fin x' last' h1 h2 h3 (Int.dvd_trans h4 dvx) h5 (by rw [g]; exact h6) ?_
      rw [g]
      rw [← h7]
      show (last * q :: (strip q (x / q) (last * q)).2).getLastD last = _
      cases (strip q (x / q) (last * q)).2 <;> rfl
    · have g := strip_end (last := last) c
      rw [g]
      exact fin x last x0 l1 e (Int.dvd_refl x) (fun z => c (Int.emod_eq_zero_of_dvd z)) (by rw [g]) (by rw [g]; rfl)
theorem goAll_run {m : Int} : ∀ (qs : List Int) (x last : Int), (∀ q ∈ qs, q ∈ P6) → (∀ p ∈ P6, p ∉ qs → ¬ p ∣ x) → qs.Pairwise (· < ·) → (∀ p ∈ P6, ∀ q ∈ qs, p < q → p ∉ qs → ¬ p ∣ x) →
    0 < x → 1 ≤ last → last * x = m → Run m last (goAll qs x last).2
  | [], x, last, _, h, _, _, x0, l1, e => by
    have ml : m / last = x := by rw [← e]; exact Int.mul_ediv_cancel_left _ (by omega)
    exact Run.nil (by rw [ml]; exact fun p hp => h p hp (by simp))
  | q :: qs, x, last, hs, h, sorted, h2, x0, l1, e => by
    have hq := hs q (List.mem_cons_self ..)
    have so := List.pairwise_cons.mp sorted
    show Run m last ((strip q x last).2 ++ (goAll qs (strip q x last).1 ((strip q x last).2.getLastD last)).2)
    refine strip_run hq x.toNat x last _ (Nat.le_refl _) x0 l1 e (fun p hp l => ?_) ?_
    · refine h p hp (fun z => ?_)
      rcases List.mem_cons.mp z with z | z
      · omega
      · have := so.1 p z; omega
    · intro x' last' h3 h4 h5 h6 h7 h8 h9
      rw [h8, h9]
      have nn : ∀ p ∈ P6, p ∉ qs → ¬ p ∣ x' := by
        intro p hp hn z
        by_cases c : p = q
        · rw [c] at z; exact h7 z
        · exact h p hp (by intro y; rcases List.mem_cons.mp y with y | y; exact c y; exact hn y) (Int.dvd_trans z h6)
      exact goAll_run qs x' last' (fun z hz => hs z (List.mem_cons_of_mem _ hz)) nn so.2 (fun p hp _ _ _ hn => nn p hp hn) h3 h4 h5
theorem chain_run {m : Int} (h : 1 ≤ m) : ∃ l, chainL m = 1 :: l ∧ Run m 1 l :=
  ⟨_, rfl, goAll_run P6 m 1 (fun q h => h) (fun p hp hn => absurd hp hn) (by unfold P6; decide) (fun p hp q hq _ hn => absurd hp hn) (by omega) (by decide) (by omega)⟩
/-- primes up to 13 divide one factor or the other -/
theorem p6_prime {q x y : Int} (hq : q ∈ P6) (h : q ∣ x * y) : q ∣ x ∨ q ∣ y := by
  by_cases c : q ∣ x
  · exact .inl c
  · refine .inr ?_
    have q2 := p6_bd hq
    obtain ⟨p, rfl⟩ : ∃ p : Nat, q = (p : Int) := ⟨q.toNat, by omega⟩
    have h0 : x % (p : Int) ≠ 0 := fun z => c (Int.dvd_of_emod_eq_zero z)
    have b0 := Int.emod_nonneg x (show (p : Int) ≠ 0 by omega)
    have b1 := Int.emod_lt_of_pos x (show 0 < (p : Int) by omega)
    obtain ⟨r, hr⟩ : ∃ r : Nat, x % (p : Int) = (r : Int) := ⟨(x % (p : Int)).toNat, by omega⟩
    have hp : p ∈ [2, 3, 5, 7, 11, 13] := by unfold P6 at hq; simp at hq ⊢; omega
    have key : ∀ p ∈ [2, 3, 5, 7, 11, 13], ∀ r, r < p → r ≠ 0 → ∃ s, s < p ∧ s * r % p = 1 := by decide
    obtain ⟨s, _, hs⟩ := key p hp r (by omega) (by omega)
    have c1 : Cg (p : Int) ((s : Int) * x) 1 := by
      have e1 : Cg (p : Int) ((s : Int) * x) ((s : Int) * (r : Int)) := by
        rw [← hr]; exact (Cg.mod (p : Int) x).symm.mulL s
      refine e1.trans ?_
      refine (Cg.mod (p : Int) _).symm.trans (Cg.of ?_)
      rw [← Int.natCast_mul, ← Int.natCast_emod, hs]; rfl
    have c2 := c1.mulR y
    rw [Int.one_mul, Int.mul_assoc] at c2
    have c3 : (p : Int) ∣ (s : Int) * (x * y) := Int.dvd_trans h (Int.dvd_mul_left _ _)
    obtain ⟨k, ek⟩ := c2
    obtain ⟨l, el⟩ := c3
    exact ⟨l - k, by rw [Int.mul_sub]; omega⟩
theorem sm_one {m : Int} (hm : Sm m) : ∀ x, 1 ≤ x → x ∣ m → (∀ p ∈ P6, ¬ p ∣ x) → x = 1 := by
  induction hm with
  | one =>
    intro x h1 h2 _
    have := Int.le_of_dvd (by decide) h2; omega
  | @mul m q hm hq ih =>
    intro x h1 h2 h3
    refine ih x h1 ?_ h3
    obtain ⟨k, ek⟩ := h2
    have hq' : q ∈ P6 := hq
    have q2 := p6_bd hq'
    have d : q ∣ x * k := ⟨m, by rw [← ek, Int.mul_comm]⟩
    rcases p6_prime hq' d with z | ⟨j, ej⟩
    · exact absurd z (h3 q hq')
    · refine ⟨j, ?_⟩
      rw [ej, ← Int.mul_assoc, Int.mul_comm x q, Int.mul_assoc, Int.mul_comm m q] at ek
      exact Int.eq_of_mul_eq_mul_left (by omega) ek
theorem run_end {m d : Int} (hm : Sm m) (d1 : 1 ≤ d) (hd : d ∣ m) (h : Run m d []) : d = m := by
  cases h with
  | nil h =>
    have m1 := sm_pos hm
    obtain ⟨a, b⟩ := div_lt' (m := m) d1 (by omega) hd m1
    have e := Int.mul_ediv_cancel' hd
    have := sm_one hm (m / d) a ⟨d, by rw [Int.mul_comm]; exact e.symm⟩ h
    rw [this, Int.mul_one] at e
    exact e
/-- the chain of m, a new list -/
def sp_chain : Sp := fun vs H Q _ => ∃ (m : Int), vs = [.int m] ∧ 1 ≤ m ∧ m ≤ 1000000000000000000 ∧
  ∀ H' l, Same H H' → H l = none → H' l = some (.lst ((chainL m).map V.int)) → Q (.ref l) H'
theorem w_chain1 {H : Hp} {Q : VK} {E : XK} {m : Int} (hm : 1 ≤ m) (h9 : m ≤ 1000000000) (h : ∀ H' l, Same H H' → H l = none → H' l = some (.lst ((chainL m).map V.int)) → Q (.ref l) H') : sp_chain [.int m] H Q E :=
  ⟨m, rfl, hm, by omega, h⟩
/-- the law's own chain -/
def sp_chain9 : Sp := fun vs H Q _ => ∃ (m : Int), vs = [.int m] ∧ 1 ≤ m ∧ m ≤ 1000000000 ∧
  ∀ H' l, Same H H' → H l = none → H' l = some (.lst ((chainL m).map V.int)) → Q (.ref l) H'
theorem w_chain9 {H : Hp} {Q : VK} {E : XK} {m : Int} (hm : 1 ≤ m) (h9 : m ≤ 1000000000) (h : ∀ H' l, Same H H' → H l = none → H' l = some (.lst ((chainL m).map V.int)) → Q (.ref l) H') : sp_chain9 [.int m] H Q E :=
  ⟨m, rfl, hm, h9, h⟩
theorem w_chain18 {H : Hp} {Q : VK} {E : XK} {m : Int} (hm : 1 ≤ m) (h9 : m ≤ 1000000000000000000) (h : ∀ H' l, Same H H' → H l = none → H' l = some (.lst ((chainL m).map V.int)) → Q (.ref l) H') : sp_chain [.int m] H Q E :=
  ⟨m, rfl, hm, h9, h⟩
theorem short_way18 {m x last : Int} {ini : List Int} (h1 : last * x = m) (h2 : 2 ^ ini.length ≤ last.toNat) (hx : 0 < x) (hl : 1 ≤ last) (hm : m ≤ 1000000000000000000) : ini.length ≤ 60 ∧ last ≤ 1000000000000000000 := by
  have hlm : last ≤ m := by
    have := Int.mul_le_mul_of_nonneg_left (show 1 ≤ x by omega) (show 0 ≤ last by omega)
    omega
  refine ⟨?_, by omega⟩
  rcases Nat.lt_or_ge 60 ini.length with h | h
  · have h3 : 2 ^ 61 ≤ 2 ^ ini.length := Nat.pow_le_pow_right (by decide) h
    have h4 : (2 : Nat) ^ 61 = 2305843009213693952 := by decide
    omega
  · exact h
theorem p6_drop {i : Nat} {v : V} (h : ([V.int 2, .int 3, .int 5, .int 7, .int 11, .int 13] : List V)[i]? = some v) :
    ∃ q, v = .int q ∧ P6.drop i = q :: P6.drop (i + 1) ∧ 2 ≤ q ∧ q ≤ 13 ∧ q ∈ P6 := by
  rcases i with _ | _ | _ | _ | _ | _ | i
  · cases h; exact ⟨2, rfl, rfl, by decide, by decide, by unfold P6; decide⟩
  · cases h; exact ⟨3, rfl, rfl, by decide, by decide, by unfold P6; decide⟩
  · cases h; exact ⟨5, rfl, rfl, by decide, by decide, by unfold P6; decide⟩
  · cases h; exact ⟨7, rfl, rfl, by decide, by decide, by unfold P6; decide⟩
  · cases h; exact ⟨11, rfl, rfl, by decide, by decide, by unfold P6; decide⟩
  · cases h; exact ⟨13, rfl, rfl, by decide, by decide, by unfold P6; decide⟩
  · simp at h
/-! ### laps -/
theorem orb_lap {m : Int} {f : Mp} {x : Int} (hm : 2 ≤ m) (hf : Ok m f) (n k r : Nat) : orb m (npw m f n) (orb m f x k) r = orb m f x (k + n * r) := by
  show img m (npw m (npw m f n) r) (orb m f x k) = _
  rw [npw_mul hm hf, orb_add hm hf]
  rfl
/-- the least number of times below many that leads from x to y modulo D -/
def sp_laps (K : PySem.W.Frag) : Sp := fun vs H Q _ => ∃ (m : Int) (f : Mp) (x y D many : Int) (t : Addr), vs = [.int m, .ref t, .int x, .int y, .int D, .int many] ∧ TpAt K H t f ∧ 2 ≤ m ∧ m ≤ 1000000000 ∧ Ok m f ∧
  0 ≤ x ∧ x < m ∧ 1 ≤ D ∧ 0 ≤ many ∧ many ≤ 1000000000 ∧
  ((∀ r : Nat, (r : Int) < many → ¬ Cg D (orb m f x r) y) → Q .non H) ∧ ∀ s : Nat, (s : Int) < many → Cg D (orb m f x s) y → (∀ r, r < s → ¬ Cg D (orb m f x r) y) → Q (.int s) H
theorem w_laps {K : PySem.W.Frag} {H : Hp} {Q : VK} {E : XK} {m : Int} {f : Mp} {x y D many : Int} {t : Addr} (ht : TpAt K H t f) (hm : 2 ≤ m) (h9 : m ≤ 1000000000) (hf : Ok m f)
    (x0 : 0 ≤ x) (x1 : x < m) (hD : 1 ≤ D) (n0 : 0 ≤ many) (n1 : many ≤ 1000000000) (hn : (∀ r : Nat, (r : Int) < many → ¬ Cg D (orb m f x r) y) → Q .non H)
    (h : ∀ s : Nat, (s : Int) < many → Cg D (orb m f x s) y → (∀ r, r < s → ¬ Cg D (orb m f x r) y) → Q (.int s) H) : sp_laps K [.int m, .ref t, .int x, .int y, .int D, .int many] H Q E :=
  ⟨m, f, x, y, D, many, t, rfl, ht, hm, h9, hf, x0, x1, hD, n0, n1, hn, h⟩
/-- no number leads there modulo the next divisor -/
def Stop (m : Int) (f : Mp) (x y d : Int) : Prop := ∃ p, p ∈ P6 ∧ d * p ∣ m ∧ ((∀ p' ∈ P6, p' < p → ¬ p' ∣ m / d) ∧ ∃ i : Nat, (chainL m)[i]? = some d ∧ (chainL m)[i + 1]? = some (d * p)) ∧ ∀ e, ¬ Cg (d * p) (orb m f x e) y
def sp_approach (K : PySem.W.Frag) : Sp := fun vs H Q _ => ∃ (m : Int) (f : Mp) (x y : Int) (t : Addr), vs = [.int m, .ref t, .int x, .int y] ∧ TpAt K H t f ∧ 2 ≤ m ∧ m ≤ 1000000000 ∧ Ok m f ∧ Sm m ∧
  0 ≤ x ∧ x < m ∧ ∀ H' q d (n k : Nat), Same H H' → H q = none → 1 ≤ d → d ∣ m → App m f x y d n k → (d = m ∨ Stop m f x y d) → H' q = some (.tup [.int d, .int n, .int k]) → Q (.ref q) H'
theorem w_approach {K : PySem.W.Frag} {H : Hp} {Q : VK} {E : XK} {m : Int} {f : Mp} {x y : Int} {t : Addr} (ht : TpAt K H t f) (hm : 2 ≤ m) (h9 : m ≤ 1000000000) (hf : Ok m f) (hs : Sm m)
    (x0 : 0 ≤ x) (x1 : x < m) (h : ∀ H' q d (n k : Nat), Same H H' → H q = none → 1 ≤ d → d ∣ m → App m f x y d n k → (d = m ∨ Stop m f x y d) → H' q = some (.tup [.int d, .int n, .int k]) → Q (.ref q) H') :
    sp_approach K [.int m, .ref t, .int x, .int y] H Q E := ⟨m, f, x, y, t, rfl, ht, hm, h9, hf, hs, x0, x1, h⟩
theorem w_iterate {K : PySem.W.Frag} {H : Hp} {Q : VK} {E : XK} {m : Int} {f : Mp} {x e : Int} {t : Addr} (ht : TpAt K H t f) (hm : 2 ≤ m) (h9 : m ≤ 1000000000) (hf : Ok m f)
    (h : ∀ H' p, Same H H' → IsPw m f e p → Q (.int (img m p x)) H') : sp_iterate K [.int m, .ref t, .int x, .int e] H Q E := by
  exact ⟨m, f, x, e, t, rfl, ht, hm, h9, hf, h⟩
theorem Stop.no {m : Int} {f : Mp} {x y d : Int} (h : Stop m f x y d) (e : Nat) : ¬ orb m f x e = y := by
  obtain ⟨p, _, _, _, h⟩ := h
  exact fun z => h e (Cg.of z)
/-- the distance -/
def sp_dist (K : PySem.W.Frag) : Sp := fun vs H Q _ => ∃ (m : Int) (f : Mp) (x y : Int) (t : Addr), vs = [.int m, .ref t, .int x, .int y] ∧ TpAt K H t f ∧ 2 ≤ m ∧ m ≤ 1000000000 ∧ Ok m f ∧ Sm m ∧
  0 ≤ x ∧ x < m ∧ 0 ≤ y ∧ y < m ∧ (∀ H', Same H H' → (∀ e, orb m f x e ≠ y) → Q .non H') ∧ ∀ H' (n k : Nat), Same H H' → Per m f x m n → k < n → orb m f x k = y → Q (.int k) H'
theorem w_dist {K : PySem.W.Frag} {H : Hp} {Q : VK} {E : XK} {m : Int} {f : Mp} {x y : Int} {t : Addr} (ht : TpAt K H t f) (hm : 2 ≤ m) (h9 : m ≤ 1000000000) (hf : Ok m f) (hs : Sm m)
    (x0 : 0 ≤ x) (x1 : x < m) (y0 : 0 ≤ y) (y1 : y < m) (hn : ∀ H', Same H H' → (∀ e, orb m f x e ≠ y) → Q .non H') (h : ∀ H' (n k : Nat), Same H H' → Per m f x m n → k < n → orb m f x k = y → Q (.int k) H') :
    sp_dist K [.int m, .ref t, .int x, .int y] H Q E := ⟨m, f, x, y, t, rfl, ht, hm, h9, hf, hs, x0, x1, y0, y1, hn, h⟩
theorem least {P : Nat → Prop} : ∀ n, P n → ∃ k, k ≤ n ∧ P k ∧ ∀ j, j < k → ¬ P j := by
  intro n
  induction n using Nat.strongRecOn with
  | ind n ih =>
    intro h
    rcases Classical.em (∃ j, j < n ∧ P j) with ⟨j, hj, pj⟩ | c
    · obtain ⟨k, h1, h2, h3⟩ := ih j hj pj
      exact ⟨k, by omega, h2, h3⟩
    · exact ⟨n, Nat.le_refl _, h, fun j hj pj => c ⟨j, hj, pj⟩⟩
theorem per_ex {m : Int} {f : Mp} {x : Int} (hm : 2 ≤ m) (hf : Ok m f) : ∃ n, Per m f x m n := by
  obtain ⟨t, t1, _, c⟩ := (Per.one (m := m) (f := f) (x := x)).around hm hf hm (by decide) (by rw [Int.one_mul]; exact Int.dvd_refl m)
  rw [Int.one_mul, Nat.one_mul] at c
  obtain ⟨k, _, ⟨h1, h2⟩, h3⟩ := least (P := fun n => 0 < n ∧ Cg m (orb m f x n) (orb m f x 0)) t ⟨by omega, c⟩
  exact ⟨k, h1, h2, fun j j0 jk z => h3 j jk ⟨j0, z⟩⟩
/-- the numbers of a cycle -/
def cyc (m : Int) (f : Mp) (x : Int) (n : Nat) : List Int := (List.range n).map (orb m f x)
theorem cyc_at {m : Int} {f : Mp} {x : Int} {n i : Nat} (h : i < n) : (cyc m f x n)[i]? = some (orb m f x i) := by
  unfold cyc
  rw [List.getElem?_map, List.getElem?_range h]
  rfl
theorem cyc_len {m : Int} {f : Mp} {x : Int} {n : Nat} : (cyc m f x n).length = n := by unfold cyc; simp
theorem cyc_mem {m : Int} {f : Mp} {x y : Int} {n : Nat} : y ∈ cyc m f x n ↔ ∃ i, i < n ∧ orb m f x i = y := by
  unfold cyc
  simp
theorem cyc_snoc {m : Int} {f : Mp} {x : Int} {n : Nat} : cyc m f x (n + 1) = cyc m f x n ++ [orb m f x n] := by
  unfold cyc
  rw [List.range_succ, List.map_append]
  rfl
def sp_lcycle (K : PySem.W.Frag) : Sp := fun vs H Q _ => ∃ (m : Int) (f : Mp) (x : Int) (t : Addr), vs = [.int m, .ref t, .int x] ∧ TpAt K H t f ∧ 2 ≤ m ∧ m ≤ 100000 ∧ Ok m f ∧ 0 ≤ x ∧ x < m ∧
  ∀ H' l n, Same H H' → H l = none → Per m f x m n → n ≤ m.toNat → H' l = some (.lst ((cyc m f x n).map V.int)) → Q (.ref l) H'
theorem w_lcycle {K : PySem.W.Frag} {H : Hp} {Q : VK} {E : XK} {m : Int} {f : Mp} {x : Int} {t : Addr} (ht : TpAt K H t f) (hm : 2 ≤ m) (h9 : m ≤ 100000) (hf : Ok m f) (x0 : 0 ≤ x) (x1 : x < m)
    (h : ∀ H' l n, Same H H' → H l = none → Per m f x m n → n ≤ m.toNat → H' l = some (.lst ((cyc m f x n).map V.int)) → Q (.ref l) H') : sp_lcycle K [.int m, .ref t, .int x] H Q E :=
  ⟨m, f, x, t, rfl, ht, hm, h9, hf, x0, x1, h⟩
/-! ### what approach tells -/
theorem app_period {m : Int} {f : Mp} {x d : Int} {n k : Nat} (h0 : 0 ≤ x) (h1 : x < m) (h : d = m ∨ Stop m f x x d) : d = m := by
  rcases h with h | h
  · exact h
  · exact absurd (orb_zero h0 h1) (h.no 0)
end Vg

set_option Elab.async false
set_option linter.all false
set_option maxRecDepth 100000
set_option maxHeartbeats 2000000
namespace Vg
open PySem PySem.Spec PyProof.Rows L2
/-! ### math.lcm -/
def rLcm : List V → Hp → VK → Prop := fun vs H Q => ∃ a b : Int, vs = [.int a, .int b] ∧ a.natAbs < 2 ^ 64 ∧ b.natAbs < 2 ^ 64 ∧ Q (.int ((Nat.lcm a.natAbs b.natAbs : Nat) : Int)) H
theorem cr_lcm {X : Cx} : CallR X (.builtin "math.lcm") rLcm := by
  intro pins s σ H vs us Q I r h
  obtain ⟨a, b, rfl, ha, hb, q⟩ := h
  obtain ⟨t, u, rfl⟩ := Vals.int2 r
  exact PySem.W.mc_lcm ha hb fun _ => ⟨.int _, H, I.tok _, ⟨_, rfl⟩, q⟩
theorem w_lcm {H : Hp} {Q : VK} {a b : Nat} (ha : a < 18446744073709551616) (hb : b < 18446744073709551616) (h : Q (.int ((Nat.lcm a b : Nat) : Int)) H) : rLcm [.int (a : Int), .int (b : Int)] H Q :=
  ⟨a, b, rfl, by simpa using ha, by simpa using hb, h⟩
/-! ### periods, orders -/
def sp_period (K : PySem.W.Frag) : Sp := fun vs H Q _ => ∃ (m : Int) (f : Mp) (x : Int) (t : Addr), vs = [.int m, .ref t, .int x] ∧ TpAt K H t f ∧ 2 ≤ m ∧ m ≤ 1000000000 ∧ Ok m f ∧ Sm m ∧
  0 ≤ x ∧ x < m ∧ ∀ H' (n : Nat), Same H H' → Per m f x m n → Q (.int n) H'
theorem w_period {K : PySem.W.Frag} {H : Hp} {Q : VK} {E : XK} {m : Int} {f : Mp} {x : Int} {t : Addr} (ht : TpAt K H t f) (hm : 2 ≤ m) (h9 : m ≤ 1000000000) (hf : Ok m f) (hs : Sm m)
    (x0 : 0 ≤ x) (x1 : x < m) (h : ∀ H' (n : Nat), Same H H' → Per m f x m n → Q (.int n) H') : sp_period K [.int m, .ref t, .int x] H Q E := ⟨m, f, x, t, rfl, ht, hm, h9, hf, hs, x0, x1, h⟩
def sp_order (K : PySem.W.Frag) : Sp := fun vs H Q _ => ∃ (m : Int) (f : Mp) (t : Addr), vs = [.int m, .ref t] ∧ TpAt K H t f ∧ 2 ≤ m ∧ m ≤ 1000000000 ∧ Ok m f ∧ Sm m ∧
  ∀ H' (n : Nat), Same H H' → Ord m f n → n < 1000000000000000001 → Q (.int n) H'
theorem w_order {K : PySem.W.Frag} {H : Hp} {Q : VK} {E : XK} {m : Int} {f : Mp} {t : Addr} (ht : TpAt K H t f) (hm : 2 ≤ m) (h9 : m ≤ 1000000000) (hf : Ok m f) (hs : Sm m)
    (h : ∀ H' (n : Nat), Same H H' → Ord m f n → n < 1000000000000000001 → Q (.int n) H') : sp_order K [.int m, .ref t] H Q E := ⟨m, f, t, rfl, ht, hm, h9, hf, hs, h⟩
theorem lcm_le' {a b : Nat} (ha : a ≤ 1000000000) (hb : b ≤ 1000000000) : Nat.lcm a b < 1000000000000000001 := by
  have h1 : Nat.lcm a b ≤ a * b := by
    unfold Nat.lcm
    exact Nat.div_le_self _ _
  have h2 := Nat.mul_le_mul ha hb
  omega
/-! ### both at once -/
def sp_meet (K : PySem.W.Frag) : Sp := fun vs H Q _ => ∃ (s t s' t' : Int) (a b : Addr), vs = [.ref a, .ref b] ∧ SqT K H a [.int s, .int t] ∧ SqT K H b [.int s', .int t'] ∧ 1 ≤ t ∧ t ≤ 1000000000 ∧ 1 ≤ t' ∧ t' ≤ 1000000000 ∧
  0 ≤ s ∧ s < t ∧ 0 ≤ s' ∧ s' < t' ∧
  (∀ H', Same H H' → (∀ e, ¬ (Cg t e s ∧ Cg t' e s')) → Q .non H') ∧
  ∀ H' p S T, Same H H' → H p = none → 0 ≤ S → S < T → T * (Int.gcd t t' : Int) = t * t' → (∀ e, (Cg t e s ∧ Cg t' e s') ↔ Cg T e S) → H' p = some (.tup [.int S, .int T]) → Q (.ref p) H'
theorem w_meet {K : PySem.W.Frag} {H : Hp} {Q : VK} {E : XK} {s t s' t' : Int} {a b : Addr} (ha : SqT K H a [.int s, .int t]) (hb : SqT K H b [.int s', .int t']) (t1 : 1 ≤ t) (t9 : t ≤ 1000000000) (u1 : 1 ≤ t') (u9 : t' ≤ 1000000000)
    (s0 : 0 ≤ s) (s1 : s < t) (v0 : 0 ≤ s') (v1 : s' < t') (hn : ∀ H', Same H H' → (∀ e, ¬ (Cg t e s ∧ Cg t' e s')) → Q .non H')
    (h : ∀ H' p S T, Same H H' → H p = none → 0 ≤ S → S < T → T * (Int.gcd t t' : Int) = t * t' → (∀ e, (Cg t e s ∧ Cg t' e s') ↔ Cg T e S) → H' p = some (.tup [.int S, .int T]) → Q (.ref p) H') : sp_meet K [.ref a, .ref b] H Q E :=
  ⟨s, t, s', t', a, b, rfl, ha, hb, t1, t9, u1, u9, s0, s1, v0, v1, hn, h⟩
def sp_joint (K : PySem.W.Frag) : Sp := fun vs H Q _ => ∃ (m : Int) (f g : Mp) (x y u v : Int) (tf tg a b : Addr), vs = [.int m, .ref a, .ref b] ∧ SqT K H a [.ref tf, .int x, .int y] ∧ SqT K H b [.ref tg, .int u, .int v] ∧
  TpAt K H tf f ∧ TpAt K H tg g ∧ 2 ≤ m ∧ m ≤ 1000000000 ∧ Ok m f ∧ Ok m g ∧ Sm m ∧ (0 ≤ x ∧ x < m) ∧ (0 ≤ y ∧ y < m) ∧ (0 ≤ u ∧ u < m) ∧ (0 ≤ v ∧ v < m) ∧
  (∀ H', Same H H' → (∀ e, ¬ (orb m f x e = y ∧ orb m g u e = v)) → Q .non H') ∧
  ∀ H' (e : Nat), Same H H' → orb m f x e = y → orb m g u e = v → (∀ n n' : Nat, Per m f x m n → Per m g u m n' → e < Nat.lcm n n') → Q (.int e) H'
theorem w_joint {K : PySem.W.Frag} {H : Hp} {Q : VK} {E : XK} {m : Int} {f g : Mp} {x y u v : Int} {tf tg a b : Addr} (ha : SqT K H a [.ref tf, .int x, .int y]) (hb : SqT K H b [.ref tg, .int u, .int v])
    (hf : TpAt K H tf f) (hg : TpAt K H tg g) (hm : 2 ≤ m) (h9 : m ≤ 1000000000) (of : Ok m f) (og : Ok m g) (hs : Sm m) (hx : 0 ≤ x ∧ x < m) (hy : 0 ≤ y ∧ y < m) (hu : 0 ≤ u ∧ u < m) (hv : 0 ≤ v ∧ v < m)
    (hn : ∀ H', Same H H' → (∀ e, ¬ (orb m f x e = y ∧ orb m g u e = v)) → Q .non H')
    (h : ∀ H' (e : Nat), Same H H' → orb m f x e = y → orb m g u e = v → (∀ n n' : Nat, Per m f x m n → Per m g u m n' → e < Nat.lcm n n') → Q (.int e) H') : sp_joint K [.int m, .ref a, .ref b] H Q E :=
  ⟨m, f, g, x, y, u, v, tf, tg, a, b, rfl, ha, hb, hf, hg, hm, h9, of, og, hs, hx, hy, hu, hv, hn, h⟩
def sp_mapdist (K : PySem.W.Frag) : Sp := fun vs H Q _ => ∃ (m : Int) (f g : Mp) (tf tg : Addr), vs = [.int m, .ref tf, .ref tg] ∧ TpAt K H tf f ∧ TpAt K H tg g ∧ 2 ≤ m ∧ m ≤ 1000000000 ∧ Ok m f ∧ Ok m g ∧ Sm m ∧
  (∀ H', Same H H' → (∀ e, npw m f e ≠ g) → Q .non H') ∧ ∀ H' (e : Nat), Same H H' → npw m f e = g → (∀ n, Ord m f n → e < n) → Q (.int e) H'
theorem w_mapdist {K : PySem.W.Frag} {H : Hp} {Q : VK} {E : XK} {m : Int} {f g : Mp} {tf tg : Addr} (hf : TpAt K H tf f) (hg : TpAt K H tg g) (hm : 2 ≤ m) (h9 : m ≤ 1000000000) (of : Ok m f) (og : Ok m g) (hs : Sm m)
    (hn : ∀ H', Same H H' → (∀ e, npw m f e ≠ g) → Q .non H') (h : ∀ H' (e : Nat), Same H H' → npw m f e = g → (∀ n, Ord m f n → e < n) → Q (.int e) H') : sp_mapdist K [.int m, .ref tf, .ref tg] H Q E :=
  ⟨m, f, g, tf, tg, rfl, hf, hg, hm, h9, of, og, hs, hn, h⟩
section
variable {m : Int} {f g : Mp}
theorem npw_img (hm : 2 ≤ m) (hf : Ok m f) (hg : Ok m g) (e : Nat) : npw m f e = g ↔ (orb m f 0 e = img m g 0 ∧ orb m f 1 e = img m g 1) :=
  ⟨fun z => by unfold orb; rw [z]; exact ⟨rfl, rfl⟩, fun z => mp_by_img hm (npw_ok hm hf e) hg z.1 z.2⟩
theorem img_bd (hm : 2 ≤ m) (x : Int) : 0 ≤ img m f x ∧ img m f x < m := ⟨Int.emod_nonneg _ (by omega), Int.emod_lt_of_pos _ (by omega)⟩
theorem Ord.eq_iff (hm : 2 ≤ m) (hf : Ok m f) {n : Nat} (h : Ord m f n) (a b : Nat) : npw m f a = npw m f b ↔ a % n = b % n := by
  have key : ∀ a b, b ≤ a → (npw m f a = npw m f b ↔ n ∣ a - b) := by
    intro a b l
    rw [← h.iff]
    have e : npw m f a = cmp m (npw m f (a - b)) (npw m f b) := by rw [npw_add hm hf]; congr 1; omega
    obtain ⟨g, hg⟩ := inv_ex hm (npw_ok hm hf b)
    constructor
    · intro z
      rw [e] at z
      have z2 := congrArg (fun q => cmp m q g) z
      rw [cmp_assoc hm (npw_ok hm hf _) (npw_ok hm hf b) hg.1, hg.2.1, cmp_one hm (npw_ok hm hf _)] at z2
      exact z2
    · intro z
      rw [e, z, one_cmp hm (npw_ok hm hf b)]
  rcases Nat.le_total b a with l | l
  · rw [key a b l]
    constructor
    · rintro ⟨k, ek⟩
      have : a = b + n * k := by omega
      rw [this, Nat.add_mul_mod_self_left]
    · intro z
      exact Nat.dvd_of_mod_eq_zero (Nat.sub_mod_eq_zero_of_mod_eq z)
  · rw [eq_comm, key b a l]
    constructor
    · rintro ⟨k, ek⟩
      have : b = a + n * k := by omega
      rw [this, Nat.add_mul_mod_self_left]
    · intro z
      exact Nat.dvd_of_mod_eq_zero (Nat.sub_mod_eq_zero_of_mod_eq z.symm)
end
/-! ### a distance as a value -/
/-- None, or the least exponent -/
def TD (m : Int) (f g : Mp) (v : V) : Prop := (v = .non ∧ ∀ e, npw m f e ≠ g) ∨ ∃ e : Nat, v = .int e ∧ npw m f e = g ∧ ∀ n, Ord m f n → e < n
def TJ (m : Int) (f : Mp) (x y : Int) (g : Mp) (u w : Int) (v : V) : Prop := (v = .non ∧ ∀ e, ¬ (orb m f x e = y ∧ orb m g u e = w)) ∨ ∃ e : Nat, v = .int e ∧ orb m f x e = y ∧ orb m g u e = w ∧ ∀ n n' : Nat, Per m f x m n → Per m g u m n' → e < Nat.lcm n n'
/-- None, or the distance -/
def T1 (m : Int) (f : Mp) (x y : Int) (v : V) : Prop := (v = .non ∧ ∀ e, orb m f x e ≠ y) ∨ ∃ e n : Nat, v = .int e ∧ orb m f x e = y ∧ Per m f x m n ∧ e < n
section
variable {K : PySem.W.Frag} {H : Hp} {Q : VK} {E : XK} {m : Int} {f g : Mp}
theorem ord_ex (hm : 2 ≤ m) (hf : Ok m f) : ∃ n, Ord m f n := by
  obtain ⟨a, ha⟩ := per_ex (x := 0) hm hf
  obtain ⟨b, hb⟩ := per_ex (x := 1) hm hf
  exact ⟨_, ord_lcm hm hf ha hb⟩
theorem TD.alone (hm : 2 ≤ m) (hf : Ok m f) {v w : V} (a : TD m f g v) (b : TD m f g w) : v = w := by
  rcases a with ⟨rfl, a⟩ | ⟨e, rfl, a1, a2⟩ <;> rcases b with ⟨rfl, b⟩ | ⟨e', rfl, b1, b2⟩
  · rfl
  · exact absurd b1 (a _)
  · exact absurd a1 (b _)
  · obtain ⟨n, hn⟩ := ord_ex hm hf
    have := (hn.eq_iff hm hf e e').mp (a1.trans b1.symm)
    rw [Nat.mod_eq_of_lt (a2 n hn), Nat.mod_eq_of_lt (b2 n hn)] at this
    rw [this]
theorem TD.scal {v w : V} {f' g' : Mp} {m' : Int} (a : TD m f g v) (b : TD m' f' g' w) : scal v w = true := by
  rcases a with ⟨rfl, a⟩ | ⟨e, rfl, a1, a2⟩ <;> rcases b with ⟨rfl, b⟩ | ⟨e', rfl, b1, b2⟩ <;> rfl
theorem TJ.td (hm : 2 ≤ m) (hf : Ok m f) (hg : Ok m g) {v : V} (a : TJ m f 0 (img m g 0) f 1 (img m g 1) v) : TD m f g v := by
  rcases a with ⟨rfl, a⟩ | ⟨e, rfl, a1, a2, a3⟩
  · exact .inl ⟨rfl, fun e z => a e ((npw_img hm hf hg e).mp z)⟩
  · refine .inr ⟨e, rfl, (npw_img hm hf hg e).mpr ⟨a1, a2⟩, fun n hn => ?_⟩
    obtain ⟨a, ha⟩ := per_ex (x := 0) hm hf
    obtain ⟨b, hb⟩ := per_ex (x := 1) hm hf
    rw [hn.alone (ord_lcm hm hf ha hb)]
    exact a3 a b ha hb
theorem w_mapdistV {tf tg : Addr} (hf : TpAt K H tf f) (hg : TpAt K H tg g) (hm : 2 ≤ m) (h9 : m ≤ 1000000000) (of : Ok m f) (og : Ok m g) (hs : Sm m)
    (h : ∀ H' v, Same H H' → TD m f g v → Q v H') : sp_mapdist K [.int m, .ref tf, .ref tg] H Q E :=
  w_mapdist hf hg hm h9 of og hs (fun H' s hno => h H' _ s (.inl ⟨rfl, hno⟩)) (fun H' e s z l => h H' _ s (.inr ⟨e, rfl, z, l⟩))
theorem w_jointV {x y u v : Int} {tf tg a b : Addr} (ha : SqT K H a [.ref tf, .int x, .int y]) (hb : SqT K H b [.ref tg, .int u, .int v])
    (hf : TpAt K H tf f) (hg : TpAt K H tg g) (hm : 2 ≤ m) (h9 : m ≤ 1000000000) (of : Ok m f) (og : Ok m g) (hs : Sm m) (hx : 0 ≤ x ∧ x < m) (hy : 0 ≤ y ∧ y < m) (hu : 0 ≤ u ∧ u < m) (hv : 0 ≤ v ∧ v < m)
    (h : ∀ H' w, Same H H' → TJ m f x y g u v w → Q w H') : sp_joint K [.int m, .ref a, .ref b] H Q E :=
  w_joint ha hb hf hg hm h9 of og hs hx hy hu hv (fun H' s hno => h H' _ s (.inl ⟨rfl, hno⟩)) (fun H' e s z0 z1 l => h H' _ s (.inr ⟨e, rfl, z0, z1, l⟩))
theorem w_distV {x y : Int} {t : Addr} (ht : TpAt K H t f) (hm : 2 ≤ m) (h9 : m ≤ 1000000000) (hf : Ok m f) (hs : Sm m)
    (x0 : 0 ≤ x) (x1 : x < m) (y0 : 0 ≤ y) (y1 : y < m) (h : ∀ H' v, Same H H' → T1 m f x y v → Q v H') : sp_dist K [.int m, .ref t, .int x, .int y] H Q E :=
  w_dist ht hm h9 hf hs x0 x1 y0 y1 (fun H' s hno => h H' _ s (.inl ⟨rfl, hno⟩)) (fun H' n k s hn hk e => h H' _ s (.inr ⟨k, n, rfl, e, hn, hk⟩))
theorem T1.alone (hm : 2 ≤ m) (hf : Ok m f) {x y : Int} {v w : V} (a : T1 m f x y v) (b : T1 m f x y w) : v = w := by
  rcases a with ⟨rfl, a⟩ | ⟨e, n, rfl, a1, a2, a3⟩ <;> rcases b with ⟨rfl, b⟩ | ⟨e', n', rfl, b1, b2, b3⟩
  · rfl
  · exact absurd b1 (a _)
  · exact absurd a1 (b _)
  · have en := a2.alone hm hf (Int.dvd_refl m) b2
    subst en
    have := (a2.iff hm hf (Int.dvd_refl m) e e').mp (Cg.of (a1.trans b1.symm))
    rw [Nat.mod_eq_of_lt a3, Nat.mod_eq_of_lt b3] at this
    rw [this]
theorem w_neV {x y : V} (hs : scal x y = true) (e : x = y) (h : Q (.bl false) H) : rNe x y H Q := ⟨hs, by rw [decide_eq_true e]; exact h⟩
theorem w_eqV {x y : V} (hs : scal x y = true) (e : x = y) (h : Q (.bl true) H) : rEq x y H Q := ⟨hs, by rw [decide_eq_true e]; exact h⟩
/-- tuples of a map's ints that are equal -/
theorem w_neMp {K' : PySem.W.Frag} {s t : Addr} {p q : Mp} (hp : TpAt K H s p) (hq : TpAt K H t q) (e : p = q) (h : Q (.bl false) H) (hk : K' = K := by rfl) : rNeD K' (.ref s) (.ref t) H Q := by
  subst hk
  subst e
  refine ⟨_, _, dp_mp hp, dp_mp hq, sh_mp, sh_mp, ?_⟩
  rw [eqv_mp]
  exact h
end
theorem rp_intW {K : PySem.W.Frag} {H : Hp} {a : Int} (ha : a.natAbs < 1000000000000000000000000) : Rp K H (.int a) (.int a) := by
  have h3 : a.natAbs.log2 < 1920 := by
    rcases Nat.eq_zero_or_pos a.natAbs with z | z
    · rw [z]; decide
    · have h2 : a.natAbs < 2 ^ 80 := Nat.lt_of_lt_of_le ha (by decide)
      exact Nat.lt_of_lt_of_le (PySem.Flt.log2_lt_of (by decide) h2) (by decide)
  have e : (PyData.shown (.int a)).length ≤ 25 := by
    have e1 := int_text_length_le10 (a := a) (k := 24) (by decide) (Nat.lt_of_lt_of_le ha (by decide))
    show (Str.ofString (toString a)).length ≤ 25
    rw [PySem.ofString_length]
    omega
  refine ⟨Dp.int a, ?_, by simp [PyData.depth], Nat.le_trans e (by decide)⟩
  simp only [PyData.showable]; exact decide_eq_true h3
/-! ### powers modulo the order -/
theorem one_npw {m : Int} (hm : 2 ≤ m) : ∀ n, npw m one1 n = one1
  | 0 => rfl
  | n + 1 => by show cmp m (npw m one1 n) one1 = one1; rw [one_npw hm n, one_cmp hm (Ok.one hm)]
theorem pw_mod {m : Int} {f p : Mp} {k : Int} {n : Nat} (hm : 2 ≤ m) (hf : Ok m f) (hn : Ord m f n) (h : IsPw m f k p) : p = npw m f (k % n).toNat := by
  have n0 := hn.pos
  have e : k = k % n + (n : Int) * (k / n) := by have := Int.emod_add_mul_ediv k n; omega
  have h1 : IsPw m f (n : Int) one1 := ⟨fun _ => by rw [Int.toNat_natCast]; exact ((hn.iff n).mpr (Nat.dvd_refl n)).symm, fun z => by omega⟩
  have h2 : IsPw m one1 (k / n) one1 := by
    refine ⟨fun _ => (one_npw hm _).symm, fun _ g hg => ?_⟩
    have eg : g = one1 := by
      have := hg.2.1
      rw [one_cmp hm hg.1] at this
      exact this
    rw [eg, one_npw hm]
  have h3 := pw_mul hm hf h1 h2
  have h4 : IsPw m f (k % n) (npw m f (k % n).toNat) := ⟨fun _ => rfl, fun z => by have := Int.emod_nonneg k (show (n : Int) ≠ 0 by omega); omega⟩
  have h5 := pw_add hm hf h4 h3
  rw [← e, cmp_one hm (npw_ok hm hf _)] at h5
  exact pw_alone hm hf h h5
/-- the power with exponent k has the distance k modulo the order -/
theorem td_pw {m : Int} {f p : Mp} {k : Int} {n : Nat} (hm : 2 ≤ m) (hf : Ok m f) (hn : Ord m f n) (h : IsPw m f k p) : TD m f p (.int (k % n)) := by
  have n0 := hn.pos
  have b0 := Int.emod_nonneg k (show (n : Int) ≠ 0 by omega)
  have b1 := Int.emod_lt_of_pos k (show 0 < (n : Int) by omega)
  refine .inr ⟨(k % n).toNat, by rw [Int.toNat_of_nonneg b0], (pw_mod hm hf hn h).symm, fun n' hn' => ?_⟩
  rw [hn'.alone hn]
  omega
/-! ### conjugated maps -/
section
variable {m : Int} {f g u i : Mp}
def cnj (m : Int) (i f u : Mp) : Mp := cmp m (cmp m i f) u
theorem cnj_ok (hm : 2 ≤ m) (hf : Ok m f) (hu : Ok m u) (hi : IsInv m u i) : Ok m (cnj m i f u) := (hi.1.cmp hm hf).cmp hm hu
theorem cnj_npw (hm : 2 ≤ m) (hf : Ok m f) (hu : Ok m u) (hi : IsInv m u i) : ∀ n, npw m (cnj m i f u) n = cnj m i (npw m f n) u
  | 0 => by
    show one1 = cmp m (cmp m i one1) u
    rw [cmp_one hm hi.1, hi.2.2]
  | n + 1 => by
    have o := npw_ok hm hf n
    show cmp m (npw m (cnj m i f u) n) (cmp m (cmp m i f) u) = cmp m (cmp m i (cmp m (npw m f n) f)) u
    rw [cnj_npw hm hf hu hi n]
    show cmp m (cmp m (cmp m i (npw m f n)) u) (cmp m (cmp m i f) u) = _
    rw [cmp_assoc hm (hi.1.cmp hm o) hu ((hi.1.cmp hm hf).cmp hm hu), ← cmp_assoc hm hu (hi.1.cmp hm hf) hu, ← cmp_assoc hm hu hi.1 hf, hi.2.1, one_cmp hm hf,
      ← cmp_assoc hm (hi.1.cmp hm o) hf hu, cmp_assoc hm hi.1 o hf]
theorem cnj_inj (hm : 2 ≤ m) (hf : Ok m f) (hg : Ok m g) (hu : Ok m u) (hi : IsInv m u i) (e : cnj m i f u = cnj m i g u) : f = g := by
  have back : ∀ z, Ok m z → cmp m (cmp m u (cnj m i z u)) i = z := fun z hz => by
    show cmp m (cmp m u (cmp m (cmp m i z) u)) i = z
    rw [← cmp_assoc hm hu (hi.1.cmp hm hz) hu, ← cmp_assoc hm hu hi.1 hz, hi.2.1, one_cmp hm hz, cmp_assoc hm hz hu hi.1, hi.2.1, cmp_one hm hz]
  rw [← back f hf, ← back g hg, e]
theorem TD.cnj (hm : 2 ≤ m) (hf : Ok m f) (hg : Ok m g) (hu : Ok m u) (hi : IsInv m u i) {v : V} (a : TD m (cnj m i f u) (cnj m i g u) v) : TD m f g v := by
  have eq : ∀ e, npw m (Vg.cnj m i f u) e = Vg.cnj m i g u ↔ npw m f e = g := fun e => by
    rw [cnj_npw hm hf hu hi]
    exact ⟨cnj_inj hm (npw_ok hm hf e) hg hu hi, fun z => by rw [z]⟩
  have eo : ∀ n, Ord m f n → Ord m (Vg.cnj m i f u) n := fun n hn => ⟨hn.pos, fun k => by
    rw [← hn.iff k, cnj_npw hm hf hu hi]
    have e1 : Vg.cnj m i one1 u = one1 := by
      show cmp m (cmp m i one1) u = one1
      rw [cmp_one hm hi.1, hi.2.2]
    exact ⟨fun z => cnj_inj hm (npw_ok hm hf k) (Ok.one hm) hu hi (z.trans e1.symm), fun z => by rw [z]; exact e1⟩⟩
  rcases a with ⟨rfl, a⟩ | ⟨e, rfl, a1, a2⟩
  · exact .inl ⟨rfl, fun e z => a e ((eq e).mpr z)⟩
  · exact .inr ⟨e, rfl, (eq e).mp a1, fun n hn => a2 n (eo n hn)⟩
end
/-! ### a list of what a tuple's items give -/
theorem lc_tupS {K : PySem.W.Frag} {a : Addr} {xs : List V} {j : Nat} {te : TE} {vs : List Nat} {σ : L2.St} {H0 : Hp} {D : Addr} {Qd : Hp → Prop} (Pr : Nat → V → Hp → Prop)
    (ha : SqT K H0 a xs) (hD : H0 D = none) (st : ∀ i v H H', But D H H' → Pr i v H → Pr i v H') (hn : xs.length ≤ 100000) (hw : ∀ v, wipe ((wipe σ vs).set j (some v)) vs = wipe σ vs)
    (hs : ∀ i x H' acc (R : VK), xs[i]? = some x → Same H0 H' → H' D = some (.lst acc) → (∀ y H4, Same H' H4 → Pr i y H4 → R y H4) → te ((wipe σ vs).set j (some x)) H' R)
    (hd : ∀ H' done, Same H0 H' → H' D = some (.lst done) → done.length = xs.length → (∀ i v, done[i]? = some v → Pr i v H') → Qd H') :
    ∃ W : Nat → Nat → Hp → Prop, (∃ m, W 0 m (upd H0 D (.lst []))) ∧ ∀ i m H, W i m H →
      ((Itt K a).stop i H ∧ Qd H) ∨ ((Itt K a).go i H ∧ ∃ Nx : Hp → Prop, (∀ H', Nx H' → ∃ m', m' < m ∧ W (i + 1) m' H') ∧ ∀ x H', (Itt K a).yld i H x H' → gName j x (wipe σ vs) H' fun σ2 H2 => wipe σ2 vs = wipe σ vs ∧ tYes σ2 H2 fun b H3 =>
        if b = true then te σ2 H3 fun y H4 => ∃ acc, H4 D = some (.lst acc) ∧ acc.length < sizeLine ∧ Nx (upd H4 D (.lst (acc ++ [y]))) else Nx H3) := by
  refine lc_tup (K := K) (a := a) (xs := xs) (fun i H' => ∃ done : List V, Same H0 H' ∧ H' D = some (.lst done) ∧ done.length = i ∧ ∀ r v, done[r]? = some v → Pr r v H') ?_ ?_ ?_ ?_
  · exact ⟨[], sm_new hD, upd_same, rfl, by simp⟩
  · rintro i H' _ ⟨done, sm, _⟩
    exact sm_tup sm ha
  · rintro i x H' hi ⟨done, sm, eD, hl, hp⟩
    have hil := (List.getElem?_eq_some_iff.mp hi).1
    refine ⟨hw _, ?_⟩
    refine w_yes ?_
    rw [if_pos rfl]
    refine hs i x H' done _ hi sm eD fun y H4 s4 py => ?_
    refine ⟨done, s4 _ _ eD, Nat.lt_of_lt_of_le (show done.length < 100001 by omega) (by decide), done ++ [y], sm_own (sm.trans s4) hD, upd_same, by rw [List.length_append, List.length_singleton, hl], ?_⟩
    intro r v hr
    have hb : But D H4 (upd H4 D (.lst (done ++ [y]))) := But.at_
    rcases Nat.lt_or_ge r done.length with l | l
    · rw [List.getElem?_append_left l] at hr
      exact st _ _ _ _ (But.trans (But.of s4) hb) (hp r v hr)
    · rw [List.getElem?_append_right l] at hr
      rcases Nat.eq_zero_or_pos (r - done.length) with z | z
      · rw [z] at hr
        cases hr
        have : r = i := by omega
        subst this
        exact st _ _ _ _ hb py
      · rw [List.getElem?_eq_none (by simp; omega)] at hr
        cases hr
  · rintro H' ⟨done, sm, eD, hl, hp⟩
    exact hd H' done sm eD hl hp
theorem at1 {x y : V} {r : List V} : atI (x :: y :: r) 1 = some y := atI_nat (xs := x :: y :: r) (j := 1) rfl
theorem w_divisors {H : Hp} {Q : VK} {E : XK} {m : Int} (hm : 1 ≤ m) (h9 : m ≤ 1000000000)
    (h : ∀ H' l (ds : List Int), Same H H' → H l = none → H' l = some (.lst (ds.map V.int)) → 0 < ds.length → ds.length ≤ 400000 → (∀ d ∈ ds, 1 ≤ d ∧ d ∣ m ∧ d ≤ m) → Q (.ref l) H') : sp_divisors [.int m] H Q E := ⟨m, rfl, hm, h9, h⟩
/-- which map one of two tuples holds -/
def MapAt (K : PySem.W.Frag) (D : Addr) (F : Nat → Mp) (i : Nat) (v : V) (H : Hp) : Prop := ∃ q, v = .ref q ∧ q ≠ D ∧ TpAt K H q (F i)
theorem mapAt_st {K : PySem.W.Frag} {D : Addr} {F : Nat → Mp} (i : Nat) (v : V) (H H' : Hp) (b : But D H H') (h : MapAt K D F i v H) : MapAt K D F i v H' := by
  obtain ⟨q, e, n, t⟩ := h
  exact ⟨q, e, n, b.tup n t⟩
def QuAt (K : PySem.W.Frag) (D : Addr) (X : Nat → List V) (i : Nat) (v : V) (H : Hp) : Prop := ∃ q, v = .ref q ∧ q ≠ D ∧ SqT K H q (X i)
theorem quAt_st {K : PySem.W.Frag} {D : Addr} {X : Nat → List V} (i : Nat) (v : V) (H H' : Hp) (b : But D H H') (h : QuAt K D X i v H) : QuAt K D X i v H' := by
  obtain ⟨q, e, n, t⟩ := h
  exact ⟨q, e, n, b.tup n t⟩
/-! ### a promise that asks more or tells less -/
theorem FnG.imp {P : Program} {w : World} {K : PySem.W.Frag} {mg : Str → Option Value} {base : Heap} {k : Nat} {f : Addr} {fd : FuncData} {ps : List Str} {sp sp' : Sp}
    (F : FnG P w K mg base k f fd ps sp) (h : ∀ vs H Q E, sp' vs H Q E → sp vs H Q E) : FnG P w K mg base k f fd ps sp' :=
  ⟨fun vs H Q E z => F.len vs H Q E (h _ _ _ _ z), fun A outer s H args us vs Q hg hr he hb hv hs => F.run A outer s H args us vs Q hg hr he hb hv (h _ _ _ _ hs)⟩
theorem Cal.imp {P : Program} {w : World} {K : PySem.W.Frag} {mg : Str → Option Value} {base : Heap} {k : Nat} {x : Str} {ps : List Str} {sp sp' : Sp}
    (c : Cal P w K mg base k x ps sp) (h : ∀ vs H Q E, sp' vs H Q E → sp vs H Q E) : Cal P w K mg base k x ps sp' := by
  obtain ⟨f, fd, F, a, b, d⟩ := c.ex
  exact ⟨f, fd, F.imp h, a, b, d⟩
/-- the power, a tuple that is the caller's -/
def sp_powerA (K : PySem.W.Frag) : Sp := fun vs H Q _ => ∃ (m : Int) (f : Mp) (e : Int) (t : Addr), vs = [.int m, .ref t, .int e] ∧ TpAt K H t f ∧ 2 ≤ m ∧ m ≤ 1000000000 ∧ Ok m f ∧
  ∀ H' p q, Same H H' → IsPw m f e p → H' q = some (.tup [.int p.1, .int p.2]) → Q (.ref q) H'
def sp_powerA0 (K : PySem.W.Frag) : Sp := fun vs H Q _ => ∃ (m : Int) (f : Mp) (e : Int) (t : Addr), vs = [.int m, .ref t, .int e] ∧ TpAt K H t f ∧ 2 ≤ m ∧ m ≤ 1000000000 ∧ Ok m f ∧ 0 ≤ e ∧
  ∀ H' q, Same H H' → H' q = some (.tup [.int (npw m f e.toNat).1, .int (npw m f e.toNat).2]) → Q (.ref q) H'
theorem w_powerA {K : PySem.W.Frag} {H : Hp} {Q : VK} {E : XK} {m e : Int} {f : Mp} {t : Addr} (ht : TpAt K H t f) (hm : 2 ≤ m) (h9 : m ≤ 1000000000) (hf : Ok m f)
    (h : ∀ H' p q, Same H H' → IsPw m f e p → H' q = some (.tup [.int p.1, .int p.2]) → Q (.ref q) H') : sp_powerA K [.int m, .ref t, .int e] H Q E := ⟨m, f, e, t, rfl, ht, hm, h9, hf, h⟩
theorem powerA_imp {K : PySem.W.Frag} (vs : List V) (H : Hp) (Q : VK) (E : XK) (h : sp_power K vs H Q E) : sp_powerA K vs H Q E := by
  obtain ⟨m, f, e, t, rfl, ht, hm, h9, hf, k⟩ := h
  exact ⟨m, f, e, t, rfl, ht, hm, h9, hf, fun H' p q s hp g => k H' p q s hp (SqT.of g)⟩
/-- a test that is not met either way -/
theorem andF {σ : L2.St} {H : Hp} {c : Bool} {t : TT} {R : Bool → Hp → Prop} (ht : c = true → ∀ R' : Bool → Hp → Prop, (∀ H', Same H H' → R' false H') → t σ H R') (hR : ∀ H', Same H H' → R false H') :
    if c = true then t σ H R else R false H := by
  cases c with
  | true => rw [if_pos rfl]; exact ht rfl R hR
  | false => rw [if_neg Bool.false_ne_true]; exact hR H (Same.refl H)
end Vg

set_option Elab.async false
set_option linter.all false
set_option maxRecDepth 100000
set_option maxHeartbeats 2000000
namespace Vg
open PySem PySem.Spec PyProof.Rows L2
/-! ### a period by dividing -/
theorem sm_mul {a b : Int} (ha : Sm a) (hb : Sm b) : Sm (a * b) := by
  induction hb with
  | one => rw [Int.mul_one]; exact ha
  | @mul m q hm hq ih => rw [← Int.mul_assoc]; exact .mul ih hq
theorem sm_of {q : Int} (h : q ∈ ([2, 3, 5, 7, 11, 13] : List Int)) : Sm q := by
  have := Sm.mul .one h
  rw [Int.one_mul] at this
  exact this
theorem sm_pred {q : Int} (h : q ∈ P6) : Sm (q - 1) := by
  have h' : q = 2 ∨ q = 3 ∨ q = 5 ∨ q = 7 ∨ q = 11 ∨ q = 13 := by unfold P6 at h; simpa using h
  have s2 : Sm 2 := sm_of (by simp)
  have s3 : Sm 3 := sm_of (by simp)
  have s5 : Sm 5 := sm_of (by simp)
  rcases h' with rfl | rfl | rfl | rfl | rfl | rfl
  · exact .one
  · exact s2
  · exact sm_mul s2 s2
  · exact sm_mul s2 s3
  · exact sm_mul s2 s5
  · exact sm_mul (sm_mul s2 s2) s3
def pr : List Int → Int
  | [] => 1
  | p :: r => (p - 1) * pr r
theorem pr_snoc : ∀ (l : List Int) (p : Int), pr (l ++ [p]) = pr l * (p - 1)
  | [], p => by simp [pr]
  | q :: r, p => by show (q - 1) * pr (r ++ [p]) = (q - 1) * pr r * (p - 1); rw [pr_snoc r p, Int.mul_assoc]
theorem pr_filter (c : Int → Bool) (p : Int) (r : List Int) : pr ((p :: r).filter c) = (if c p = true then p - 1 else 1) * pr (r.filter c) := by
  rw [List.filter_cons]
  by_cases h : c p = true
  · rw [if_pos h, if_pos h]; rfl
  · rw [if_neg h, if_neg h, Int.one_mul]
theorem pr_phi (d : Int) : pr (P6.filter fun p => decide (d % p = 0)) = ((phi d : Nat) : Int) := by
  have f : ∀ p : Nat, 2 ≤ p → (if decide (d % (p : Int) = 0) = true then (p : Int) - 1 else 1) = ((fac p d : Nat) : Int) := by
    intro p hp
    unfold fac
    by_cases c : d % (p : Int) = 0
    · rw [if_pos (decide_eq_true c), if_pos c]; omega
    · rw [if_neg (fun z => c (of_decide_eq_true z)), if_neg c]; rfl
  unfold P6 phi
  rw [pr_filter, pr_filter, pr_filter, pr_filter, pr_filter, pr_filter]
  have e : pr (List.filter (fun p => decide (d % p = 0)) []) = 1 := rfl
  rw [e, Int.mul_one]
  have f2 := f 2 (by decide)
  have f3 := f 3 (by decide)
  have f5 := f 5 (by decide)
  have f7 := f 7 (by decide)
  have f11 := f 11 (by decide)
  have f13 := f 13 (by decide)
  simp only [Int.natCast_mul]
  rw [← f2, ← f3, ← f5, ← f7, ← f11, ← f13]
  rfl
theorem sm_pr : ∀ l : List Int, (∀ p ∈ l, p ∈ P6) → Sm (pr l)
  | [], _ => .one
  | p :: r, h => sm_mul (sm_pred (h p (List.mem_cons_self ..))) (sm_pr r fun z hz => h z (List.mem_cons_of_mem _ hz))
theorem pr_bd : ∀ l : List Int, (∀ p ∈ l, p ∈ P6) → l.length ≤ 6 → 1 ≤ pr l ∧ pr l ≤ 12 ^ l.length
  | [], _, _ => ⟨by decide, by decide⟩
  | p :: r, h, hl => by
    have hp := p6_bd (h p (List.mem_cons_self ..))
    have ih := pr_bd r (fun z hz => h z (List.mem_cons_of_mem _ hz)) (by simp at hl; omega)
    show 1 ≤ (p - 1) * pr r ∧ (p - 1) * pr r ≤ 12 ^ (r.length + 1)
    have h1 : 1 * 1 ≤ (p - 1) * pr r := Int.mul_le_mul (by omega) ih.1 (by decide) (by omega)
    have h2 : (p - 1) * pr r ≤ 12 * 12 ^ r.length := Int.mul_le_mul (by omega) ih.2 (by omega) (by decide)
    rw [Int.pow_succ, Int.mul_comm _ 12]
    exact ⟨by omega, h2⟩
/-- (a % d, b % d) -/
def sp_lred (K : PySem.W.Frag) : Sp := fun vs H Q _ => ∃ (f : Mp) (d : Int) (t : Addr), vs = [.ref t, .int d] ∧ TpAt K H t f ∧ 1 ≤ d ∧
  ∀ H' q, Same H H' → H q = none → H' q = some (.tup [.int (f.1 % d), .int (f.2 % d)]) → Q (.ref q) H'
theorem w_lred {K : PySem.W.Frag} {H : Hp} {Q : VK} {E : XK} {d : Int} {f : Mp} {t : Addr} (ht : TpAt K H t f) (hd : 1 ≤ d)
    (h : ∀ H' q, Same H H' → H q = none → H' q = some (.tup [.int (f.1 % d), .int (f.2 % d)]) → Q (.ref q) H') : sp_lred K [.ref t, .int d] H Q E := ⟨f, d, t, rfl, ht, hd, h⟩
def sp_lsmooth : Sp := fun vs H Q _ => ∃ (n : Int), vs = [.int n] ∧
  ∀ H' l, Same H H' → H l = none → H' l = some (.lst ((P6.filter fun p => decide (n % p = 0)).map V.int)) → Q (.ref l) H'
theorem w_lsmooth {H : Hp} {Q : VK} {E : XK} {n : Int} (h : ∀ H' l, Same H H' → H l = none → H' l = some (.lst ((P6.filter fun p => decide (n % p = 0)).map V.int)) → Q (.ref l) H') : sp_lsmooth [.int n] H Q E := ⟨n, rfl, h⟩
def sp_lreturns (K : PySem.W.Frag) : Sp := fun vs H Q _ => ∃ (m : Int) (f : Mp) (x c : Int) (t : Addr), vs = [.ref t, .int x, .int m, .int c] ∧ TpAt K H t f ∧ 2 ≤ m ∧ m ≤ 1000000000 ∧ Ok m f ∧ 0 ≤ x ∧ x < m ∧ 0 ≤ c ∧
  ∀ H', Same H H' → Q (.bl (decide (orb m f x c.toNat = x))) H'
theorem w_lreturns {K : PySem.W.Frag} {H : Hp} {Q : VK} {E : XK} {m : Int} {f : Mp} {x c : Int} {t : Addr} (ht : TpAt K H t f) (hm : 2 ≤ m) (h9 : m ≤ 1000000000) (hf : Ok m f) (x0 : 0 ≤ x) (x1 : x < m) (c0 : 0 ≤ c)
    (h : ∀ H', Same H H' → Q (.bl (decide (orb m f x c.toNat = x))) H') : sp_lreturns K [.ref t, .int x, .int m, .int c] H Q E := ⟨m, f, x, c, t, rfl, ht, hm, h9, hf, x0, x1, c0, h⟩
def sp_lperiod (K : PySem.W.Frag) : Sp := fun vs H Q _ => ∃ (m : Int) (f : Mp) (x : Int) (t : Addr), vs = [.ref t, .int x, .int m] ∧ TpAt K H t f ∧ 2 ≤ m ∧ m ≤ 1000000000 ∧ Ok m f ∧ Sm m ∧ 0 ≤ x ∧ x < m ∧
  ∀ H' (n : Nat), Same H H' → Per m f x m n → Q (.int n) H'
theorem w_lperiod {K : PySem.W.Frag} {H : Hp} {Q : VK} {E : XK} {m : Int} {f : Mp} {x : Int} {t : Addr} (ht : TpAt K H t f) (hm : 2 ≤ m) (h9 : m ≤ 1000000000) (hf : Ok m f) (hs : Sm m) (x0 : 0 ≤ x) (x1 : x < m)
    (h : ∀ H' (n : Nat), Same H H' → Per m f x m n → Q (.int n) H') : sp_lperiod K [.ref t, .int x, .int m] H Q E := ⟨m, f, x, t, rfl, ht, hm, h9, hf, hs, x0, x1, h⟩
theorem per_ret {m : Int} {f : Mp} {x : Int} {n : Nat} (hm : 2 ≤ m) (hf : Ok m f) (x0 : 0 ≤ x) (x1 : x < m) (h : Per m f x m n) (c : Nat) : orb m f x c = x ↔ n ∣ c := by
  rw [← h.dvd hm hf (Int.dvd_refl m), ← orb_eq_cg hm, orb_zero x0 x1]
/-- what is left to divide: found is n times c, without the primes before i -/
structure Lft (n : Nat) (i : Nat) (x : Int) : Prop where
  ex : ∃ c : Nat, x = ((n * c : Nat) : Int) ∧ 0 < c ∧ ∀ j, j < i → ∀ p, P6[j]? = some p → ¬ p ∣ (c : Int)
  sm : ∀ y, 1 ≤ y → y ∣ x → (∀ p ∈ P6, ¬ p ∣ y) → y = 1
theorem Lft.done {n : Nat} {x : Int} (n0 : 0 < n) (h : Lft n 6 x) : x = (n : Int) := by
  obtain ⟨c, e, c0, hc⟩ := h.ex
  have h1 := h.sm (c : Int) (by omega) ⟨(n : Int), by rw [e, Int.natCast_mul, Int.mul_comm]⟩ ?_
  · rw [e, Int.natCast_mul, h1, Int.mul_one]
  · intro p hp
    obtain ⟨j, hj⟩ := List.getElem?_of_mem hp
    have hl : j < 6 := (List.getElem?_eq_some_iff.mp hj).1
    exact hc j hl p hj
theorem p6v6 {i : Nat} {v : V} (h : ([V.int 2, .int 3, .int 5, .int 7, .int 11, .int 13] : List V)[i]? = some v) : ∃ q, v = .int q ∧ P6[i]? = some q ∧ q ∈ P6 := by
  rcases i with _ | _ | _ | _ | _ | _ | i
  · cases h; exact ⟨2, rfl, rfl, by unfold P6; decide⟩
  · cases h; exact ⟨3, rfl, rfl, by unfold P6; decide⟩
  · cases h; exact ⟨5, rfl, rfl, by unfold P6; decide⟩
  · cases h; exact ⟨7, rfl, rfl, by unfold P6; decide⟩
  · cases h; exact ⟨11, rfl, rfl, by unfold P6; decide⟩
  · cases h; exact ⟨13, rfl, rfl, by unfold P6; decide⟩
  · simp at h
theorem Lft.turn {n i : Nat} {x p : Int} (h : Lft n i x) (hp : p ∈ P6) (hx : x % p = 0) (hn : n ∣ (x / p).toNat) : Lft n i (x / p) := by
  obtain ⟨c, e, c0, hc⟩ := h.ex
  have p2 := p6_bd hp
  have ex : p * (x / p) = x := Int.mul_ediv_cancel' (Int.dvd_of_emod_eq_zero hx)
  have x0 : 0 ≤ x / p := Int.ediv_nonneg (by omega) (by omega)
  obtain ⟨c', ec'⟩ := hn
  have e1 : x / p = ((n * c' : Nat) : Int) := by omega
  have n0 : n ≠ 0 ∨ n = 0 := by omega
  refine ⟨⟨c', e1, ?_, ?_⟩, ?_⟩
  · rcases Nat.eq_zero_or_pos c' with z | z
    · subst z
      simp at e1
      rw [e1, Int.mul_zero] at ex
      have hz : n * c = 0 := by omega
      rcases Nat.mul_eq_zero.mp hz with z | z
      · -- n = 0: then c' may be taken positive
        exfalso
        have := h.sm 2 (by decide) (by rw [← ex]; exact Int.dvd_zero 2)
        have h4 := h.sm 17 (by decide) (by rw [← ex]; exact Int.dvd_zero 17) (by unfold P6; decide)
        omega
      · omega
    · exact z
  · intro j hj q hq hd
    refine hc j hj q hq ?_
    by_cases nz : n = 0
    · exfalso
      subst nz
      have h4 := h.sm 17 (by decide) (by rw [e]; simp) (by unfold P6; decide)
      omega
    · have e2 : p * ((n : Int) * (c' : Int)) = (n : Int) * (c : Int) := by
        rw [e1, Int.natCast_mul] at ex
        rw [e, Int.natCast_mul] at ex
        exact ex
      rw [Int.mul_left_comm] at e2
      have e3 := Int.eq_of_mul_eq_mul_left (by omega : (n : Int) ≠ 0) e2
      rw [← e3]
      exact Int.dvd_trans hd (Int.dvd_mul_left _ _)
  · intro y y1 yd hy
    exact h.sm y y1 (Int.dvd_trans yd ⟨p, by rw [Int.mul_comm]; exact ex.symm⟩) hy
theorem Lft.next {n i : Nat} {x p : Int} (n0 : 0 < n) (h : Lft n i x) (hi : P6[i]? = some p) (hx : ¬ (x % p = 0 ∧ n ∣ (x / p).toNat)) : Lft n (i + 1) x := by
  obtain ⟨c, e, c0, hc⟩ := h.ex
  have hp : p ∈ P6 := List.mem_of_getElem? hi
  have p2 := p6_bd hp
  refine ⟨⟨c, e, c0, ?_⟩, h.sm⟩
  intro j hj q hq hd
  rcases Nat.lt_or_ge j i with l | l
  · exact hc j l q hq hd
  · have : j = i := by omega
    subst this
    rw [hi] at hq
    cases hq
    refine hx ?_
    obtain ⟨k, ek⟩ := hd
    have e1 : x = p * ((n : Int) * k) := by rw [e, Int.natCast_mul, ek, Int.mul_left_comm]
    refine ⟨by rw [e1]; exact Int.mul_emod_right _ _, ?_⟩
    have e2 : x / p = (n : Int) * k := by rw [e1]; exact Int.mul_ediv_cancel_left _ (by omega)
    have k0 : 0 ≤ k := by
      rcases Int.lt_or_le k 0 with z | z
      · have := Int.mul_le_mul_of_nonneg_left (show k ≤ -1 by omega) (show 0 ≤ p by omega); omega
      · exact z
    rw [e2]
    refine ⟨k.toNat, ?_⟩
    have : (((n * k.toNat : Nat)) : Int) = (n : Int) * k := by rw [Int.natCast_mul, Int.toNat_of_nonneg k0]
    omega
/-! ### distances along one cycle -/
section
variable {m : Int} {f g u i : Mp} {x y : Int}
theorem per_orb (hm : 2 ≤ m) (hf : Ok m f) (x0 : 0 ≤ x) (x1 : x < m) {n : Nat} (h : Per m f x m n) (k : Nat) : Per m f (orb m f x k) m n := by
  have e : ∀ j, orb m f (orb m f x k) j = orb m f x (k + j) := fun j => (orb_add hm hf k j).symm
  have c : ∀ j, Cg m (orb m f (orb m f x k) j) (orb m f (orb m f x k) 0) ↔ n ∣ j := fun j => by
    rw [e, e, ← h.dvd hm hf (Int.dvd_refl m), Nat.add_zero]
    have := orb_cg (x := x) hm hf (Int.dvd_refl m) (a := j) (b := 0) k
    rw [Nat.zero_add, Nat.add_comm j k] at this
    exact this.symm
  exact ⟨h.pos, (c n).mpr (Nat.dvd_refl n), fun j j0 jn z => by have := Nat.le_of_dvd j0 ((c j).mp z); omega⟩
theorem t1_orb (hm : 2 ≤ m) (hf : Ok m f) {n k : Nat} (h : Per m f x m n) {v : V} (t : T1 m f x (orb m f x k) v) : v = .int ((k % n : Nat) : Int) := by
  have n0 := h.pos
  have t' : T1 m f x (orb m f x k) (.int ((k % n : Nat) : Int)) := by
    refine .inr ⟨k % n, n, rfl, ?_, h, Nat.mod_lt _ n0⟩
    refine (orb_eq_cg hm).mpr ((h.iff hm hf (Int.dvd_refl m) _ _).mpr (Nat.mod_mod _ _))
  exact t.alone hm hf t'
/-- there and back -/
theorem t1_back (hm : 2 ≤ m) (hf : Ok m f) (x0 : 0 ≤ x) (x1 : x < m) {n e : Nat} (h : Per m f x m n) (he : orb m f x e = y) (en : e ≤ n) : orb m f y (n - e) = x := by
  rw [← he, ← orb_add hm hf, show e + (n - e) = n by omega, (orb_eq_cg hm).mpr h.back, orb_zero x0 x1]
theorem cnj_orb (hm : 2 ≤ m) (hf : Ok m f) (hu : Ok m u) (hi : IsInv m u i) (x0 : 0 ≤ x) (x1 : x < m) (e : Nat) : orb m (cnj m i f u) (img m u x) e = img m u (orb m f x e) := by
  show img m (npw m (cnj m i f u) e) (img m u x) = img m u (img m (npw m f e) x)
  rw [cnj_npw hm hf hu hi]
  show img m (cmp m (cmp m i (npw m f e)) u) (img m u x) = _
  rw [img_cmp, img_cmp, ← img_cmp (f := u) (g := i), hi.2.1]
  have : img m one1 x = x := by
    show (1 * x + 0) % m = x
    rw [Int.one_mul, Int.add_zero, Int.emod_eq_of_lt x0 x1]
  rw [this]
theorem img_inj' (hm : 2 ≤ m) (hf : Ok m u) {a b : Int} (a0 : 0 ≤ a) (a1 : a < m) (b0 : 0 ≤ b) (b1 : b < m) (e : img m u a = img m u b) : a = b :=
  (img_inj hm hf (Int.dvd_refl m) (Cg.of e)).eqS a0 a1 b0 b1
theorem T1.cnj (hm : 2 ≤ m) (hf : Ok m f) (hu : Ok m u) (hi : IsInv m u i) (x0 : 0 ≤ x) (x1 : x < m) (y0 : 0 ≤ y) (y1 : y < m) {v : V} (t : T1 m (cnj m i f u) (img m u x) (img m u y) v) : T1 m f x y v := by
  have eq : ∀ e, orb m (Vg.cnj m i f u) (img m u x) e = img m u y ↔ orb m f x e = y := fun e => by
    rw [cnj_orb hm hf hu hi x0 x1]
    exact ⟨fun z => img_inj' hm hu (orb_bd hm e).1 (orb_bd hm e).2 y0 y1 z, fun z => by rw [z]⟩
  rcases t with ⟨rfl, a⟩ | ⟨e, n, rfl, a1, a2, a3⟩
  · exact .inl ⟨rfl, fun e z => a e ((eq e).mpr z)⟩
  · refine .inr ⟨e, n, rfl, (eq e).mp a1, ?_, a3⟩
    have c : ∀ j, Cg m (orb m f x j) (orb m f x 0) ↔ Cg m (orb m (Vg.cnj m i f u) (img m u x) j) (orb m (Vg.cnj m i f u) (img m u x) 0) := fun j => by
      rw [cnj_orb hm hf hu hi x0 x1, cnj_orb hm hf hu hi x0 x1]
      exact ⟨fun z => img_cg (Int.dvd_refl m) z, fun z => img_inj hm hu (Int.dvd_refl m) z⟩
    exact ⟨a2.pos, (c n).mpr a2.back, fun j j0 jn z => a2.least j j0 jn ((c j).mp z)⟩
end
theorem T1.scal {m m' : Int} {f f' : Mp} {x y x' y' : Int} {v w : V} (a : T1 m f x y v) (b : T1 m' f' x' y' w) : scal v w = true := by
  rcases a with ⟨rfl, a⟩ | ⟨e, n, rfl, a1, a2⟩ <;> rcases b with ⟨rfl, b⟩ | ⟨e', n', rfl, b1, b2⟩ <;> rfl
/-- a block that changes nothing, either way -/
theorem ifR {σ : L2.St} {H : Hp} {c : Bool} {t : TS} {D : Ends} (ht : c = true → ∀ D' : Ends, (∀ H', Same H H' → D'.nx σ H') → t D' σ H) (hR : ∀ H', Same H H' → D.nx σ H') :
    if c = true then t D σ H else tNext D σ H := by
  cases c with
  | true => rw [if_pos rfl]; exact ht rfl D hR
  | false => rw [if_neg Bool.false_ne_true]; exact hR H (Same.refl H)
end Vg

set_option Elab.async false
set_option linter.all false
set_option maxRecDepth 100000
set_option maxHeartbeats 2000000
namespace Vg
open PySem PySem.Spec PyProof.Rows L2
theorem inv_exG {m a : Int} (hm : 1 ≤ m) (h : Int.gcd a m = 1) : ∃ r, Cg m (r * a) 1 := by
  by_cases c : m = 1
  · subst c; exact ⟨0, Int.one_dvd _⟩
  · have b0 := Int.emod_nonneg a (show m ≠ 0 by omega)
    have b1 := Int.emod_lt_of_pos a (show 0 < m by omega)
    have e : a % m = a - a / m * m := by have := Int.emod_add_mul_ediv a m; rw [Int.mul_comm] at this; omega
    have hu : Unit' m (a % m) := by
      refine ⟨b0, b1, ?_⟩
      rw [gcdI_eq b0 (by omega), e, Int.gcd_sub_mul_right_left, h]
      rfl
    obtain ⟨r, _, _, hr⟩ := unit_inv_ex (by omega) hu
    exact ⟨r, ((Cg.mod m a).mulL r).symm.trans hr⟩
/-- a number with given residues, if the greatest common divisor allows it -/
theorem crt_ex {n n' : Nat} {k late : Int} (h1 : 0 < n) (h2 : 0 < n') (hk : 0 ≤ k) (hd : ((Nat.gcd n n' : Nat) : Int) ∣ late) : ∃ e : Nat, Cg (n : Int) (e : Int) k ∧ Cg (n' : Int) (e : Int) (k + late) := by
  have hd' : ((Int.gcd (n : Int) (n' : Int) : Nat) : Int) ∣ late := hd
  obtain ⟨r, hr⟩ := inv_exG (div_lt' (gcd_posI (a := (n : Int)) (m := (n' : Int)) (by omega)) (by omega) (Int.gcd_dvd_right (n : Int) (n' : Int)) (by omega)).1 (slv_gcd (a := (n : Int)) (m := (n' : Int)) (by omega))
  have S := slv_some (by omega) hd' hr
  have s0 := S.s0
  generalize (late / (Int.gcd (n : Int) (n' : Int) : Int) * r % ((n' : Int) / (Int.gcd (n : Int) (n' : Int) : Int))) = s at S s0
  have c := (S.iff s).mpr (Cg.refl _ _)
  have hns : 0 ≤ (n : Int) * s := Int.mul_nonneg (by omega) s0
  refine ⟨(k + (n : Int) * s).toNat, ?_, ?_⟩
  · rw [Int.toNat_of_nonneg (by omega)]
    exact ⟨s, by omega⟩
  · rw [Int.toNat_of_nonneg (by omega)]
    exact (Cg.refl (n' : Int) k).add c
section
variable {m : Int} {f g : Mp} {x u : Int}
theorem orb_cgN (hm : 2 ≤ m) (hf : Ok m f) {n a b : Nat} (h : Per m f x m n) : orb m f x a = orb m f x b ↔ a % n = b % n := by
  rw [orb_eq_cg hm, h.iff hm hf (Int.dvd_refl m)]
theorem lcm_mod {n n' a b : Nat} (ha : a < Nat.lcm n n') (hb : b < Nat.lcm n n') (h1 : a % n = b % n) (h2 : a % n' = b % n') : a = b := by
  have key : ∀ a b : Nat, b ≤ a → a < Nat.lcm n n' → a % n = b % n → a % n' = b % n' → a = b := by
    intro a b l ha h1 h2
    have d1 : n ∣ a - b := Nat.dvd_of_mod_eq_zero (Nat.sub_mod_eq_zero_of_mod_eq h1)
    have d2 : n' ∣ a - b := Nat.dvd_of_mod_eq_zero (Nat.sub_mod_eq_zero_of_mod_eq h2)
    have d3 := Nat.lcm_dvd d1 d2
    rcases Nat.eq_zero_or_pos (a - b) with z | z
    · omega
    · have := Nat.le_of_dvd z d3; omega
  rcases Nat.le_total b a with l | l
  · exact key a b l ha h1 h2
  · exact (key b a l hb h1.symm h2.symm).symm
theorem TJ.alone (hm : 2 ≤ m) (hf : Ok m f) (hg : Ok m g) {y w : Int} {v v' : V} (a : TJ m f x y g u w v) (b : TJ m f x y g u w v') : v = v' := by
  rcases a with ⟨rfl, a⟩ | ⟨e, rfl, a1, a2, a3⟩ <;> rcases b with ⟨rfl, b⟩ | ⟨e', rfl, b1, b2, b3⟩
  · rfl
  · exact absurd ⟨b1, b2⟩ (a _)
  · exact absurd ⟨a1, a2⟩ (b _)
  · obtain ⟨n, hn⟩ := per_ex (x := x) hm hf
    obtain ⟨n', hn'⟩ := per_ex (x := u) hm hg
    have := lcm_mod (a3 n n' hn hn') (b3 n n' hn hn') ((orb_cgN hm hf hn).mp (a1.trans b1.symm)) ((orb_cgN hm hg hn').mp (a2.trans b2.symm))
    rw [this]
theorem TJ.symm {y w : Int} {v : V} (a : TJ m f x y g u w v) : TJ m g u w f x y v := by
  rcases a with ⟨rfl, a⟩ | ⟨e, rfl, a1, a2, a3⟩
  · exact .inl ⟨rfl, fun e z => a e z.symm⟩
  · exact .inr ⟨e, rfl, a2, a1, fun n n' h h' => by rw [Nat.lcm_comm]; exact a3 n' n h' h⟩
theorem TJ.scal {y w : Int} {v v' : V} {m' : Int} {f' g' : Mp} {x' y' u' w' : Int} (a : TJ m f x y g u w v) (b : TJ m' f' x' y' g' u' w' v') : scal v v' = true := by
  rcases a with ⟨rfl, a⟩ | ⟨e, rfl, a1, a2⟩ <;> rcases b with ⟨rfl, b⟩ | ⟨e', rfl, b1, b2⟩ <;> rfl
theorem TJ.rp {K : PySem.W.Frag} (hm : 2 ≤ m) (h9 : m ≤ 1000000000) (hf : Ok m f) (hg : Ok m g) {y w : Int} {v : V} (a : TJ m f x y g u w v) : ∃ d, ∀ H, Rp K H v d := by
  rcases a with ⟨rfl, a⟩ | ⟨e, rfl, a1, a2, a3⟩
  · exact ⟨_, fun H => rp_non⟩
  · obtain ⟨n, hn⟩ := per_ex (x := x) hm hf
    obtain ⟨n', hn'⟩ := per_ex (x := u) hm hg
    have := a3 n n' hn hn'
    have b1 := per_small hm hf (Int.dvd_refl m) (by omega) hn
    have b2 := per_small hm hg (Int.dvd_refl m) (by omega) hn'
    have b3 := lcm_le' (a := n) (b := n') (by omega) (by omega)
    exact ⟨_, fun H => rp_intW (by omega)⟩
/-- the joint distance of two questions that are answered after k and k + late times -/
theorem tj_late (hm : 2 ≤ m) (hf : Ok m f) (hg : Ok m g) {n n' k late : Nat} (hn : Per m f x m n) (hn' : Per m g u m n') {v : V} (t : TJ m f x (orb m f x k) g u (orb m g u (k + late)) v) :
    (v = .non ∧ ¬ (Nat.gcd n n') ∣ late) ∨ ∃ e : Nat, v = .int e ∧ (Nat.gcd n n') ∣ late ∧ e < Nat.lcm n n' ∧ e % n = k % n ∧ e % n' = (k + late) % n' := by
  rcases t with ⟨rfl, a⟩ | ⟨e, rfl, a1, a2, a3⟩
  · refine .inl ⟨rfl, fun hd => ?_⟩
    obtain ⟨e, c1, c2⟩ := crt_ex (k := (k : Int)) hn.pos hn'.pos (by omega) (Int.natCast_dvd_natCast.mpr hd)
    refine a e ⟨(orb_cgN hm hf hn).mpr ?_, (orb_cgN hm hg hn').mpr ?_⟩
    · have := c1.eq; omega
    · have := c2.eq
      rw [← Int.natCast_add] at this
      omega
  · have m1 := (orb_cgN hm hf hn).mp a1
    have m2 := (orb_cgN hm hg hn').mp a2
    refine .inr ⟨e, rfl, ?_, a3 n n' hn hn', m1, m2⟩
    have g1 : ((Nat.gcd n n' : Nat) : Int) ∣ (e : Int) - (k : Int) := by
      refine Int.dvd_trans (Int.natCast_dvd_natCast.mpr (Nat.gcd_dvd_left n n')) ?_
      refine Int.dvd_of_emod_eq_zero ?_
      rw [Int.sub_emod]
      have : (e : Int) % (n : Int) = (k : Int) % (n : Int) := by omega
      rw [this, Int.sub_self, Int.zero_emod]
    have g2 : ((Nat.gcd n n' : Nat) : Int) ∣ (e : Int) - ((k + late : Nat) : Int) := by
      refine Int.dvd_trans (Int.natCast_dvd_natCast.mpr (Nat.gcd_dvd_right n n')) ?_
      refine Int.dvd_of_emod_eq_zero ?_
      rw [Int.sub_emod]
      have : (e : Int) % (n' : Int) = ((k + late : Nat) : Int) % (n' : Int) := by omega
      rw [this, Int.sub_self, Int.zero_emod]
    have g3 := Int.dvd_sub g1 g2
    refine Int.natCast_dvd_natCast.mp ?_
    have e3 : (e : Int) - (k : Int) - ((e : Int) - ((k + late : Nat) : Int)) = (late : Int) := by omega
    rw [e3] at g3
    exact g3
end
def sp_llcm : Sp := fun vs H Q _ => ∃ a b : Nat, vs = [.int (a : Int), .int (b : Int)] ∧ 0 < a ∧ 0 < b ∧ a ≤ 1000000000000000000 ∧ b ≤ 1000000000 ∧ Q (.int ((Nat.lcm a b : Nat) : Int)) H
theorem w_llcm {H : Hp} {Q : VK} {E : XK} {a b : Nat} (h0 : 0 < a) (h1 : 0 < b) (ha : a ≤ 1000000000000000000) (hb : b ≤ 1000000000) (h : Q (.int ((Nat.lcm a b : Nat) : Int)) H) : sp_llcm [.int (a : Int), .int (b : Int)] H Q E := ⟨a, b, rfl, h0, h1, ha, hb, h⟩
/-- a block that changes nothing, either way; the end is told piece by piece -/
theorem ifR2 {σ : L2.St} {H : Hp} {c : Bool} {t : TS} {D : Ends} (ht : c = true → ∀ (N : L2.St → Hp → Prop) (R : VK) (B C : L2.St → Hp → Prop), (∀ H', Same H H' → N σ H') → t (Ends.mk N R B C) σ H) (hR : ∀ H', Same H H' → D.nx σ H') :
    if c = true then t D σ H else tNext D σ H := by
  cases c with
  | true => rw [if_pos rfl]; exact ht rfl D.nx D.rt D.bk D.ct hR
  | false => rw [if_neg Bool.false_ne_true]; exact hR H (Same.refl H)
/-! ### modulo a divisor; powers -/
section
variable {m d : Int} {f : Mp} {x : Int}
theorem red_ok (hm : 2 ≤ m) (hf : Ok m f) (hd : d ∣ m) (d2 : 2 ≤ d) : Ok d (f.1 % d, f.2 % d) := by
  obtain ⟨r, _, _, hr⟩ := unit_inv_ex hm hf.u
  refine ⟨?_, Int.emod_nonneg _ (by omega), Int.emod_lt_of_pos _ (by omega)⟩
  refine unit_of (r := r) d2 ?_ (Int.emod_nonneg _ (by omega)) (Int.emod_lt_of_pos _ (by omega))
  have h1 : Cg d (f.1 * r) 1 := by rw [Int.mul_comm]; exact cg_of_dvd hd hr
  exact ((Cg.mod d f.1).mulR r).trans h1
theorem orb_red (hm : 2 ≤ m) (hd : d ∣ m) (d2 : 2 ≤ d) : ∀ e, Cg d (orb d (f.1 % d, f.2 % d) (x % d) e) (orb m f x e)
  | 0 => by
    show Cg d ((1 * (x % d) + 0) % d) ((1 * x + 0) % m)
    refine (Cg.mod d _).trans ((Cg.of (by omega)).trans ((Cg.mod d x).trans ((Cg.of (by omega)).trans (cg_of_dvd hd (Cg.mod m (1 * x + 0)).symm))))
  | e + 1 => by
    rw [orb_succ, orb_succ]
    have ih := orb_red hm hd d2 e
    refine (Cg.mod d _).trans ?_
    refine ((((Cg.mod d f.1).mulR _).trans (ih.mulL f.1)).add (Cg.mod d f.2)).trans ?_
    exact cg_of_dvd hd (Cg.mod m _).symm
theorem per_red (hm : 2 ≤ m) (hd : d ∣ m) (d2 : 2 ≤ d) {n : Nat} (h : Per d (f.1 % d, f.2 % d) (x % d) d n) : Per m f x d n := by
  have c : ∀ e, Cg d (orb d (f.1 % d, f.2 % d) (x % d) e) (orb d (f.1 % d, f.2 % d) (x % d) 0) ↔ Cg d (orb m f x e) (orb m f x 0) := fun e =>
    ⟨fun z => (orb_red hm hd d2 e).symm.trans (z.trans (orb_red hm hd d2 0)), fun z => (orb_red hm hd d2 e).trans (z.trans (orb_red hm hd d2 0).symm)⟩
  exact ⟨h.pos, (c n).mp h.back, fun j a b z => h.least j a b ((c j).mpr z)⟩
theorem per_pow (hm : 2 ≤ m) (hf : Ok m f) {n k n' : Nat} (h : Per m f x m n) (h' : Per m (npw m f k) x m n') : n' = n / Nat.gcd n k := by
  have n0 := h.pos
  have g0 : 0 < Nat.gcd n k := Nat.gcd_pos_of_pos_left k n0
  have e : ∀ j, orb m (npw m f k) x j = orb m f x (k * j) := fun j => by
    show img m (npw m (npw m f k) j) x = _
    rw [npw_mul hm hf]
    rfl
  have c : ∀ j, n' ∣ j ↔ n ∣ k * j := fun j => by
    rw [← h'.dvd hm (npw_ok hm hf k) (Int.dvd_refl m), e, e, Nat.mul_zero, h.dvd hm hf (Int.dvd_refl m)]
  have gn := Nat.div_mul_cancel (Nat.gcd_dvd_left n k)
  have gk := Nat.div_mul_cancel (Nat.gcd_dvd_right n k)
  have co : Nat.Coprime (n / Nat.gcd n k) (k / Nat.gcd n k) := Nat.coprime_div_gcd_div_gcd g0
  refine Nat.dvd_antisymm ((c _).mpr ?_) ?_
  · refine ⟨k / Nat.gcd n k, ?_⟩
    have h1 : k * (n / Nat.gcd n k) = k / Nat.gcd n k * Nat.gcd n k * (n / Nat.gcd n k) := by rw [gk]
    rw [h1, Nat.mul_assoc, Nat.mul_comm (Nat.gcd n k), gn, Nat.mul_comm]
  · have h1 := (c n').mp (Nat.dvd_refl n')
    have h2 : n / Nat.gcd n k ∣ k / Nat.gcd n k * n' := by
      refine Nat.dvd_of_mul_dvd_mul_right g0 ?_
      have h3 : k / Nat.gcd n k * n' * Nat.gcd n k = k * n' := by
        rw [Nat.mul_right_comm, gk]
      rw [gn, h3]
      exact h1
    exact co.dvd_of_dvd_mul_left h2
end
end Vg

set_option Elab.async false
set_option linter.all false
set_option maxRecDepth 100000
set_option maxHeartbeats 2000000
namespace Vg
open PySem PySem.Spec PyProof.Rows L2
/-! ### lists of maps -/
def mpd (f : Mp) : PyData := .tuple [.int f.1, .int f.2]
inductive MsL (H : Hp) : List Addr → List Mp → Prop where
  | nil : MsL H [] []
  | cons {q : Addr} {f : Mp} {qs : List Addr} {fs : List Mp} (h : H q = some (.tup [.int f.1, .int f.2])) (r : MsL H qs fs) : MsL H (q :: qs) (f :: fs)
theorem MsL.same {H H' : Hp} (s : Same H H') {qs : List Addr} {fs : List Mp} (h : MsL H qs fs) : MsL H' qs fs := by
  induction h with
  | nil => exact .nil
  | cons h r ih => exact .cons (s _ _ h) ih
theorem MsL.but {p : Addr} {H H' : Hp} {kvs : List (Key × V)} (hp : H p = some (.dK kvs)) (s : But p H H') {qs : List Addr} {fs : List Mp} (h : MsL H qs fs) : MsL H' qs fs := by
  induction h with
  | nil => exact .nil
  | cons h r ih => exact .cons (s _ _ (ne_dt h hp) h) ih
theorem MsL.upd {l : Addr} {H : Hp} {xs ys : List V} (hl : H l = some (.lst xs)) {qs : List Addr} {fs : List Mp} (h : MsL H qs fs) : MsL (upd H l (.lst ys)) qs fs := by
  induction h with
  | nil => exact .nil
  | cons h r ih => exact .cons (by rw [upd_ne (ne_of h hl (by intro z; cases z))]; exact h) ih
theorem MsL.snoc {H : Hp} {q : Addr} {f : Mp} (hq : H q = some (.tup [.int f.1, .int f.2])) {qs : List Addr} {fs : List Mp} (h : MsL H qs fs) : MsL H (qs ++ [q]) (fs ++ [f]) := by
  induction h with
  | nil => exact .cons hq .nil
  | cons h r ih => exact .cons h ih
theorem MsL.dp {K : PySem.W.Frag} {H : Hp} {qs : List Addr} {fs : List Mp} (h : MsL H qs fs) : DpAll K H (qs.map V.ref) (fs.map mpd) := by
  induction h with
  | nil => exact .nil
  | cons h r ih => exact .cons (Dp.tup (SqT.of h) (.cons (.int _) (.cons (.int _) .nil))) ih
theorem MsL.get {H : Hp} {qs : List Addr} {fs : List Mp} (h : MsL H qs fs) : ∀ q ∈ qs, ∃ f ∈ fs, H q = some (.tup [.int f.1, .int f.2]) := by
  induction h with
  | nil => intro q hq; cases hq
  | cons h r ih =>
    intro q hq
    rcases List.mem_cons.mp hq with z | z
    · rw [z]; exact ⟨_, List.mem_cons_self .., h⟩
    · obtain ⟨f, hf, e⟩ := ih q z
      exact ⟨f, List.mem_cons_of_mem _ hf, e⟩
theorem MsL.len {H : Hp} {qs : List Addr} {fs : List Mp} (h : MsL H qs fs) : qs.length = fs.length := by
  induction h with
  | nil => rfl
  | cons h r ih => rw [List.length_cons, List.length_cons, ih]
theorem MsL.last {H : Hp} : ∀ {qs : List Addr} {fs : List Mp} {f : Mp}, MsL H qs (fs ++ [f]) → ∃ qs' q, qs = qs' ++ [q] ∧ H q = some (.tup [.int f.1, .int f.2]) ∧ MsL H qs' fs
  | qs, [], f, h => by
    cases h with
    | cons h r => cases r; exact ⟨[], _, rfl, h, .nil⟩
  | qs, g :: fs, f, h => by
    cases h with
    | @cons q _ qs _ h r =>
      obtain ⟨qs', q', e, hq, hr⟩ := MsL.last r
      exact ⟨q :: qs', q', by rw [e]; rfl, hq, .cons h hr⟩
theorem lay_mpds : ∀ fs : List Mp, PyData.canLayAll0 (fs.map mpd) = true
  | [] => by simp [PyData.canLayAll0]
  | f :: r => by
    have h := lay_mpds r
    have h2 : PyData.canLay0 (mpd f) = true := by simp only [mpd, PyData.canLay0]; exact lay_ints [f.1, f.2]
    simp only [List.map_cons, PyData.canLayAll0, h2, h, Bool.and_self]
theorem depth_mpds : ∀ fs : List Mp, PyData.depthAll (fs.map mpd) ≤ 1
  | [] => by simp [PyData.depthAll]
  | f :: r => by
    have h := depth_mpds r
    have h2 : PyData.depth (mpd f) ≤ 1 := by
      simp only [mpd, PyData.depth]
      rw [show PyData.depthAll [.int f.1, .int f.2] = 0 from depth_ints [f.1, f.2]]
      decide
    simp only [List.map_cons, PyData.depthAll]
    exact Nat.max_le.mpr ⟨h2, h⟩
theorem shaped_mpds (fs : List Mp) : SeqAt.shaped (.list (fs.map mpd)) = true := by
  have h1 : PyData.canLay0 (.list (fs.map mpd)) = true := by simp only [PyData.canLay0]; exact lay_mpds fs
  have h2 : PyData.depth (.list (fs.map mpd)) ≤ 2 := by simp only [PyData.depth]; have := depth_mpds fs; omega
  unfold SeqAt.shaped
  rw [h1, decide_eq_true (show PyData.depth (.list (fs.map mpd)) ≤ 64 by omega)]
  rfl
theorem eqv_mpd {f g : Mp} : PyData.eqv (mpd f) (mpd g) = decide (f = g) := by
  cases f with
  | mk a b =>
    cases g with
    | mk c d =>
      simp [mpd, PyData.eqv, PyData.eqvAll, Prod.mk.injEq]
      rfl
theorem any_mpd {g : Mp} : ∀ fs : List Mp, ((fs.map mpd).any fun z => PyData.eqv z (mpd g)) = decide (g ∈ fs)
  | [] => by simp
  | f :: r => by
    rw [List.map_cons, List.any_cons, eqv_mpd, any_mpd r]
    by_cases c : f = g
    · subst c; simp
    · have c' : ¬ g = f := fun z => c z.symm
      simp [c, c']
section
variable {K : PySem.W.Frag} {H : Hp} {Q : VK} {E : XK}
theorem w_inMs {K' : PySem.W.Frag} {l t : Addr} {qs : List Addr} {fs : List Mp} {g : Mp} (hl : H l = some (.lst (qs.map V.ref))) (hm : MsL H qs fs) (ht : TpAt K H t g) (h : Q (.bl (decide (g ∈ fs))) H) (hk : K' = K := by rfl) :
    rInD K' (.ref t) (.ref l) H Q := by
  subst hk
  refine ⟨mpd g, fs.map mpd, dp_mp ht, Dp.lst (SqL.of hl) hm.dp, sh_mp, shaped_mpds fs, ?_⟩
  rw [any_mpd]
  exact h
theorem w_indexMs {K' : PySem.W.Frag} {l t : Addr} {qs : List Addr} {fs : List Mp} {g : Mp} {j : Nat} (hl : H l = some (.lst (qs.map V.ref))) (hm : MsL H qs fs) (ht : TpAt K H t g) (hj : fs[j]? = some g) (hno : ∀ i : Nat, i < j → fs[i]? ≠ some g)
    (h : Q (.int (j : Nat)) H) (hk : K' = K := by rfl) : rIndexD K' (.ref l) [.ref t] H Q := by
  subst hk
  refine ⟨l, _, mpd g, fs.map mpd, j, mpd g, rfl, rfl, Dp.lst (SqL.of hl) hm.dp, dp_mp ht, shaped_mpds fs, sh_mp, by rw [List.getElem?_map, hj]; rfl, by rw [eqv_mpd]; simp, fun i z hi hz => ?_, h⟩
  rw [List.getElem?_map] at hz
  cases hx : fs[i]? with
  | none => rw [hx] at hz; cases hz
  | some w =>
    rw [hx] at hz
    cases hz
    rw [eqv_mpd, decide_eq_false]
    intro z
    exact hno i hi (by rw [hx, z])
theorem w_neMpD {K' : PySem.W.Frag} {s t : Addr} {p q : Mp} (hp : TpAt K H s p) (hq : TpAt K H t q) (h : Q (.bl (!decide (p = q))) H) (hk : K' = K := by rfl) : rNeD K' (.ref s) (.ref t) H Q := by
  subst hk
  refine ⟨_, _, dp_mp hp, dp_mp hq, sh_mp, sh_mp, ?_⟩
  rw [show PyData.eqv (.tuple [.int p.1, .int p.2]) (.tuple [.int q.1, .int q.2]) = decide (p = q) from eqv_mpd]
  exact h
def pws (m : Int) (f : Mp) (n : Nat) : List Mp := (List.range n).map (npw m f)
theorem pws_snoc {m : Int} {f : Mp} {n : Nat} : pws m f (n + 1) = pws m f n ++ [npw m f n] := by
  unfold pws
  rw [List.range_succ, List.map_append]
  rfl
theorem pws_at {m : Int} {f : Mp} {n i : Nat} (h : i < n) : (pws m f n)[i]? = some (npw m f i) := by
  unfold pws
  rw [List.getElem?_map, List.getElem?_range h]
  rfl
theorem pws_mem {m : Int} {f g : Mp} {n : Nat} : g ∈ pws m f n ↔ ∃ i, i < n ∧ npw m f i = g := by unfold pws; simp
theorem pws_len {m : Int} {f : Mp} {n : Nat} : (pws m f n).length = n := by unfold pws; simp
def sp_lpowers (K : PySem.W.Frag) : Sp := fun vs H Q _ => ∃ (m : Int) (f : Mp) (t : Addr), vs = [.int m, .ref t] ∧ TpAt K H t f ∧ 2 ≤ m ∧ m ≤ 900 ∧ Ok m f ∧
  ∀ H' l n qs, Same H H' → H l = none → Ord m f n → n ≤ 810000 → H' l = some (.lst (qs.map V.ref)) → MsL H' qs (pws m f n) → Q (.ref l) H'
theorem w_lpowers {m : Int} {f : Mp} {t : Addr} (ht : TpAt K H t f) (hm : 2 ≤ m) (h9 : m ≤ 900) (hf : Ok m f)
    (h : ∀ H' l n qs, Same H H' → H l = none → Ord m f n → n ≤ 810000 → H' l = some (.lst (qs.map V.ref)) → MsL H' qs (pws m f n) → Q (.ref l) H') : sp_lpowers K [.int m, .ref t] H Q E := ⟨m, f, t, rfl, ht, hm, h9, hf, h⟩
def sp_lcommon (K : PySem.W.Frag) : Sp := fun vs H Q _ => ∃ (m : Int) (f g : Mp) (x u y w : Int) (n n' : Nat) (a b : Addr), vs = [.ref a, .ref b, .int y, .int w] ∧ H a = some (.lst ((cyc m f x n).map V.int)) ∧ H b = some (.lst ((cyc m g u n').map V.int)) ∧
  2 ≤ m ∧ m ≤ 100000 ∧ Ok m f ∧ Ok m g ∧ Per m f x m n ∧ Per m g u m n' ∧ ∀ v, TJ m f x y g u w v → Q v H
theorem w_lcommon {m : Int} {f g : Mp} {x u y w : Int} {n n' : Nat} {a b : Addr} (ha : H a = some (.lst ((cyc m f x n).map V.int))) (hb : H b = some (.lst ((cyc m g u n').map V.int))) (hm : 2 ≤ m) (h9 : m ≤ 100000) (hf : Ok m f) (hg : Ok m g)
    (hn : Per m f x m n) (hn' : Per m g u m n') (h : ∀ v, TJ m f x y g u w v → Q v H) : sp_lcommon K [.ref a, .ref b, .int y, .int w] H Q E := ⟨m, f, g, x, u, y, w, n, n', a, b, rfl, ha, hb, hm, h9, hf, hg, hn, hn', h⟩
theorem cyc_ix {m : Int} {f : Mp} {x : Int} {n i : Nat} (h : i < n) : atI ((cyc m f x n).map V.int) (i : Int) = some (.int (orb m f x i)) := atI_nat (by rw [List.getElem?_map, cyc_at h]; rfl)
theorem TD.rp {m : Int} {f g : Mp} {v : V} {n : Nat} (hn : Ord m f n) (n9 : n ≤ 1000000000) (a : TD m f g v) : ∃ d, ∀ H, Rp K H v d := by
  rcases a with ⟨rfl, a⟩ | ⟨e, rfl, a1, a2⟩
  · exact ⟨_, fun H => rp_non⟩
  · have := a2 n hn
    exact ⟨_, fun H => rp_int (by omega)⟩
end
theorem room65 {k : Nat} {A : Around} (r : Room k A) : A.units + 65 < cLine := by have := r.un; omega
end Vg

set_option Elab.async false
set_option linter.all false
set_option maxRecDepth 100000
set_option maxHeartbeats 2000000
namespace Vg
open PySem PySem.Spec PyProof.Rows L2
/-! ### a list or a tuple, walked, and by enumerate -/
def SqA (K : PySem.W.Frag) (H : Hp) (a : Addr) (xs : List V) : Prop := SqL K H a xs ∨ SqT K H a xs
/-- a list stays a list, a tuple a tuple -/
def Stab (K : PySem.W.Frag) (a : Addr) (H H' : Hp) : Prop := (∀ xs, SqL K H a xs → SqL K H' a xs) ∧ ∀ xs, SqT K H a xs → SqT K H' a xs
theorem Same.stab {K : PySem.W.Frag} {a : Addr} {H H' : Hp} (s : Same H H') : Stab K a H H' := ⟨fun _ h => s.seq h, fun _ h => sm_tup s h⟩
theorem But.stab {K : PySem.W.Frag} {p a : Addr} {H H' : Hp} (s : But p H H') (n : a ≠ p) : Stab K a H H' := ⟨fun _ h => s.seq n h, fun _ h => s.tup n h⟩
theorem SqA.st {K : PySem.W.Frag} {a : Addr} {H H' : Hp} {xs : List V} (h : SqA K H a xs) (s : Stab K a H H') : SqA K H' a xs := by
  rcases h with h | h
  · exact .inl (s.1 _ h)
  · exact .inr (s.2 _ h)
theorem SqA.sm {K : PySem.W.Frag} {a : Addr} {H H' : Hp} {xs : List V} (h : SqA K H a xs) (s : Same H H') : SqA K H' a xs := h.st (Same.stab s)
def iSeq (K : PySem.W.Frag) (tl : TE) : TI := fun σ H R => tl σ H fun x H1 => ∃ a, x = .ref a ∧ (((∃ xs, SqL K H1 a xs) ∧ R (Itl K a) H1) ∨ ((∃ xs, SqT K H1 a xs) ∧ R (Itt K a) H1))
theorem pi_seq {X : Cx} {tg l : Expr} {tl : TE} (hl : PE X l tl) : PI X tg l (iSeq X.K tl) := by
  refine ⟨fun pins s σ H R I h => ?_⟩
  refine thn (hl.run pins s σ H _ I h) fun v s1 ⟨x, H1, I1, r1, q1⟩ => ?_
  obtain ⟨a, e, q⟩ := q1
  subst e
  cases r1
  rcases q with ⟨⟨xs, hq⟩, q⟩ | ⟨⟨xs, hq⟩, q⟩
  · obtain ⟨its, rv, p, hz⟩ := I1.list hq
    refine wpAny_pyIter_list p.isList ?_
    refine ⟨s1.heap.objs.size, [s1.heap.objs.size], _, _, H1, rfl, I1.kept (t' := s1.toks) fun b o e => Heap.get?_push_of_some _ e, turn_list a _, ⟨_, Heap.get?_push_size _ rfl, rfl, rfl⟩, fun b hb => ?_, q⟩
    have e : b = s1.heap.objs.size := by simpa using hb
    subst e
    exact I1.fpOk (Nat.le_refl _) (I1.hok.fresh (Nat.le_refl _))
  · obtain ⟨its, rv, p, hz⟩ := I1.tuple hq
    refine wpAny_pyIter_tuple (show s1.heap.IsTuple a its.toArray from p) ?_
    refine ⟨s1.heap.objs.size, [s1.heap.objs.size], _, _, H1, rfl, I1.kept (t' := s1.toks) fun b o e => Heap.get?_push_of_some _ e, turn_tuple a _, ⟨_, Heap.get?_push_size _ rfl, rfl, rfl⟩, fun b hb => ?_, q⟩
    have e : b = s1.heap.objs.size := by simpa using hb
    subst e
    exact I1.fpOk (Nat.le_refl _) (I1.hok.fresh (Nat.le_refl _))
/-- the reading of a loop over either -/
theorem for_seq {K : PySem.W.Frag} {a : Addr} {xs : List V} {g : TG} {tb : TS} {D : Ends} {σ : L2.St} {H : Hp} (hS : SqA K H a xs) (Pv : Nat → L2.St → Hp → Prop) (h0 : Pv 0 σ H) (hl : ∀ i σ' H', i ≤ xs.length → Pv i σ' H' → Stab K a H H')
    (hs : ∀ i x σ H, xs[i]? = some x → Pv i σ H → g x σ H fun σ2 H2 => tb { D with nx := Pv (i + 1), ct := Pv (i + 1), bk := D.nx } σ2 H2) (hd : ∀ σ H, Pv xs.length σ H → D.nx σ H) :
    ((∃ xs, SqL K H a xs) ∧ ∃ W : Nat → Nat → L2.St → Hp → Prop, (∃ m, W 0 m σ H) ∧ ∀ i m σ H, W i m σ H →
      ((Itl K a).stop i H ∧ D.nx σ H) ∨ ((Itl K a).go i H ∧ ∃ N : L2.St → Hp → Prop, (∀ σ' H', N σ' H' → ∃ m', m' < m ∧ W (i + 1) m' σ' H') ∧ ∀ x H', (Itl K a).yld i H x H' → g x σ H' fun σ2 H2 => tb { D with nx := N, ct := N, bk := D.nx } σ2 H2)) ∨
    ((∃ xs, SqT K H a xs) ∧ ∃ W : Nat → Nat → L2.St → Hp → Prop, (∃ m, W 0 m σ H) ∧ ∀ i m σ H, W i m σ H →
      ((Itt K a).stop i H ∧ D.nx σ H) ∨ ((Itt K a).go i H ∧ ∃ N : L2.St → Hp → Prop, (∀ σ' H', N σ' H' → ∃ m', m' < m ∧ W (i + 1) m' σ' H') ∧ ∀ x H', (Itt K a).yld i H x H' → g x σ H' fun σ2 H2 => tb { D with nx := N, ct := N, bk := D.nx } σ2 H2)) := by
  rcases hS with h | h
  · exact .inl ⟨⟨_, h⟩, for_list Pv h0 (fun i σ' H' hi p => (hl i σ' H' hi p).1 _ h) hs hd⟩
  · exact .inr ⟨⟨_, h⟩, for_tup Pv h0 (fun i σ' H' hi p => (hl i σ' H' hi p).2 _ h) hs hd⟩

/-! ### enumerate over a tuple -/
def IteT (K : PySem.W.Frag) (a : Addr) : L2.It :=
  ⟨fun i H => ∃ (xs : List V) (x : V), SqT K H a xs ∧ xs[i]? = some x, fun i H v H' => ∃ T x, v = .ref T ∧ H T = none ∧ H' = upd H T (.tup [.int (i : Nat), x]) ∧ ∀ xs, SqT K H a xs → xs[i]? = some x, fun i H => ∃ xs : List V, SqT K H a xs ∧ xs.length ≤ i⟩
theorem meets_enumerate_newT (t : Addr) (items : Array Value) :
    Meets (Builtin.«enumerate.__new__» ⟨[.type "enumerate", .ref t], []⟩) (fun _ R s => s.heap.IsTuple t items ∧
      R (.ok (.ret (.ref (s.heap.push { cls := .type "tuple_iterator", data := .fields #[.ref t, .int 0 0] }).objs.size)))
        { s with heap := (s.heap.push { cls := .type "tuple_iterator", data := .fields #[.ref t, .int 0 0] }).push { cls := .type "enumerate", data := .fields #[.none, .bool false, .ref s.heap.objs.size, rawInt 0, .none, .none] } }) :=
  .of_wp fun prog w A R s h => by
    obtain ⟨hp, g, d, tk, os⟩ := s; obtain ⟨h1, h⟩ := h
    have hsub := sub_enumerate
    have q1 : ∀ {A' : Around} {E : Value → Shared → Prop} {Q : Value → Shared → Prop}, Q (.ref hp.objs.size) ⟨hp.push { cls := .type "tuple_iterator", data := .fields #[.ref t, .int 0 0] }, g, d, tk, os⟩ → wpAny (model prog w) A' (pyIter (.ref t)) Q E ⟨hp, g, d, tk, os⟩ :=
      fun q => (begins_tuple t items).iter prog w _ _ ⟨hp, g, d, tk, os⟩ _ h1 q
    wp_walk using q1
    refine wpAny_stack_any fun st => wpAny_pure ?_
    split
    · rename_i c _ _ _ _ _
      cases (c == Value.type "enumerate")
      · wp_walk using q1
        exact ⟨_, rfl, h⟩
      · wp_walk using q1
        exact ⟨_, rfl, h⟩
    · wp_walk using q1
      exact ⟨_, rfl, h⟩
theorem call_enumerate_tup {prog : Program} {w : World} {A : Around} {E : Value → Shared → Prop} {s : Shared} {t : Addr} {items : Array Value} {Q : Value → Shared → Prop} (hL : s.heap.IsTuple t items)
    (h : ∀ h', IsEnum h' (s.heap.objs.size + 1) s.heap.objs.size 0 .none → h'.IsTupleIter s.heap.objs.size t 0 → h'.objs.size = s.heap.objs.size + 2 →
      (∀ b o, s.heap.get? b = some o → h'.get? b = some o) → Q (.ref (s.heap.objs.size + 1)) { s with heap := h' }) :
    wpAny (model prog w) A (call (.type "enumerate") [.ref t]) Q E s := by
  refine callType_new F.called_enumerate (by decide) (F.typeCall_enumerate_1 _) (F.newCall_enumerate_1 _) (fun obj => F.args_object_init_2 obj _) F.entry_enumerate_new
    (meets_enumerate_newT t items) ⟨hL, ?_⟩
  have hz : (s.heap.push { cls := .type "tuple_iterator", data := .fields #[.ref t, .int 0 0] }).objs.size = s.heap.objs.size + 1 := Heap.size_push ..
  show _ ∧ _
  rw [hz]
  have he : IsEnum ((s.heap.push { cls := .type "tuple_iterator", data := .fields #[.ref t, .int 0 0] }).push
      { cls := .type "enumerate", data := .fields #[.none, .bool false, .ref s.heap.objs.size, rawInt 0, .none, .none] }) (s.heap.objs.size + 1) s.heap.objs.size 0 .none := by
    have := Heap.get?_push_size (s.heap.push { cls := .type "tuple_iterator", data := .fields #[.ref t, .int 0 0] })
      (o := { cls := .type "enumerate", data := .fields #[.none, .bool false, .ref s.heap.objs.size, rawInt 0, .none, .none] }) rfl
    rw [hz] at this; exact this
  refine ⟨⟨_, he, rfl⟩, h _ he ⟨_, Heap.get?_push_of_some _ (Heap.get?_push_size _ rfl), rfl, rfl⟩ (by rw [Heap.size_push, hz]) fun b o x => Heap.get?_push_of_some _ (Heap.get?_push_of_some _ x)⟩
theorem turn_enumT {P : Program} {w : World} {K : PySem.W.Frag} {elts : List Expr} {kk : Nat} {tpos : Pos} (a e it : Addr) :
    Turn P w K (.Tuple elts kk tpos) (IteT K a) [e, it] e (fun i h => (∃ old, IsEnum h e it ((i : Nat) : Int) old) ∧ h.IsTupleIter it a i ∧ e ≠ it) where
  mem := by simp
  obj := fun i h st b hb => by
    obtain ⟨⟨old, he⟩, ⟨o, ho, hc, hd⟩, _⟩ := st
    have e' : b = e ∨ b = it := by simpa using hb
    rcases e' with z | z
    · rw [z]; exact ⟨_, he, fun v q => nomatch q⟩
    · rw [z]; exact ⟨o, ho, fun v q => by rw [hd] at q; cases q⟩
  keep := fun i h h' st k => let ⟨⟨old, he⟩, hi, hne⟩ := st; ⟨⟨old, k e (by simp) _ he⟩, hi.at fun o q => k it (by simp) o q, hne⟩
  item := by
    intro X hP hw hK hc i pins s σ H E I hf st hg
    subst hP hw hK
    obtain ⟨⟨old, he⟩, hit, hne⟩ := st
    obtain ⟨xs, x, hq, hx⟩ := hg
    obtain ⟨its, rv, p, hz⟩ := I.tuple hq
    obtain ⟨u, hu, ru⟩ := rv.get hx
    have hel : e < s.heap.objs.size := Heap.lt_size he
    have hil : it < s.heap.objs.size := by obtain ⟨_, q, _⟩ := hit; exact Heap.lt_size q
    have pt : s.heap.IsTuple a its.toArray := p
    have hai : a ≠ it := by
      rintro rfl
      obtain ⟨o1, q1, c1, _⟩ := pt
      obtain ⟨o2, q2, c2, _⟩ := hit
      rw [q1] at q2
      cases q2
      rw [c1] at c2
      exact absurd c2 (by decide)
    have hae : a ≠ e := by
      rintro rfl
      obtain ⟨o1, q1, c1, _⟩ := pt
      have q2 : s.heap.get? a = some _ := he
      rw [q1] at q2
      cases q2
      exact absurd (show Value.type "enumerate" = Value.type "tuple" from c1) (by decide)
    have D := Draws.tuple (prog := X.prog) (w := X.w) (A := X.A.in1) (I.ok.hd hc) it a hai its.toArray
    have hlt : i < its.toArray.size := by
      obtain ⟨q, _⟩ := List.getElem?_eq_some_iff.mp hu
      simpa using q
    refine wpAny_pyNext_enum_itemD D he ⟨hit, pt⟩ hlt hne (by simp [hne, Ne.symm hae]) fun v h' tk hv ho hit' hT hsz hk => ?_
    have ev : v = u := by
      have : its.toArray[i]? = some v := hv
      simp only [List.getElem?_toArray] at this
      rw [hu] at this
      exact (Option.some.inj this).symm
    subst ev
    refine ⟨_, rfl, wpAny_letOwnedTupleGo_enum (s := { s with heap := h', toks := tk + 1 }) ho fun h'' he' sb => ?_⟩
    have hT2 : h''.get? s.heap.objs.size = some { cls := .type "tuple", data := .seq #[.int i tk, v] } := (sb.2 _ (Nat.ne_of_gt hel)).trans hT
    have new : ObjOk X.prog X.w (upd H s.heap.objs.size (.tup [.int (i : Nat), x])) h'' s.heap.objs.size (.tup [.int (i : Nat), x]) :=
      ⟨by show 2 ≤ sizeLine; decide, [.int i tk, v], .cons ⟨_, rfl⟩ (.cons ru .nil), ⟨_, hT2, rfl, _, rfl⟩⟩
    have I1 : Inv X pins σ (upd H s.heap.objs.size (.tup [.int (i : Nat), x])) { s with heap := h'', toks := tk + 1 } :=
      I.turnedNew (ch := [e, it]) (fun b ob hb q => (sb.2 b (fun z => hb (by simp [z]))).trans (hk b ob (fun z => hb (by simp [z])) (fun z => hb (by simp [z])) q)) hf (Nat.le_refl _) new
    refine ⟨.ref s.heap.objs.size, _, I1, rfl, ⟨_, x, rfl, I.hok.fresh (Nat.le_refl _), rfl, fun ys hy => by rw [I.tuple_inj hy hq]; exact hx⟩, ⟨⟨v, ?_⟩, hit'.1.at fun o q => (sb.2 it (Ne.symm hne)).trans q, hne⟩, fun b hb => ?_⟩
    · have e1 : ((i + 1 : Nat) : Int) = (i : Int) + 1 := by omega
      rw [e1]; exact he'
    · have hb' : b < s.heap.objs.size := by
        have e' : b = e ∨ b = it := by simpa using hb
        rcases e' with z | z
        · rw [z]; exact hel
        · rw [z]; exact hil
      rw [upd_ne (Nat.ne_of_lt hb')]
      exact (hf b hb).1
  done := by
    intro X hP hw hK hc i pins s σ H E I hf st hg
    subst hP hw hK
    obtain ⟨⟨old, he⟩, hit, hne⟩ := st
    obtain ⟨xs, hq, hx⟩ := hg
    obtain ⟨its, rv, p, hz⟩ := I.tuple hq
    obtain ⟨f0, f1, f2, f3, f4, f5⟩ := hf it (by simp)
    have hl := rv.length
    have pt : s.heap.IsTuple a its.toArray := p
    have hai : a ≠ it := by
      rintro rfl
      obtain ⟨o1, q1, c1, _⟩ := pt
      obtain ⟨o2, q2, c2, _⟩ := hit
      rw [q1] at q2
      cases q2
      rw [c1] at c2
      exact absurd c2 (by decide)
    have hT : s.TypeIs (.ref e) "enumerate" := ⟨_, he, rfl⟩
    unfold pyNext
    refine wpAny_bind (wpAny_attempt (wpAny_callSpecial?_slot (name := Str.ofString "__next__") hT F.slot_enumerate_next
      (wpAny_call_entry F.slot_enumerate_next hT F.entry_enumerate_next ?_ (F.args_enumerate_next_1 _))))
    show wpAny _ _ (field (.ref e) 2 >>= _) _ _ _
    refine wpAny_bind (wpAny_field he rfl (x := .ref it) rfl ?_)
    refine wpAny_bind (wpAny_nextOf_tuple_end (I.ok.hd hc) hit pt (by simp; omega) fun h' x he' hx' => ?_)
    obtain ⟨o, ho, hc'⟩ := hx'
    refine wpAny_bind (wpAny_isInstance (T := "StopIteration") (b := true) ⟨o, ho, hc'⟩ isSubtype_stop ?_)
    exact wpAny_pure ⟨rfl, I.turned (t' := s.toks) (fun b o hb q => he' b o hb q) f0 f1 f3 f4 f5⟩
  self := fun A i s Q E st h => let ⟨⟨_, he⟩, _⟩ := st; wpAny_pyIter_enum he h
def iEnumA (K : PySem.W.Frag) (ta : TA) : TI := fun σ H R => ta σ H fun vs H1 => ∃ a, vs = [.ref a] ∧ (((∃ xs, SqL K H1 a xs) ∧ R (Ite K a) H1) ∨ ((∃ xs, SqT K H1 a xs) ∧ R (IteT K a) H1))
theorem pi_enumA {X : Cx} {e : Expr} {ta : TA} {p pos tpos : Pos} {elts : List Expr} {kk : Nat} (hg : Gl X "enumerate") (hm : X.mg "enumerate" = none) (ha : PA X [e] ta) (hs : starEach [e] X.env = [(false, eval e X.env)] := by rfl) :
    PI X (.Tuple elts kk tpos) (.Call (.Name "enumerate" p) [e] [] pos) (iEnumA X.K ta) := by
  refine ⟨fun pins s σ H R I h => ?_⟩
  refine Call_ (ld_blt I hg hm boot_enumerate (PyProof.Rows.callWith_type1 (thn (ha.run pos pins s σ H _ I h) fun us s1 ⟨vs, H1, I1, r1, q1⟩ => ?_) hs rfl))
  obtain ⟨a, ex, q⟩ := q1
  subst ex
  cases r1 with
  | cons r rr =>
    cases rr
    cases r
    have fin : ∀ b ∈ [s1.heap.objs.size + 1, s1.heap.objs.size], FpOk X pins H1 b := fun b hb => by
      have e' : b = s1.heap.objs.size + 1 ∨ b = s1.heap.objs.size := by simpa using hb
      have hle : s1.heap.objs.size ≤ b := by
        rcases e' with z | z
        · rw [z]; exact Nat.le_add_right _ _
        · rw [z]; exact Nat.le_refl _
      exact I1.fpOk hle (I1.hok.fresh hle)
    rcases q with ⟨⟨xs, hq⟩, q⟩ | ⟨⟨xs, hq⟩, q⟩
    · obtain ⟨its, rv, p', hz⟩ := I1.list hq
      refine call_enumerate_list p'.isList fun h' he hit hsz hk => wpAny_pyIter_enum he ?_
      have I2 : Inv X pins σ H1 { s1 with heap := h' } := I1.kept (t' := s1.toks) hk
      exact ⟨s1.heap.objs.size + 1, [s1.heap.objs.size + 1, s1.heap.objs.size], _, _, H1, rfl, I2, turn_enum a (s1.heap.objs.size + 1) s1.heap.objs.size, ⟨⟨.none, he⟩, hit, Nat.succ_ne_self _⟩, fin, q⟩
    · obtain ⟨its, rv, p', hz⟩ := I1.tuple hq
      refine call_enumerate_tup (show s1.heap.IsTuple a its.toArray from p') fun h' he hit hsz hk => wpAny_pyIter_enum he ?_
      have I2 : Inv X pins σ H1 { s1 with heap := h' } := I1.kept (t' := s1.toks) hk
      exact ⟨s1.heap.objs.size + 1, [s1.heap.objs.size + 1, s1.heap.objs.size], _, _, H1, rfl, I2, turn_enumT a (s1.heap.objs.size + 1) s1.heap.objs.size, ⟨⟨.none, he⟩, hit, Nat.succ_ne_self _⟩, fin, q⟩
/-- the reading of for i, x in enumerate(..) -/
theorem for_enumA {K : PySem.W.Frag} {a : Addr} {xs : List V} {g : TG} {tb : TS} {D : Ends} {σ : L2.St} {H : Hp} (hS : SqA K H a xs) (Pv : Nat → L2.St → Hp → Prop) (h0 : Pv 0 σ H) (hl : ∀ i σ' H', i ≤ xs.length → Pv i σ' H' → Stab K a H H')
    (hs : ∀ (i : Nat) x T σ H, xs[i]? = some x → Pv i σ H → H T = none → g (.ref T) σ (upd H T (.tup [.int (i : Nat), x])) fun σ2 H2 => tb { D with nx := Pv (i + 1), ct := Pv (i + 1), bk := D.nx } σ2 H2) (hd : ∀ σ H, Pv xs.length σ H → D.nx σ H) :
    ((∃ xs, SqL K H a xs) ∧ ∃ W : Nat → Nat → L2.St → Hp → Prop, (∃ m, W 0 m σ H) ∧ ∀ i m σ H, W i m σ H →
      ((Ite K a).stop i H ∧ D.nx σ H) ∨ ((Ite K a).go i H ∧ ∃ N : L2.St → Hp → Prop, (∀ σ' H', N σ' H' → ∃ m', m' < m ∧ W (i + 1) m' σ' H') ∧ ∀ x H', (Ite K a).yld i H x H' → g x σ H' fun σ2 H2 => tb { D with nx := N, ct := N, bk := D.nx } σ2 H2)) ∨
    ((∃ xs, SqT K H a xs) ∧ ∃ W : Nat → Nat → L2.St → Hp → Prop, (∃ m, W 0 m σ H) ∧ ∀ i m σ H, W i m σ H →
      ((IteT K a).stop i H ∧ D.nx σ H) ∨ ((IteT K a).go i H ∧ ∃ N : L2.St → Hp → Prop, (∀ σ' H', N σ' H' → ∃ m', m' < m ∧ W (i + 1) m' σ' H') ∧ ∀ x H', (IteT K a).yld i H x H' → g x σ H' fun σ2 H2 => tb { D with nx := N, ct := N, bk := D.nx } σ2 H2)) := by
  rcases hS with h | h
  · refine .inl ⟨⟨_, h⟩, fun i m σ H => m = xs.length - i ∧ i ≤ xs.length ∧ Pv i σ H, ⟨xs.length, rfl, Nat.zero_le _, h0⟩, ?_⟩
    rintro i m σ' H' ⟨rfl, hi, p⟩
    have q := (hl i σ' H' hi p).1 _ h
    by_cases hlt : i < xs.length
    · refine .inr ⟨⟨xs, xs[i], q, by simp [hlt]⟩, Pv (i + 1), fun σ' H' p' => ⟨xs.length - (i + 1), by omega, rfl, hlt, p'⟩, fun x H'' y => ?_⟩
      obtain ⟨T, x', rfl, hT, rfl, y⟩ := y
      exact hs i x' T σ' H' (y xs q) p hT
    · have e : i = xs.length := by omega
      subst e
      exact .inl ⟨⟨xs, q, Nat.le_refl _⟩, hd σ' H' p⟩
  · refine .inr ⟨⟨_, h⟩, fun i m σ H => m = xs.length - i ∧ i ≤ xs.length ∧ Pv i σ H, ⟨xs.length, rfl, Nat.zero_le _, h0⟩, ?_⟩
    rintro i m σ' H' ⟨rfl, hi, p⟩
    have q := (hl i σ' H' hi p).2 _ h
    by_cases hlt : i < xs.length
    · refine .inr ⟨⟨xs, xs[i], q, by simp [hlt]⟩, Pv (i + 1), fun σ' H' p' => ⟨xs.length - (i + 1), by omega, rfl, hlt, p'⟩, fun x H'' y => ?_⟩
      obtain ⟨T, x', rfl, hT, rfl, y⟩ := y
      exact hs i x' T σ' H' (y xs q) p hT
    · have e : i = xs.length := by omega
      subst e
      exact .inl ⟨⟨xs, q, Nat.le_refl _⟩, hd σ' H' p⟩
/-- an item of either -/
theorem w_ixA {K K' : PySem.W.Frag} {H : Hp} {Q : VK} {a : Addr} {xs : List V} {i : Int} {v : V} (e : SqA K H a xs) (hv : atI xs i = some v) (h : Q v H) (hk : K' = K := by rfl) : rIx K' (.ref a) (.int i) H Q := by
  subst hk
  rcases e with e | e
  · exact .inl ⟨a, xs, i, v, rfl, rfl, e, hv, h⟩
  · exact .inr (.inl ⟨a, xs, i, v, rfl, rfl, e, hv, h⟩)
/-! ### ways that meet -/
theorem ifJ {σ : L2.St} {H : Hp} {c : Bool} {t u : TS} {D : Ends} (J : L2.St → Hp → Prop)
    (ht : c = true → ∀ (N : L2.St → Hp → Prop) (R : VK) (B C : L2.St → Hp → Prop), (∀ σ' H', J σ' H' → N σ' H') → t (Ends.mk N R B C) σ H)
    (hu : c = false → ∀ (N : L2.St → Hp → Prop) (R : VK) (B C : L2.St → Hp → Prop), (∀ σ' H', J σ' H' → N σ' H') → u (Ends.mk N R B C) σ H)
    (hR : ∀ σ' H', J σ' H' → D.nx σ' H') : if c = true then t D σ H else u D σ H := by
  cases D with
  | mk N R B C =>
    cases c with
    | true => rw [if_pos rfl]; exact ht rfl N R B C hR
    | false => rw [if_neg Bool.false_ne_true]; exact hu rfl N R B C hR
theorem tJ {σ : L2.St} {H : Hp} {t : TT} {R : Bool → Hp → Prop} (J : Bool → Hp → Prop) (ht : ∀ R' : Bool → Hp → Prop, (∀ b H', J b H' → R' b H') → t σ H R') (hR : ∀ b H', J b H' → R b H') : t σ H R := ht R hR
/-! ### rules whose own K is said (under a comprehension's binders) -/
theorem ixL_ {X : Cx} {K : PySem.W.Frag} (h : X.K = K) : IxR X (rIxL K) := h ▸ ix_list
theorem ixT_ {X : Cx} {K : PySem.W.Frag} (h : X.K = K) : IxR X (rIxT K) := h ▸ ix_tup
theorem ixA_ {X : Cx} {K : PySem.W.Frag} (h : X.K = K) : IxR X (rIx K) := h ▸ ix_seq
theorem w_ienumA {K : PySem.W.Frag} {ta : TA} {σ : L2.St} {H : Hp} {R : L2.It → Hp → Prop} (h : ta σ H fun vs H1 => ∃ a, vs = [.ref a] ∧ (((∃ xs, SqL K H1 a xs) ∧ R (Ite K a) H1) ∨ ((∃ xs, SqT K H1 a xs) ∧ R (IteT K a) H1))) : iEnumA K ta σ H R := h
theorem w_iseq {K : PySem.W.Frag} {tl : TE} {σ : L2.St} {H : Hp} {R : L2.It → Hp → Prop} (h : tl σ H fun x H1 => ∃ a, x = .ref a ∧ (((∃ xs, SqL K H1 a xs) ∧ R (Itl K a) H1) ∨ ((∃ xs, SqT K H1 a xs) ∧ R (Itt K a) H1))) : iSeq K tl σ H R := h
theorem w_lmapE {m : Int} {p L : Addr} {n : Nat} {H : Hp} {Q : VK} {E : XK} (hp : PenAt H p L n) (hn : n ≤ 90000000) (h2 : 2 ≤ m) (h9 : m ≤ 1000000000)
    (h : ∀ H' t (f : Mp), But p H H' → PenAt H' p L (n + 6) → Ok m f → H t = none → t ≠ p → H' t = some (.tup [.int f.1, .int f.2]) → Q (.ref t) H') : sp_lmap [.ref p, .int m] H Q E :=
  ⟨p, L, n, m, rfl, hp, hn, h2, h9, fun H' t u b hb pn hu b0 b1 t0 e => h H' t (u, b) hb pn ⟨hu, b0, b1⟩ t0 (pn.ne_t e) e⟩
theorem PenAt.butl {H H' : Hp} {p L W : Addr} {n : Nat} (h : PenAt H p L n) (n1 : W ≠ p) (n2 : W ≠ L) (b : But W H H') : PenAt H' p L n := by
  obtain ⟨cs, t, r, h1, h2, h3⟩ := h
  exact ⟨cs, t, r, b _ _ (Ne.symm n1) h1, b _ _ (Ne.symm n2) h2, h3⟩
theorem eqv_ints (ns : List Int) : PyData.eqv (.list (ns.map PyData.int)) (.list (ns.map PyData.int)) = true :=
  SeqAt.eqv_refl _ (by simp only [PyData.canLay0]; exact lay_ints ns)
end Vg

set_option Elab.async false
set_option linter.all false
set_option maxRecDepth 100000
set_option maxHeartbeats 2000000
namespace Vg
open PySem PySem.Spec PyProof.Rows L2
/-! ### overlaps of segments -/
/-- the first place of l' whose number stands in l -/
def shL (l l' : List Int) : Option Nat := (List.range l'.length).find? fun k => decide (l'.getD k 0 ∈ l)
def ovJ (ls : List (List Int)) (j i : Nat) : Option (Nat × Nat × Nat) := (shL (ls.getD i []) (ls.getD j [])).map fun k => (i, j, k)
/-- the first overlap of lists -/
def ovL (ls : List (List Int)) : Option (Nat × Nat × Nat) := (List.range ls.length).findSome? fun j => (List.range j).findSome? (ovJ ls j)
theorem findSome_snoc {α : Type} (f : Nat → Option α) (n : Nat) : (List.range (n + 1)).findSome? f = ((List.range n).findSome? f).or (f n) := by
  rw [List.range_succ, List.findSome?_append]
  simp
theorem findSome_at {α : Type} {f : Nat → Option α} {j : Nat} {v : α} (hno : (List.range j).findSome? f = none) (h : f j = some v) : ∀ n, j < n → (List.range n).findSome? f = some v := by
  intro n
  induction n with
  | zero => intro z; omega
  | succ n ih =>
    intro hj
    rw [findSome_snoc]
    by_cases c : j < n
    · rw [ih c]; rfl
    · have e : n = j := by omega
      subst e
      rw [hno, h]; rfl
theorem findSome_up {α : Type} {f : Nat → Option α} {j : Nat} (hno : (List.range j).findSome? f = none) (h : f j = none) : (List.range (j + 1)).findSome? f = none := by
  rw [findSome_snoc, hno, h]; rfl
theorem find_some' {p : Nat → Bool} {n k : Nat} (hk : k < n) (h : p k = true) (hno : ∀ j, j < k → p j = false) : (List.range n).find? p = some k := by
  rw [List.find?_range_eq_some]
  exact ⟨h, List.mem_range.mpr hk, fun j hj => by rw [hno j hj]; rfl⟩
theorem find_none' {p : Nat → Bool} {n : Nat} (hno : ∀ j, j < n → p j = false) : (List.range n).find? p = none := by
  rw [List.find?_range_eq_none]
  exact fun j hj => by rw [hno j hj]; rfl
variable {m : Int} {f : Mp} {x y : Int}
theorem cyc_getD {n k : Nat} (h : k < n) : (cyc m f x n).getD k 0 = orb m f x k := by
  rw [List.getD_eq_getElem?_getD, cyc_at h]; rfl
theorem sh_no (hm : 2 ≤ m) (hf : Ok m f) (y0 : 0 ≤ y) (y1 : y < m) (h : ∀ e, orb m f x e ≠ y) (n : Nat) : shL (cyc m f x n) (cyc m f y n) = none := by
  unfold shL
  rw [cyc_len]
  refine find_none' fun k hk => ?_
  rw [cyc_getD hk]
  refine decide_eq_false fun z => ?_
  obtain ⟨i, hi, e⟩ := cyc_mem.mp z
  obtain ⟨N, hN⟩ := per_ex (x := y) hm hf
  have hp := hN.pos
  have back : orb m f y (k + (N * k - k)) = y := by
    have h1 : k ≤ N * k := Nat.le_mul_of_pos_left k hp
    rw [show k + (N * k - k) = N * k by omega]
    have := (per_ret hm hf y0 y1 hN (N * k)).mpr ⟨k, rfl⟩
    exact this
  rw [orb_add hm hf, ← e, ← orb_add hm hf] at back
  exact h _ back
theorem sh_yes (hm : 2 ≤ m) (hf : Ok m f) (x0 : 0 ≤ x) (x1 : x < m) {P kk n : Nat} (hP : Per m f x m P) (hk : kk < P) (hy : orb m f x kk = y) (n1 : 1 ≤ n) :
    shL (cyc m f x n) (cyc m f y n) = if kk < n then some 0 else if P - kk < n then some (P - kk) else none := by
  unfold shL
  rw [cyc_len]
  have py := hP.pos
  have oy : ∀ j, orb m f y j = orb m f x (kk + j) := fun j => by rw [orb_add hm hf, hy]
  have mem : ∀ j, j < n → (decide ((cyc m f y n).getD j 0 ∈ cyc m f x n) = true ↔ ∃ i, i < n ∧ i % P = (kk + j) % P) := fun j hj => by
    rw [cyc_getD hj, decide_eq_true_iff, cyc_mem, oy]
    constructor
    · rintro ⟨i, hi, e⟩
      exact ⟨i, hi, (orb_cgN hm hf hP).mp e⟩
    · rintro ⟨i, hi, e⟩
      exact ⟨i, hi, (orb_cgN hm hf hP).mpr e⟩
  have low : n ≤ kk → ∀ j, j < P - kk → j < n → decide ((cyc m f y n).getD j 0 ∈ cyc m f x n) = false := fun hn j hj hjn => by
    cases hd : decide ((cyc m f y n).getD j 0 ∈ cyc m f x n) with
    | false => rfl
    | true =>
      exfalso
      obtain ⟨i, hi, e⟩ := (mem j hjn).mp hd
      rw [Nat.mod_eq_of_lt (show kk + j < P by omega), Nat.mod_eq_of_lt (show i < P by omega)] at e
      omega
  split
  · next c =>
    refine find_some' (by omega) ((mem 0 (by omega)).mpr ⟨kk, c, rfl⟩) fun j hj => by omega
  · next c =>
    split
    · next c2 =>
      refine find_some' c2 ((mem _ c2).mpr ⟨0, by omega, ?_⟩) fun j hj => low (by omega) j hj (by omega)
      rw [show kk + (P - kk) = P by omega, Nat.mod_self, Nat.zero_mod]
    · next c2 =>
      exact find_none' fun j hj => low (by omega) j (by omega) hj
def optV : Option Nat → V
  | none => .non
  | some k => .int (k : Nat)
def sp_fshared (K : PySem.W.Frag) : Sp := fun vs H Q _ => ∃ (m : Int) (f : Mp) (x y n : Int) (t : Addr), vs = [.int m, .ref t, .int x, .int y, .int n] ∧ TpAt K H t f ∧ 2 ≤ m ∧ m ≤ 1000000000 ∧ Ok m f ∧ Sm m ∧
  0 ≤ x ∧ x < m ∧ 0 ≤ y ∧ y < m ∧ 1 ≤ n ∧ n ≤ 1000000000000000000 ∧ ∀ H', Same H H' → Q (optV (shL (cyc m f x n.toNat) (cyc m f y n.toNat))) H'
variable {K : PySem.W.Frag} {H : Hp} {Q : VK} {E : XK} {t a : Addr}
theorem w_fshared {n : Int} (ht : TpAt K H t f) (hm : 2 ≤ m) (h9 : m ≤ 1000000000) (hf : Ok m f) (hs : Sm m) (x0 : 0 ≤ x) (x1 : x < m) (y0 : 0 ≤ y) (y1 : y < m) (n1 : 1 ≤ n) (n9 : n ≤ 1000000000000000000)
    (h : ∀ H', Same H H' → Q (optV (shL (cyc m f x n.toNat) (cyc m f y n.toNat))) H') : sp_fshared K [.int m, .ref t, .int x, .int y, .int n] H Q E :=
  ⟨m, f, x, y, n, t, rfl, ht, hm, h9, hf, hs, x0, x1, y0, y1, n1, n9, h⟩
/-- what first_overlap returns -/
def OvAt (H : Hp) : Option (Nat × Nat × Nat) → V → Prop
  | none, v => v = .non
  | some (i, j, k), v => ∃ t, v = .ref t ∧ H t = some (.tup [.int (i : Nat), .int (j : Nat), .int (k : Nat)])
def sp_foverlap (K : PySem.W.Frag) : Sp := fun vs H Q _ => ∃ (m : Int) (f : Mp) (xs : List Int) (n : Int) (t a : Addr), vs = [.int m, .ref t, .ref a, .int n] ∧ TpAt K H t f ∧ SqA K H a (xs.map V.int) ∧ 2 ≤ m ∧ m ≤ 1000000000 ∧ Ok m f ∧ Sm m ∧
  (∀ x ∈ xs, 0 ≤ x ∧ x < m) ∧ xs.length ≤ 1000 ∧ 1 ≤ n ∧ n ≤ 1000000000000000000 ∧ ∀ H' v, Same H H' → OvAt H' (ovL (xs.map fun x => cyc m f x n.toNat)) v → Q v H'
theorem w_foverlap {n : Int} {xs : List Int} (ht : TpAt K H t f) (ha : SqA K H a (xs.map V.int)) (hm : 2 ≤ m) (h9 : m ≤ 1000000000) (hf : Ok m f) (hs : Sm m) (hx : ∀ x ∈ xs, 0 ≤ x ∧ x < m) (hl : xs.length ≤ 1000) (n1 : 1 ≤ n) (n9 : n ≤ 1000000000000000000)
    (h : ∀ H' v, Same H H' → OvAt H' (ovL (xs.map fun x => cyc m f x n.toNat)) v → Q v H') : sp_foverlap K [.int m, .ref t, .ref a, .int n] H Q E :=
  ⟨m, f, xs, n, t, a, rfl, ht, ha, hm, h9, hf, hs, hx, hl, n1, n9, h⟩
theorem atI_map {xs : List Int} {i : Nat} (h : i < xs.length) : atI (xs.map V.int) (i : Int) = some (.int xs[i]) := atI_nat (by rw [List.getElem?_map, List.getElem?_eq_getElem h]; rfl)
theorem map_getD {g : Int → List Int} {xs : List Int} {i : Nat} (h : i < xs.length) : (xs.map g).getD i [] = g xs[i] := by
  rw [List.getD_eq_getElem?_getD, List.getElem?_map, List.getElem?_eq_getElem h]; rfl
theorem rp_non' {K : PySem.W.Frag} {H : Hp} : Rp K H .non .none := rp_non
/-- the data of an overlap -/
def ovD : Option (Nat × Nat × Nat) → PyData
  | none => .none
  | some (i, j, k) => .tuple [.int (i : Nat), .int (j : Nat), .int (k : Nat)]
theorem OvAt.dp {o : Option (Nat × Nat × Nat)} {v : V} (h : OvAt H o v) : Dp K H v (ovD o) := by
  match o, h with
  | none, h => cases h; exact .non
  | some (i, j, k), h =>
    obtain ⟨t, rfl, e⟩ := h
    exact Dp.tup (SqT.of e) (.cons (.int _) (.cons (.int _) (.cons (.int _) .nil)))
theorem OvAt.same {H' : Hp} {o : Option (Nat × Nat × Nat)} {v : V} (h : OvAt H o v) (s : Same H H') : OvAt H' o v := by
  match o, h with
  | none, h => exact h
  | some (i, j, k), h =>
    obtain ⟨t, rfl, e⟩ := h
    exact ⟨t, rfl, s _ _ e⟩
/-! ### lists made of a list's items; tables of numbers -/
theorem lc_lstS {K : PySem.W.Frag} {a : Addr} {xs : List V} {j : Nat} {te : TE} {vs : List Nat} {σ : L2.St} {H0 : Hp} {D : Addr} {Qd : Hp → Prop} (Pr : Nat → V → Hp → Prop)
    (ha : SqL K H0 a xs) (hD : H0 D = none) (st : ∀ i v H H', But D H H' → Pr i v H → Pr i v H') (hn : xs.length ≤ 100000) (hw : ∀ v, wipe ((wipe σ vs).set j (some v)) vs = wipe σ vs)
    (hs : ∀ i x H' acc (R : VK), xs[i]? = some x → Same H0 H' → H' D = some (.lst acc) → (∀ y H4, Same H' H4 → Pr i y H4 → R y H4) → te ((wipe σ vs).set j (some x)) H' R)
    (hd : ∀ H' done, Same H0 H' → H' D = some (.lst done) → done.length = xs.length → (∀ i v, done[i]? = some v → Pr i v H') → Qd H') :
    ∃ W : Nat → Nat → Hp → Prop, (∃ m, W 0 m (upd H0 D (.lst []))) ∧ ∀ i m H, W i m H →
      ((Itl K a).stop i H ∧ Qd H) ∨ ((Itl K a).go i H ∧ ∃ Nx : Hp → Prop, (∀ H', Nx H' → ∃ m', m' < m ∧ W (i + 1) m' H') ∧ ∀ x H', (Itl K a).yld i H x H' → gName j x (wipe σ vs) H' fun σ2 H2 => wipe σ2 vs = wipe σ vs ∧ tYes σ2 H2 fun b H3 =>
        if b = true then te σ2 H3 fun y H4 => ∃ acc, H4 D = some (.lst acc) ∧ acc.length < sizeLine ∧ Nx (upd H4 D (.lst (acc ++ [y]))) else Nx H3) := by
  refine lc_list (K := K) (a := a) (xs := xs) (fun i H' => ∃ done : List V, Same H0 H' ∧ H' D = some (.lst done) ∧ done.length = i ∧ ∀ r v, done[r]? = some v → Pr r v H') ?_ ?_ ?_ ?_
  · exact ⟨[], sm_new hD, upd_same, rfl, by simp⟩
  · rintro i H' _ ⟨done, sm, _⟩
    exact sm.seq ha
  · rintro i x H' hi ⟨done, sm, eD, hl, hp⟩
    have hil := (List.getElem?_eq_some_iff.mp hi).1
    refine ⟨hw _, ?_⟩
    refine w_yes ?_
    rw [if_pos rfl]
    refine hs i x H' done _ hi sm eD fun y H4 s4 py => ?_
    refine ⟨done, s4 _ _ eD, Nat.lt_of_lt_of_le (show done.length < 100001 by omega) (by decide), done ++ [y], sm_own (sm.trans s4) hD, upd_same, by rw [List.length_append, List.length_singleton, hl], ?_⟩
    intro r v hr
    have hb : But D H4 (upd H4 D (.lst (done ++ [y]))) := But.at_
    rcases Nat.lt_or_ge r done.length with l | l
    · rw [List.getElem?_append_left l] at hr
      exact st _ _ _ _ (But.trans (But.of s4) hb) (hp r v hr)
    · rw [List.getElem?_append_right l] at hr
      rcases Nat.eq_zero_or_pos (r - done.length) with z | z
      · rw [z] at hr
        cases hr
        have : r = i := by omega
        subst this
        exact st _ _ _ _ hb py
      · rw [List.getElem?_eq_none (by simp; omega)] at hr
        cases hr
  · rintro H' ⟨done, sm, eD, hl, hp⟩
    exact hd H' done sm eD hl hp
/-- the keys with True -/
def tabK (ns : List Int) : List (Key × V) := ns.map fun z => (Sum.inl z, V.bl true)
theorem paired_tab : ∀ (ns : List Int) (done : List V), done.length = ns.length → (∀ (i : Nat) (v : V), done[i]? = some v → ∃ (q : Addr) (z : Int), v = V.ref q ∧ ns[i]? = some z ∧ SqT K H q [.int z, .bl true]) →
    ∃ ps : List Addr, done = ps.map V.ref ∧ Paired (fun p (kv : Key × V) => SqT K H p [kV kv.1, kv.2]) ps (tabK ns)
  | [], [], _, _ => ⟨[], rfl, .nil⟩
  | n :: ns, v :: done, hl, h => by
    obtain ⟨ps, e, hp⟩ := paired_tab ns done (by simpa using hl) (fun i v hv => h (i + 1) v hv)
    obtain ⟨q, z, rfl, hz, hq⟩ := h 0 v rfl
    cases hz
    exact ⟨q :: ps, by rw [e]; rfl, .cons hq hp⟩
theorem merge_tab (z : Int) : ∀ (ns : List Int) (kvs : List (Key × V)), (valV (mergeK kvs (tabK ns)) (Sum.inl z)).isSome = ((valV kvs (Sum.inl z)).isSome || decide (z ∈ ns))
  | [], kvs => by show (valV kvs _).isSome = _; simp
  | n :: ns, kvs => by
    show (valV (mergeK (putK kvs (Sum.inl n) (V.bl true)) (tabK ns)) (Sum.inl z)).isSome = _
    rw [merge_tab z ns, valV_put]
    by_cases c : z = n
    · subst c; simp
    · have : ¬ ((Sum.inl z : Key) = Sum.inl n) := fun e => c (Sum.inl.inj e)
      rw [if_neg this]
      simp [c]
theorem merge_tab0 (z : Int) (ns : List Int) : (valV (mergeK [] (tabK ns)) (Sum.inl z)).isSome = decide (z ∈ ns) := by
  rw [merge_tab z ns]; rfl
/-- rows: lists of numbers -/
def RowsAt (H : Hp) (rs : List Addr) (ls : List (List Int)) : Prop := rs.length = ls.length ∧ ∀ (i : Nat) (r : Addr), rs[i]? = some r → ∃ l : List Int, ls[i]? = some l ∧ H r = some (.lst (l.map V.int))
theorem RowsAt.same {H' : Hp} {rs : List Addr} {ls : List (List Int)} (h : RowsAt H rs ls) (s : Same H H') : RowsAt H' rs ls :=
  ⟨h.1, fun i r hr => let ⟨l, a, b⟩ := h.2 i r hr; ⟨l, a, s _ _ b⟩⟩
theorem RowsAt.get {rs : List Addr} {ls : List (List Int)} (h : RowsAt H rs ls) {i : Nat} (hi : i < ls.length) : ∃ r, atI (rs.map V.ref) (i : Int) = some (.ref r) ∧ H r = some (.lst ((ls.getD i []).map V.int)) := by
  have hr : i < rs.length := by rw [h.1]; exact hi
  obtain ⟨l, a, b⟩ := h.2 i rs[i] (List.getElem?_eq_getElem hr)
  refine ⟨rs[i], atI_nat (by rw [List.getElem?_map, List.getElem?_eq_getElem hr]; rfl), ?_⟩
  rw [List.getD_eq_getElem?_getD, a]; exact b
def TabsAt (H : Hp) (ts : List Addr) (ls : List (List Int)) : Prop := ∀ (i : Nat) (q : Addr), ts[i]? = some q → ∃ kvs, H q = some (.dK kvs) ∧ ∀ z, (valV kvs (Sum.inl z)).isSome = decide (z ∈ ls.getD i [])
theorem TabsAt.but {H' : Hp} {T : Addr} {ts : List Addr} {ls : List (List Int)} {xs : List V} (h : TabsAt H ts ls) (hT : H T = some (.lst xs)) (s : But T H H') : TabsAt H' ts ls := fun i q hq => by
  obtain ⟨kvs, a, b⟩ := h i q hq
  exact ⟨kvs, s _ _ (fun z => by rw [z, hT] at a; cases a) a, b⟩
theorem TabsAt.same {H' : Hp} {ts : List Addr} {ls : List (List Int)} (h : TabsAt H ts ls) (s : Same H H') : TabsAt H' ts ls := fun i q hq => by
  obtain ⟨kvs, a, b⟩ := h i q hq
  exact ⟨kvs, s _ _ a, b⟩
def sp_lfound : Sp := fun vs H Q _ => ∃ (R : Addr) (rs : List Addr) (ls : List (List Int)), vs = [.ref R] ∧ H R = some (.lst (rs.map V.ref)) ∧ RowsAt H rs ls ∧ ls.length ≤ 1000 ∧ (∀ l ∈ ls, l.length ≤ 100000) ∧
  ∀ H' v, Same H H' → OvAt H' (ovL ls) v → Q v H'
theorem w_lfound {R : Addr} {rs : List Addr} {ls : List (List Int)} (hR : H R = some (.lst (rs.map V.ref))) (hr : RowsAt H rs ls) (hl : ls.length ≤ 1000) (hll : ∀ l ∈ ls, l.length ≤ 100000)
    (h : ∀ H' v, Same H H' → OvAt H' (ovL ls) v → Q v H') : sp_lfound [.ref R] H Q E := ⟨R, rs, ls, rfl, hR, hr, hl, hll, h⟩
theorem sh_filter (l l' : List Int) : shL l l' = ((List.range l'.length).filter fun k => decide (l'.getD k 0 ∈ l)).head? := by
  unfold shL; rw [List.head?_filter]
theorem filter_up (p : Nat → Bool) (k : Nat) : (List.range (k + 1)).filter p = (List.range k).filter p ++ (if p k = true then [k] else []) := by
  rw [List.range_succ, List.filter_append]
  cases h : p k <;> simp [List.filter_cons, h]
theorem getD_at {l : List Int} {k : Nat} (h : k < l.length) : atI (l.map V.int) (k : Int) = some (.int (l.getD k 0)) := by
  refine atI_nat ?_
  rw [List.getElem?_map, List.getElem?_eq_getElem h, List.getD_eq_getElem?_getD, List.getElem?_eq_getElem h]; rfl
theorem ov_bd {ls : List (List Int)} {i j k : Nat} (h : ovL ls = some (i, j, k)) : j < ls.length ∧ i < j ∧ k < (ls.getD j []).length := by
  unfold ovL at h
  obtain ⟨j', hj', h1⟩ := List.exists_of_findSome?_eq_some h
  obtain ⟨i', hi', h2⟩ := List.exists_of_findSome?_eq_some h1
  unfold ovJ at h2
  cases hs : shL (ls.getD i' []) (ls.getD j' []) with
  | none => rw [hs] at h2; cases h2
  | some k' =>
    rw [hs] at h2
    cases h2
    unfold shL at hs
    have := List.mem_range.mp (List.mem_of_find?_eq_some hs)
    exact ⟨List.mem_range.mp hj', List.mem_range.mp hi', this⟩
theorem OvAt.rp {ls : List (List Int)} {v : V} (h : OvAt H (ovL ls) v) (hl : ls.length ≤ 1000) (hll : ∀ l ∈ ls, l.length ≤ 100000000000) : Rp K H v (ovD (ovL ls)) := by
  cases ho : ovL ls with
  | none => rw [ho] at h; cases h; exact rp_non
  | some q =>
    obtain ⟨i, j, k⟩ := q
    obtain ⟨h1, h2, h3⟩ := ov_bd ho
    rw [ho] at h
    obtain ⟨t, rfl, e⟩ := h
    have h4 : (ls.getD j []).length ≤ 100000000000 := by
      rw [List.getD_eq_getElem?_getD, List.getElem?_eq_getElem h1]
      exact hll _ (List.getElem_mem h1)
    exact (it_tup e (.cons (it_int (by omega)) (.cons (it_int (by omega)) (.cons (it_int (by omega)) .nil)))).rp (by decide) (by decide)
theorem RowsAt.but {H' : Hp} {R : Addr} {rs : List Addr} {ls : List (List Int)} (h : RowsAt H rs ls) (hn : ∀ r ∈ rs, r ≠ R) (s : But R H H') : RowsAt H' rs ls :=
  ⟨h.1, fun i r hr => let ⟨l, a, b⟩ := h.2 i r hr; ⟨l, a, s _ _ (hn r (List.mem_of_getElem? hr)) b⟩⟩
theorem RowsAt.snoc {rs : List Addr} {ls : List (List Int)} {r : Addr} {l : List Int} (h : RowsAt H rs ls) (hr : H r = some (.lst (l.map V.int))) : RowsAt H (rs ++ [r]) (ls ++ [l]) := by
  refine ⟨by rw [List.length_append, List.length_append, h.1]; rfl, fun i q hq => ?_⟩
  rcases Nat.lt_or_ge i rs.length with c | c
  · rw [List.getElem?_append_left c] at hq
    obtain ⟨l', a, b⟩ := h.2 i q hq
    exact ⟨l', by rw [List.getElem?_append_left (by rw [← h.1]; exact c)]; exact a, b⟩
  · rw [List.getElem?_append_right c] at hq
    rcases Nat.eq_zero_or_pos (i - rs.length) with z | z
    · rw [z] at hq
      cases hq
      exact ⟨l, by rw [List.getElem?_append_right (by rw [← h.1]; exact c), ← h.1, z]; rfl, hr⟩
    · rw [List.getElem?_eq_none (by simp; omega)] at hq
      cases hq
theorem take_up {α : Type} {xs : List α} {j : Nat} (h : j < xs.length) : xs.take (j + 1) = xs.take j ++ [xs[j]] := by
  rw [List.take_succ, List.getElem?_eq_getElem h, Option.toList_some]
theorem ints_of {m : Int} : ∀ st : List V, (∀ v ∈ st, ∃ y, v = V.int y ∧ 0 ≤ y ∧ y < m) → ∃ xs : List Int, st = xs.map V.int ∧ ∀ x ∈ xs, 0 ≤ x ∧ x < m
  | [], _ => ⟨[], rfl, fun _ h => by cases h⟩
  | v :: st, h => by
    obtain ⟨xs, e, hx⟩ := ints_of st (fun v hv => h v (List.mem_cons_of_mem _ hv))
    obtain ⟨y, rfl, hy⟩ := h v (List.mem_cons_self ..)
    refine ⟨y :: xs, by rw [e]; rfl, fun x hx' => ?_⟩
    rcases List.mem_cons.mp hx' with z | z
    · rw [z]; exact hy
    · exact hx x z
end Vg

set_option Elab.async false
set_option linter.all false
set_option maxRecDepth 100000
set_option maxHeartbeats 2000000
namespace Vg
open PySem PySem.Spec PyProof.Rows L2
/-! ### overlaps of segments of large moduli -/
theorem find_cong {p q : Nat → Bool} : ∀ {l : List Nat}, (∀ k ∈ l, p k = q k) → l.find? p = l.find? q
  | [], _ => rfl
  | a :: l, h => by
    rw [List.find?_cons, List.find?_cons, h a (List.mem_cons_self ..), find_cong (l := l) fun k hk => h k (List.mem_cons_of_mem _ hk)]
theorem findSome_cong {α : Type} {p q : Nat → Option α} : ∀ {l : List Nat}, (∀ k ∈ l, p k = q k) → l.findSome? p = l.findSome? q
  | [], _ => rfl
  | a :: l, h => by
    rw [List.findSome?_cons, List.findSome?_cons, h a (List.mem_cons_self ..), findSome_cong (l := l) fun k hk => h k (List.mem_cons_of_mem _ hk)]
theorem shL_map {g : Int → Int} {B : Int → Prop} {l l' : List Int} (inj : ∀ a b, B a → B b → g a = g b → a = b) (hl : ∀ a ∈ l, B a) (hl' : ∀ a ∈ l', B a) : shL (l.map g) (l'.map g) = shL l l' := by
  unfold shL
  rw [List.length_map]
  refine find_cong fun k hk => ?_
  have hk' := List.mem_range.mp hk
  rw [List.getD_eq_getElem?_getD, List.getD_eq_getElem?_getD, List.getElem?_map, List.getElem?_eq_getElem hk']
  show decide (g l'[k] ∈ l.map g) = decide (l'[k] ∈ l)
  refine decide_eq_decide.mpr ⟨fun h => ?_, fun h => List.mem_map_of_mem h⟩
  obtain ⟨a, ha, e⟩ := List.mem_map.mp h
  rw [← inj a _ (hl a ha) (hl' _ (List.getElem_mem hk')) e]
  exact ha
theorem ovL_cong {ls ls' : List (List Int)} (hl : ls.length = ls'.length) (h : ∀ i j, i < j → j < ls.length → shL (ls.getD i []) (ls.getD j []) = shL (ls'.getD i []) (ls'.getD j [])) : ovL ls = ovL ls' := by
  unfold ovL
  rw [← hl]
  refine findSome_cong fun j hj => findSome_cong fun i hi => ?_
  unfold ovJ
  rw [h i j (List.mem_range.mp hi) (List.mem_range.mp hj)]
theorem ov_sh {ls : List (List Int)} {i j k : Nat} (h : ovL ls = some (i, j, k)) : j < ls.length ∧ i < j ∧ shL (ls.getD i []) (ls.getD j []) = some k := by
  unfold ovL at h
  obtain ⟨j', hj', h1⟩ := List.exists_of_findSome?_eq_some h
  obtain ⟨i', hi', h2⟩ := List.exists_of_findSome?_eq_some h1
  unfold ovJ at h2
  cases hs : shL (ls.getD i' []) (ls.getD j' []) with
  | none => rw [hs] at h2; cases h2
  | some k' =>
    rw [hs] at h2
    cases h2
    exact ⟨List.mem_range.mp hj', List.mem_range.mp hi', hs⟩
theorem sh_some {l l' : List Int} {k : Nat} (h : shL l l' = some k) : k < l'.length ∧ l'.getD k 0 ∈ l ∧ ∀ k', k' < k → l'.getD k' 0 ∉ l := by
  unfold shL at h
  rw [List.find?_range_eq_some] at h
  obtain ⟨h1, h2, h3⟩ := h
  refine ⟨List.mem_range.mp h2, of_decide_eq_true h1, fun k' hk' z => ?_⟩
  have := h3 k' hk'
  rw [decide_eq_true z] at this
  cases this
variable {m : Int} {f : Mp} {x y : Int}
theorem cyc_shift (hm : 2 ≤ m) (hf : Ok m f) (n late : Nat) : cyc m f (orb m f x late) n = (cyc m f x n).map fun y => orb m f y late := by
  unfold cyc
  rw [List.map_map]
  refine List.map_congr_left fun i _ => ?_
  show orb m f (orb m f x late) i = orb m f (orb m f x i) late
  rw [← orb_add hm hf, ← orb_add hm hf, Nat.add_comm]
theorem orb_inj (hm : 2 ≤ m) (hf : Ok m f) (late : Nat) {a b : Int} (ha : 0 ≤ a ∧ a < m) (hb : 0 ≤ b ∧ b < m) (e : orb m f a late = orb m f b late) : a = b :=
  img_inj' hm (npw_ok hm hf late) ha.1 ha.2 hb.1 hb.2 e
theorem cyc_bd (hm : 2 ≤ m) {n : Nat} : ∀ a ∈ cyc m f x n, 0 ≤ a ∧ a < m := fun a ha => by
  obtain ⟨i, _, rfl⟩ := cyc_mem.mp ha
  exact orb_bd hm i
theorem ov_shift (hm : 2 ≤ m) (hf : Ok m f) (n late : Nat) (xs : List Int) : ovL ((xs.map fun x => orb m f x late).map fun x => cyc m f x n) = ovL (xs.map fun x => cyc m f x n) := by
  refine ovL_cong (by simp) fun i j hij hj => ?_
  rw [List.length_map, List.length_map] at hj
  have hi : i < xs.length := by omega
  have g1 : ∀ r (hr : r < xs.length), ((xs.map fun x => orb m f x late).map fun x => cyc m f x n).getD r [] = (cyc m f xs[r] n).map fun y => orb m f y late := fun r hr => by
    rw [List.getD_eq_getElem?_getD, List.getElem?_map, List.getElem?_map, List.getElem?_eq_getElem hr]
    exact cyc_shift hm hf n late
  rw [g1 i hi, g1 j hj, map_getD hi, map_getD hj]
  exact shL_map (B := fun a => 0 ≤ a ∧ a < m) (fun a b ha hb e => orb_inj hm hf late ha hb e) (cyc_bd hm) (cyc_bd hm)
/-- the law's own rule by places -/
def plS (P n : Nat) (a b : Int) : Option Nat := if ((b - a) % (P : Int)).toNat < n then some 0 else if P - ((b - a) % (P : Int)).toNat < n then some (P - ((b - a) % (P : Int)).toNat) else none
theorem pl_sh (hm : 2 ≤ m) (hf : Ok m f) (x0 : 0 ≤ x) (x1 : x < m) {P n : Nat} (hP : Per m f x m P) {a b : Int} (a0 : 0 ≤ a) (b0 : 0 ≤ b) (n1 : 1 ≤ n) :
    shL (cyc m f (orb m f x a.toNat) n) (cyc m f (orb m f x b.toNat) n) = plS P n a b := by
  have py := hP.pos
  have p0 := Int.emod_nonneg (b - a) (show (P : Int) ≠ 0 by omega)
  have p1 := Int.emod_lt_of_pos (b - a) (show 0 < (P : Int) by omega)
  have ob := orb_bd (m := m) (f := f) (x := x) hm a.toNat
  have hP' : Per m f (orb m f x a.toNat) m P := per_orb hm hf x0 x1 hP _
  have e : orb m f (orb m f x a.toNat) ((b - a) % (P : Int)).toNat = orb m f x b.toNat := by
    rw [← orb_add hm hf]
    refine (orb_cgN hm hf hP).mpr ?_
    have h1 : (((a.toNat + ((b - a) % (P : Int)).toNat : Nat) : Int)) % (P : Int) = (b.toNat : Int) % (P : Int) := by
      rw [Int.natCast_add, Int.toNat_of_nonneg a0, Int.toNat_of_nonneg p0, Int.toNat_of_nonneg b0, Int.add_emod_emod, show a + (b - a) = b by omega]
    exact_mod_cast h1
  exact sh_yes hm hf ob.1 ob.2 hP' (by omega) e n1
def sp_lplaces : Sp := fun vs H Q _ => ∃ (a : Addr) (ps : List Int) (many : Int) (P : Nat) (ls : List (List Int)), vs = [.ref a, .int many, .int P] ∧ H a = some (.lst (ps.map V.int)) ∧ ps.length ≤ 1000 ∧ 0 < P ∧ P ≤ 1000000000 ∧ 1 ≤ many ∧
  ls.length = ps.length ∧ (∀ i j, i < j → j < ps.length → shL (ls.getD i []) (ls.getD j []) = plS P many.toNat (ps.getD i 0) (ps.getD j 0)) ∧
  ∀ H' v, Same H H' → OvAt H' (ovL ls) v → Q v H'
theorem w_lplaces {H : Hp} {Q : VK} {E : XK} {a : Addr} {ps : List Int} {many : Int} {P : Nat} {ls : List (List Int)} (ha : H a = some (.lst (ps.map V.int))) (hl : ps.length ≤ 1000) (p0 : 0 < P) (p9 : P ≤ 1000000000) (n1 : 1 ≤ many) (hls : ls.length = ps.length)
    (hs : ∀ i j, i < j → j < ps.length → shL (ls.getD i []) (ls.getD j []) = plS P many.toNat (ps.getD i 0) (ps.getD j 0)) (h : ∀ H' v, Same H H' → OvAt H' (ovL ls) v → Q v H') :
    sp_lplaces [.ref a, .int many, .int P] H Q E := ⟨a, ps, many, P, ls, rfl, ha, hl, p0, p9, n1, hls, hs, h⟩
theorem pl_le {P n : Nat} {a b : Int} {k : Nat} (h : plS P n a b = some k) : k ≤ P := by
  unfold plS at h
  split at h
  · cases h; omega
  · split at h
    · cases h; omega
    · cases h
theorem OvAt.rpB {K : PySem.W.Frag} {H : Hp} {ls : List (List Int)} {v : V} (h : OvAt H (ovL ls) v) (hl : ls.length ≤ 1000) (hk : ∀ i j k, ovL ls = some (i, j, k) → k ≤ 1000000000) : Rp K H v (ovD (ovL ls)) := by
  cases ho : ovL ls with
  | none => rw [ho] at h; cases h; exact rp_non
  | some q =>
    obtain ⟨i, j, k⟩ := q
    obtain ⟨h1, h2, h3⟩ := ov_bd ho
    have h4 := hk i j k ho
    rw [ho] at h
    obtain ⟨t, rfl, e⟩ := h
    exact (it_tup e (.cons (it_int (by omega)) (.cons (it_int (by omega)) (.cons (it_int (by omega)) .nil)))).rp (by decide) (by decide)
theorem done_map {done : List V} {ps : List Int} {g : Int → Int} (hl : done.length = (ps.map V.int).length) (h : ∀ (i : Nat) (v : V), done[i]? = some v → v = V.int (g (ps.getD i 0))) : done = (ps.map g).map V.int := by
  rw [List.length_map] at hl
  refine List.ext_getElem? fun i => ?_
  rcases Nat.lt_or_ge i ps.length with c | c
  · have hi : i < done.length := by omega
    rw [List.getElem?_eq_getElem hi, h i _ (List.getElem?_eq_getElem hi), List.getElem?_map, List.getElem?_map, List.getElem?_eq_getElem c, List.getD_eq_getElem?_getD, List.getElem?_eq_getElem c]
    rfl
  · rw [List.getElem?_eq_none (by omega), List.getElem?_eq_none (by rw [List.length_map, List.length_map]; exact c)]
theorem dvd_b {a b : Int} (ha : 0 ≤ a) (hb : 1 ≤ b) : 0 ≤ a / b ∧ a / b ≤ a := ⟨Int.ediv_nonneg ha (by omega), Int.ediv_le_self _ ha⟩
theorem pick5' {v a b c d e : V} {Q : Prop} (h : v ∈ [a, b, c, d, e]) (h1 : v = a → Q) (h2 : v = b → Q) (h3 : v = c → Q) (h4 : v = d → Q) (h5 : v = e → Q) : Q := by
  simp only [List.mem_cons, List.mem_nil_iff, or_false] at h
  rcases h with h | h | h | h | h
  · exact h1 h
  · exact h2 h
  · exact h3 h
  · exact h4 h
  · exact h5 h
theorem cut_take4 (ns : List Int) : cutV (ns.map V.int) none (some 4) = (ns.take 4).map V.int := by
  unfold cutV HT.sIx
  simp [List.map_take]
theorem OvAt.bp {H H' : Hp} {p L : Addr} {n : Nat} {o : Option (Nat × Nat × Nat)} {v : V} (h : OvAt H o v) (pn : PenAt H p L n) (b : But p H H') : OvAt H' o v := by
  match o, h with
  | none, h => exact h
  | some (i, j, k), h =>
    obtain ⟨t, rfl, e⟩ := h
    exact ⟨t, rfl, b _ _ (pn.ne_t e) e⟩
theorem ovD_lay (o : Option (Nat × Nat × Nat)) : (ovD o).canLay0 = true := by
  match o with
  | none => simp [ovD, PyData.canLay0]
  | some (i, j, k) => simp [ovD, PyData.canLay0, PyData.canLayAll0]
theorem ovD_shaped (o : Option (Nat × Nat × Nat)) : SeqAt.shaped (ovD o) = true := by
  unfold SeqAt.shaped
  rw [ovD_lay]
  match o with
  | none => simp [ovD, PyData.depth]
  | some (i, j, k) => simp [ovD, PyData.depth, PyData.depthAll]
theorem ovD_eqv (o : Option (Nat × Nat × Nat)) : PyData.eqv (ovD o) (ovD o) = true := SeqAt.eqv_refl _ (ovD_lay o)
/-- the place before a shared number -/
theorem orb_pred (hm : 2 ≤ m) (hf : Ok m f) (x0 : 0 ≤ x) (x1 : x < m) {z : Int} {N e k : Nat} (hN : Per m f x m N) (he : orb m f x e = orb m f z (k + 1)) : orb m f z k = orb m f x (e + N - 1) := by
  have np := hN.pos
  have h1 : orb m f x (e + N - 1 + 1) = orb m f x e := by
    rw [show e + N - 1 + 1 = e + N by omega]
    exact (orb_cgN hm hf hN).mpr (by simp)
  rw [he, orb_succ, orb_succ] at h1
  exact (img_inj' hm hf (orb_bd hm _).1 (orb_bd hm _).2 (orb_bd hm _).1 (orb_bd hm _).2 h1).symm
end Vg

set_option Elab.async false
set_option linter.all false
set_option maxRecDepth 100000
set_option maxHeartbeats 2000000
namespace Vg
open PySem PySem.Spec PyProof.Rows L2
/-! ### units counted by terms (sign, first, gap) -/
structure Tm where
  s : Int
  f : Int
  g : Int
def Tm.ok (t : Tm) : Prop := 0 ≤ t.f ∧ t.f < t.g
/-- what a term says of a number -/
def Tm.v (t : Tm) (x : Int) : Int := if x % t.g = t.f then t.s else 0
/-- how many numbers below b it counts -/
def Tm.b (t : Tm) (b : Int) : Int := t.s * ((b - t.f + t.g - 1) / t.g)
def sv : List Tm → Int → Int
  | [], _ => 0
  | t :: r, x => t.v x + sv r x
def sb : List Tm → Int → Int
  | [], _ => 0
  | t :: r, b => t.b b + sb r b
theorem sv_app (x : Int) : ∀ a b : List Tm, sv (a ++ b) x = sv a x + sv b x
  | [], b => by simp [sv]
  | t :: r, b => by show t.v x + sv (r ++ b) x = t.v x + sv r x + sv b x; rw [sv_app x r b]; omega
theorem Tm.b_zero {t : Tm} (h : t.ok) : t.b 0 = 0 := by
  unfold Tm.b
  have h1 := h.1
  have h2 := h.2
  rw [Int.ediv_eq_zero_of_lt (by omega) (by omega), Int.mul_zero]
theorem Tm.b_succ {t : Tm} (h : t.ok) (b : Int) : t.b (b + 1) = t.b b + t.v b := by
  unfold Tm.b Tm.v
  have h1 := h.1
  have h2 := h.2
  generalize t.f = f at *
  generalize t.g = g at *
  -- b = g * k + r
  have e := Int.emod_add_mul_ediv b g
  have r0 := Int.emod_nonneg b (show g ≠ 0 by omega)
  have r1 := Int.emod_lt_of_pos b (show 0 < g by omega)
  generalize b / g = k at e
  generalize b % g = r at e r0 r1
  have d : ∀ z, 0 ≤ z → z < g → (g * k + z) / g = k := fun z z0 z1 => by
    rw [Int.add_comm, Int.add_mul_ediv_left _ _ (by omega), Int.ediv_eq_zero_of_lt z0 z1, Int.zero_add]
  have d' : ∀ z, g ≤ z → z < 2 * g → (g * k + z) / g = k + 1 := fun z z0 z1 => by
    have e2 : g * k + z = g * (k + 1) + (z - g) := by rw [Int.mul_add]; omega
    rw [e2, Int.add_comm, Int.add_mul_ediv_left _ _ (by omega), Int.ediv_eq_zero_of_lt (by omega) (by omega), Int.zero_add]
  have e1 : b - f + g - 1 = g * k + (r - f + g - 1) := by omega
  have e2 : b + 1 - f + g - 1 = g * k + (r - f + g) := by omega
  rw [e1, e2]
  rcases Int.lt_trichotomy r f with l | l | l
  · rw [if_neg (by omega), d _ (by omega) (by omega), d _ (by omega) (by omega)]; omega
  · rw [if_pos l, d' _ (by omega) (by omega), d _ (by omega) (by omega), Int.mul_add]; omega
  · rw [if_neg (by omega), d' _ (by omega) (by omega), d' _ (by omega) (by omega)]; omega
theorem sb_zero : ∀ ts : List Tm, (∀ t ∈ ts, t.ok) → sb ts 0 = 0
  | [], _ => rfl
  | t :: r, h => by
    show t.b 0 + sb r 0 = 0
    rw [Tm.b_zero (h t (List.mem_cons_self ..)), sb_zero r fun z hz => h z (List.mem_cons_of_mem _ hz)]
    rfl
theorem sb_succ (b : Int) : ∀ ts : List Tm, (∀ t ∈ ts, t.ok) → sb ts (b + 1) = sb ts b + sv ts b
  | [], _ => rfl
  | t :: r, h => by
    show t.b (b + 1) + sb r (b + 1) = t.b b + sb r b + (t.v b + sv r b)
    rw [Tm.b_succ (h t (List.mem_cons_self ..)), sb_succ b r fun z hz => h z (List.mem_cons_of_mem _ hz)]
    omega
/-- the numbers that the terms describe -/
structure Desc (ts : List Tm) (U : Nat → Bool) : Prop where
  ok : ∀ t ∈ ts, t.ok
  v : ∀ x : Nat, sv ts (x : Int) = if U x = true then 1 else 0
theorem Desc.count {ts : List Tm} {U : Nat → Bool} (h : Desc ts U) : ∀ b : Nat, sb ts (b : Int) = (((List.range b).filter U).length : Int)
  | 0 => by simpa using sb_zero ts h.ok
  | b + 1 => by
    have e := sb_succ (b : Int) ts h.ok
    rw [h.count b, h.v b] at e
    rw [List.range_succ, List.filter_append, List.length_append, List.filter_cons]
    have e2 : ((b + 1 : Nat) : Int) = (b : Int) + 1 := by omega
    rw [e2, e]
    by_cases c : U b = true
    · rw [if_pos c, if_pos c]; simp
    · rw [if_neg c, if_neg c]; simp
/-- a prime's multiples taken off -/
theorem Desc.off {ts us : List Tm} {U : Nat → Bool} {p : Int} (h : Desc ts U) (hok : ∀ t ∈ us, t.ok)
    (hv : ∀ x : Nat, sv us (x : Int) = if p ∣ (x : Int) then - sv ts (x : Int) else 0) : Desc (ts ++ us) (fun x => U x && decide (¬ p ∣ (x : Int))) := by
  refine ⟨fun t ht => (List.mem_append.mp ht).elim (h.ok t) (hok t), fun x => ?_⟩
  rw [sv_app, hv, h.v]
  by_cases c : p ∣ (x : Int)
  · rw [if_pos c]
    simp [c]
    split <;> omega
  · rw [if_neg c]
    simp [c]
/-- how the terms of the multiples stand to the terms -/
theorem off_v {p : Int} : ∀ (ts us : List Tm), ts.length = us.length → (∀ (i : Nat) (t u : Tm), ts[i]? = some t → us[i]? = some u → u.s = - t.s ∧ ∀ x : Int, (x % u.g = u.f ↔ (x % t.g = t.f ∧ p ∣ x))) →
    ∀ x : Nat, sv us (x : Int) = if p ∣ (x : Int) then - sv ts (x : Int) else 0
  | [], [], _, _, x => by simp [sv]
  | t :: ts, u :: us, hl, h, x => by
    obtain ⟨h1, h2⟩ := h 0 t u rfl rfl
    have ih := off_v ts us (by simpa using hl) (fun i t' u' a b => h (i + 1) t' u' a b) x
    show u.v x + sv us x = _
    rw [ih]
    show (if (x : Int) % u.g = u.f then u.s else 0) + _ = if p ∣ (x : Int) then -((if (x : Int) % t.g = t.f then t.s else 0) + sv ts x) else 0
    by_cases c : p ∣ (x : Int)
    · rw [if_pos c, if_pos c]
      by_cases c2 : (x : Int) % t.g = t.f
      · rw [if_pos c2, if_pos ((h2 x).mpr ⟨c2, c⟩), h1]; omega
      · rw [if_neg c2, if_neg (fun z => c2 ((h2 x).mp z).1)]; omega
    · rw [if_neg c, if_neg c, if_neg (fun z => c ((h2 x).mp z).2)]
      rfl
  | [], _ :: _, hl, _, _ => by simp at hl
  | _ :: _, [], hl, _, _ => by simp at hl
theorem filter_len_le {U : Nat → Bool} {a b : Nat} (h : a ≤ b) : ((List.range a).filter U).length ≤ ((List.range b).filter U).length := by
  obtain ⟨k, rfl⟩ : ∃ k, b = a + k := ⟨b - a, by omega⟩
  rw [List.range_add, List.filter_append, List.length_append]
  omega
/-- the unit with an index: where the count passes it -/
theorem unit_at_ix {U : Nat → Bool} {m x i : Nat} (hx : x < m) (h1 : ((List.range x).filter U).length ≤ i) (h2 : i < ((List.range (x + 1)).filter U).length) :
    ((List.range m).filter U)[i]? = some x ∧ U x = true ∧ ((List.range x).filter U).length = i := by
  rw [List.range_succ, List.filter_append, List.length_append, List.filter_cons] at h2
  by_cases c : U x = true
  · rw [if_pos c] at h2
    simp at h2
    have e : ((List.range x).filter U).length = i := by omega
    refine ⟨?_, c, e⟩
    obtain ⟨k, rfl⟩ : ∃ k, m = x + 1 + k := ⟨m - (x + 1), by omega⟩
    rw [List.range_add, List.range_succ, List.filter_append, List.filter_append, List.filter_cons, if_pos c, List.filter_nil, List.append_assoc, List.getElem?_append_right (by omega), e, Nat.sub_self]
    rfl
  · rw [if_neg c] at h2
    simp at h2
    omega
/-! ### terms in the heap -/
inductive TsL (H : Hp) : List Addr → List Tm → Prop where
  | nil : TsL H [] []
  | cons {q : Addr} {t : Tm} {qs : List Addr} {ts : List Tm} (h : H q = some (.tup [.int t.s, .int t.f, .int t.g])) (r : TsL H qs ts) : TsL H (q :: qs) (t :: ts)
theorem TsL.same {H H' : Hp} (s : Same H H') {qs : List Addr} {ts : List Tm} (h : TsL H qs ts) : TsL H' qs ts := by
  induction h with
  | nil => exact .nil
  | cons h r ih => exact .cons (s _ _ h) ih
theorem TsL.upd {l : Addr} {H : Hp} {xs ys : List V} (hl : H l = some (.lst xs)) {qs : List Addr} {ts : List Tm} (h : TsL H qs ts) : TsL (upd H l (.lst ys)) qs ts := by
  induction h with
  | nil => exact .nil
  | cons h r ih => exact .cons (by rw [upd_ne (ne_of h hl (by intro z; cases z))]; exact h) ih
theorem TsL.app {H : Hp} {qs rs : List Addr} {ts us : List Tm} (h : TsL H qs ts) (g : TsL H rs us) : TsL H (qs ++ rs) (ts ++ us) := by
  induction h with
  | nil => exact g
  | cons h r ih => exact .cons h ih
theorem TsL.len {H : Hp} {qs : List Addr} {ts : List Tm} (h : TsL H qs ts) : qs.length = ts.length := by
  induction h with
  | nil => rfl
  | cons h r ih => rw [List.length_cons, List.length_cons, ih]
theorem TsL.at_ {H : Hp} {qs : List Addr} {ts : List Tm} (h : TsL H qs ts) : ∀ {i : Nat} {q : Addr}, qs[i]? = some q → ∃ t, ts[i]? = some t ∧ H q = some (.tup [.int t.s, .int t.f, .int t.g]) := by
  induction h with
  | nil => intro i q hq; simp at hq
  | cons h r ih =>
    intro i q hq
    cases i with
    | zero => cases hq; exact ⟨_, rfl, h⟩
    | succ i => exact ih hq
theorem sb_take (b : Int) : ∀ (ts : List Tm) (i : Nat) (t : Tm), ts[i]? = some t → sb (ts.take (i + 1)) b = sb (ts.take i) b + t.b b
  | [], i, t, h => by simp at h
  | u :: r, 0, t, h => by cases h; show u.b b + 0 = 0 + u.b b; omega
  | u :: r, i + 1, t, h => by
    show u.b b + sb (r.take (i + 1)) b = u.b b + sb (r.take i) b + t.b b
    rw [sb_take b r i t h]; omega
theorem sb_sum (b : Int) : ∀ ts : List Tm, (ts.map fun t => t.b b).sum = sb ts b
  | [] => rfl
  | t :: r => by rw [List.map_cons, List.sum_cons, sb_sum b r]; rfl
def sp_ubelow (K : PySem.W.Frag) : Sp := fun vs H Q _ => ∃ (l : Addr) (qs : List Addr) (ts : List Tm) (b : Int), vs = [.ref l, .int b] ∧ H l = some (.lst (qs.map V.ref)) ∧ TsL H qs ts ∧ (∀ t ∈ ts, t.ok ∧ t.g ≤ 1000000000 ∧ -1 ≤ t.s ∧ t.s ≤ 1) ∧ ts.length ≤ 1000 ∧
  ∀ H', Same H H' → Q (.int (sb ts b)) H'
theorem w_ubelow {K : PySem.W.Frag} {H : Hp} {Q : VK} {E : XK} {l : Addr} {qs : List Addr} {ts : List Tm} {b : Int} (hl : H l = some (.lst (qs.map V.ref))) (ht : TsL H qs ts) (ok : ∀ t ∈ ts, t.ok ∧ t.g ≤ 1000000000 ∧ -1 ≤ t.s ∧ t.s ≤ 1) (hn : ts.length ≤ 1000)
    (h : ∀ H', Same H H' → Q (.int (sb ts b)) H') : sp_ubelow K [.ref l, .int b] H Q E := ⟨l, qs, ts, b, rfl, hl, ht, ok, hn, h⟩
def cntU (U : Nat → Bool) (b : Nat) : Nat := ((List.range b).filter U).length
def sp_unitat (K : PySem.W.Frag) : Sp := fun vs H Q _ => ∃ (m : Int) (l : Addr) (qs : List Addr) (ts : List Tm) (U : Nat → Bool) (i : Int), vs = [.int m, .ref l, .int i] ∧ 1 ≤ m ∧ m ≤ 1000000000 ∧ H l = some (.lst (qs.map V.ref)) ∧ TsL H qs ts ∧ (∀ t ∈ ts, t.ok ∧ t.g ≤ 1000000000 ∧ -1 ≤ t.s ∧ t.s ≤ 1) ∧ ts.length ≤ 1000 ∧
  Desc ts U ∧ 0 ≤ i ∧ i < (cntU U m.toNat : Int) ∧ ∀ H' (x : Nat), Same H H' → (x : Int) < m → U x = true → (cntU U x : Int) = i → Q (.int (x : Int)) H'
theorem Desc.cnt {ts : List Tm} {U : Nat → Bool} (h : Desc ts U) {b : Int} (b0 : 0 ≤ b) : sb ts b = (cntU U b.toNat : Int) := by
  have := h.count b.toNat
  rw [Int.toNat_of_nonneg b0] at this
  exact this
end Vg

set_option Elab.async false
set_option linter.all false
set_option maxRecDepth 100000
set_option maxHeartbeats 2000000
namespace Vg
open PySem PySem.Spec PyProof.Rows L2
/-! ### the terms of the units -/
theorem emod_iff {x g f : Int} (f0 : 0 ≤ f) (f1 : f < g) : x % g = f ↔ Cg g x f := by
  constructor
  · intro h
    rw [← h]
    exact Int.dvd_self_sub_emod
  · intro h
    have h1 : x % g = f % g := Int.emod_eq_emod_iff_emod_sub_eq_zero.mpr (Int.emod_eq_zero_of_dvd h)
    rw [h1, Int.emod_eq_of_lt f0 f1]
def sp_pfac : Sp := fun vs H Q _ => ∃ n : Int, vs = [.int n] ∧ ∀ H' t, Same H H' → H t = none → H' t = some (.tup ((P6.filter fun p => decide (n % p = 0)).map V.int)) → Q (.ref t) H'
theorem w_pfac {H : Hp} {Q : VK} {E : XK} {n : Int} (h : ∀ H' t, Same H H' → H t = none → H' t = some (.tup ((P6.filter fun p => decide (n % p = 0)).map V.int)) → Q (.ref t) H') : sp_pfac [.int n] H Q E := ⟨n, rfl, h⟩
/-- what the term of the multiples is to the term -/
structure OffT (p : Int) (t u : Tm) : Prop where
  s : u.s = - t.s
  ok : u.ok
  g : u.g = t.g * p
  iff : ∀ x : Int, x % u.g = u.f ↔ (x % t.g = t.f ∧ p ∣ x)
def sp_moff (K : PySem.W.Frag) : Sp := fun vs H Q _ => ∃ (q : Addr) (t : Tm) (p : Int), vs = [.ref q, .int p] ∧ SqT K H q [.int t.s, .int t.f, .int t.g] ∧ t.ok ∧ t.g ≤ 1000000000 ∧ 2 ≤ p ∧ p ≤ 13 ∧ Int.gcd t.g p = 1 ∧
  ∀ H' r u, Same H H' → H r = none → H' r = some (.tup [.int u.s, .int u.f, .int u.g]) → OffT p t u → Q (.ref r) H'
theorem w_moff {K : PySem.W.Frag} {H : Hp} {Q : VK} {E : XK} {q : Addr} {t : Tm} {p : Int} (hq : SqT K H q [.int t.s, .int t.f, .int t.g]) (ok : t.ok) (g9 : t.g ≤ 1000000000) (p2 : 2 ≤ p) (p13 : p ≤ 13) (hg : Int.gcd t.g p = 1)
    (h : ∀ H' r u, Same H H' → H r = none → H' r = some (.tup [.int u.s, .int u.f, .int u.g]) → OffT p t u → Q (.ref r) H') : sp_moff K [.ref q, .int p] H Q E := ⟨q, t, p, rfl, hq, ok, g9, p2, p13, hg, h⟩
def unU (m start step : Int) : Nat → Bool := fun x => decide ((x : Int) % step = start ∧ Int.gcd (x : Int) m = 1)
def sp_uterms : Sp := fun vs H Q _ => ∃ m start step : Int, vs = [.int m, .int start, .int step] ∧ 1 ≤ m ∧ m ≤ 1000000000 ∧ Sm m ∧ 1 ≤ step ∧ step ∣ m ∧ 0 ≤ start ∧ start < step ∧ Int.gcd start step = 1 ∧
  ∀ H' l qs ts, Same H H' → H l = none → H' l = some (.lst (qs.map V.ref)) → TsL H' qs ts → (∀ t ∈ ts, t.ok ∧ t.g ≤ 1000000000 ∧ -1 ≤ t.s ∧ t.s ≤ 1) → ts.length ≤ 1000 → Desc ts (unU m start step) → Q (.ref l) H'
theorem w_uterms {H : Hp} {Q : VK} {E : XK} {m start step : Int} (m1 : 1 ≤ m) (m9 : m ≤ 1000000000) (hs : Sm m) (t1 : 1 ≤ step) (td : step ∣ m) (s0 : 0 ≤ start) (s1 : start < step) (hg : Int.gcd start step = 1)
    (h : ∀ H' l qs ts, Same H H' → H l = none → H' l = some (.lst (qs.map V.ref)) → TsL H' qs ts → (∀ t ∈ ts, t.ok ∧ t.g ≤ 1000000000 ∧ -1 ≤ t.s ∧ t.s ≤ 1) → ts.length ≤ 1000 → Desc ts (unU m start step) → Q (.ref l) H') :
    sp_uterms [.int m, .int start, .int step] H Q E := ⟨m, start, step, rfl, m1, m9, hs, t1, td, s0, s1, hg, h⟩
/-- a unit has no prime of the modulus -/
theorem unit_iff {m : Int} (m1 : 1 ≤ m) (hs : Sm m) (x : Int) : Int.gcd x m = 1 ↔ ∀ p ∈ P6, p ∣ m → ¬ p ∣ x := by
  constructor
  · intro h p hp hm hx
    have h1 : p ∣ ((Int.gcd x m : Nat) : Int) := Int.dvd_coe_gcd hx hm
    rw [h] at h1
    have := p6_bd hp
    have := Int.le_of_dvd (by decide) h1
    omega
  · intro h
    have g1 := gcd_posI (a := x) m1
    have := sm_one hs ((Int.gcd x m : Nat) : Int) g1 (Int.gcd_dvd_right x m) (fun p hp hd => h p hp (Int.dvd_trans hd (Int.gcd_dvd_right x m)) (Int.dvd_trans hd (Int.gcd_dvd_left x m)))
    omega
theorem p6_gcd {p g : Int} (hp : p ∈ P6) (h : ¬ p ∣ g) : Int.gcd g p = 1 := by
  have hs : Sm p := sm_of hp
  have := p6_bd hp
  refine (unit_iff (by omega) hs g).mpr fun q hq hqp hqg => ?_
  have : q = p := by
    unfold P6 at hp hq
    simp only [List.mem_cons, List.mem_nil_iff, or_false] at hp hq
    rcases hp with rfl | rfl | rfl | rfl | rfl | rfl <;> rcases hq with rfl | rfl | rfl | rfl | rfl | rfl <;> first | rfl | exact absurd hqp (by decide)
  rw [this] at hqg
  exact h hqg
theorem p6_dvd {p q : Int} (hp : p ∈ P6) (hq : q ∈ P6) (h : q ∣ p) : q = p := by
  unfold P6 at hp hq
  simp only [List.mem_cons, List.mem_nil_iff, or_false] at hp hq
  rcases hp with rfl | rfl | rfl | rfl | rfl | rfl <;> rcases hq with rfl | rfl | rfl | rfl | rfl | rfl <;> first | rfl | exact absurd h (by decide)
theorem mul_dvd_co {a b m : Int} (h : Int.gcd a b = 1) (ha : a ∣ m) (hb : b ∣ m) : a * b ∣ m := by
  rw [← Int.natAbs_dvd_natAbs, Int.natAbs_mul]
  exact Nat.Coprime.mul_dvd_of_dvd_of_dvd h (Int.natAbs_dvd_natAbs.mpr ha) (Int.natAbs_dvd_natAbs.mpr hb)
/-- the terms after some primes -/
structure TmI (m start step : Int) (done : List Int) (ts : List Tm) : Prop where
  de : Desc ts (fun x => decide ((x : Int) % step = start ∧ ∀ p ∈ done, ¬ p ∣ step → ¬ p ∣ (x : Int)))
  gd : ∀ t ∈ ts, t.g ∣ m ∧ (t.s = 1 ∨ t.s = -1) ∧ ∀ p ∈ P6, ¬ p ∣ step → p ∉ done → ¬ p ∣ t.g
theorem TmI.start {m start step : Int} (td : step ∣ m) (s0 : 0 ≤ start) (s1 : start < step) : TmI m start step [] [⟨1, start, step⟩] := by
  refine ⟨⟨fun t ht => ?_, fun x => ?_⟩, fun t ht => ?_⟩
  · rw [List.mem_singleton.mp ht]; exact ⟨s0, s1⟩
  · show (if (x : Int) % step = start then (1 : Int) else 0) + 0 = _
    by_cases c : (x : Int) % step = start <;> simp [c]
  · rw [List.mem_singleton.mp ht]; exact ⟨td, .inl rfl, fun p _ h _ => h⟩
theorem TmI.skip {m start step p : Int} {done : List Int} {ts : List Tm} (h : TmI m start step done ts) (hp : p ∣ step) : TmI m start step (done ++ [p]) ts := by
  refine ⟨?_, fun t ht => ?_⟩
  · have e : (fun x : Nat => decide ((x : Int) % step = start ∧ ∀ q ∈ done ++ [p], ¬ q ∣ step → ¬ q ∣ (x : Int))) = fun x : Nat => decide ((x : Int) % step = start ∧ ∀ q ∈ done, ¬ q ∣ step → ¬ q ∣ (x : Int)) := by
      funext x
      refine decide_eq_decide.mpr ⟨fun ⟨a, b⟩ => ⟨a, fun q hq => b q (List.mem_append_left _ hq)⟩, fun ⟨a, b⟩ => ⟨a, fun q hq => ?_⟩⟩
      rcases List.mem_append.mp hq with z | z
      · exact b q z
      · rw [List.mem_singleton.mp z]; exact fun n => absurd hp n
    rw [e]; exact h.de
  · obtain ⟨a, b, c⟩ := h.gd t ht
    exact ⟨a, b, fun q hq hn hd => c q hq hn fun z => hd (List.mem_append_left _ z)⟩
theorem TmI.off {m start step p : Int} {done : List Int} {ts us : List Tm} (h : TmI m start step done ts) (hp : p ∈ P6) (hm : p ∣ m) (hn : ¬ p ∣ step) (hd : p ∉ done) (hl : ts.length = us.length)
    (hu : ∀ (i : Nat) (t u : Tm), ts[i]? = some t → us[i]? = some u → OffT p t u) : TmI m start step (done ++ [p]) (ts ++ us) := by
  have back : ∀ u ∈ us, ∃ t ∈ ts, OffT p t u := fun u hu' => by
    obtain ⟨i, hi, e⟩ := List.getElem_of_mem hu'
    have hi' : i < ts.length := by omega
    exact ⟨ts[i], List.getElem_mem hi', hu i _ _ (List.getElem?_eq_getElem hi') (by rw [List.getElem?_eq_getElem hi, e])⟩
  refine ⟨?_, fun t ht => ?_⟩
  · have hd' := h.de.off (us := us) (p := p) (fun u hu' => by
      obtain ⟨t, _, o⟩ := back u hu'
      exact o.ok) (off_v ts us hl fun i t u a b => ⟨(hu i t u a b).s, (hu i t u a b).iff⟩)
    have e : (fun x : Nat => decide ((x : Int) % step = start ∧ ∀ q ∈ done ++ [p], ¬ q ∣ step → ¬ q ∣ (x : Int))) = fun x : Nat => decide ((x : Int) % step = start ∧ ∀ q ∈ done, ¬ q ∣ step → ¬ q ∣ (x : Int)) && decide (¬ p ∣ (x : Int)) := by
      funext x
      rw [← Bool.decide_and]
      refine decide_eq_decide.mpr ⟨fun ⟨a, b⟩ => ⟨⟨a, fun q hq => b q (List.mem_append_left _ hq)⟩, b p (List.mem_append_right _ (List.mem_singleton.mpr rfl)) hn⟩, fun ⟨⟨a, b⟩, c⟩ => ⟨a, fun q hq => ?_⟩⟩
      rcases List.mem_append.mp hq with z | z
      · exact b q z
      · rw [List.mem_singleton.mp z]; exact fun _ => c
    rw [e]; exact hd'
  · rcases List.mem_append.mp ht with z | z
    · obtain ⟨a, b, c⟩ := h.gd t z
      exact ⟨a, b, fun q hq hn hd => c q hq hn fun z => hd (List.mem_append_left _ z)⟩
    · obtain ⟨t0, ht0, o⟩ := back t z
      obtain ⟨a, b, c⟩ := h.gd t0 ht0
      have np := c p hp hn hd
      refine ⟨?_, ?_, fun q hq hnq hdq z => ?_⟩
      · rw [o.g]
        exact mul_dvd_co (p6_gcd hp np) a hm
      · rw [o.s]; omega
      · rw [o.g] at z
        rcases p6_prime hq z with z | z
        · exact c q hq hnq (fun w => hdq (List.mem_append_left _ w)) z
        · exact hdq (List.mem_append_right _ (List.mem_singleton.mpr (p6_dvd hp hq z)))
theorem TmI.done {m start step : Int} {ts : List Tm} (m1 : 1 ≤ m) (hs : Sm m) (td : step ∣ m) (hg : Int.gcd start step = 1) (h : TmI m start step (P6.filter fun p => decide (m % p = 0)) ts) : Desc ts (unU m start step) := by
  have e : (unU m start step) = fun x : Nat => decide ((x : Int) % step = start ∧ ∀ q ∈ P6.filter (fun p => decide (m % p = 0)), ¬ q ∣ step → ¬ q ∣ (x : Int)) := by
    funext x
    unfold unU
    refine decide_eq_decide.mpr ⟨fun ⟨a, b⟩ => ⟨a, fun q hq _ => ?_⟩, fun ⟨a, b⟩ => ⟨a, (unit_iff m1 hs x).mpr fun q hq hm hx => ?_⟩⟩
    · have := List.mem_filter.mp hq
      exact (unit_iff m1 hs x).mp b q this.1 (Int.dvd_of_emod_eq_zero (of_decide_eq_true this.2))
    · by_cases c : q ∣ step
      · have h1 : q ∣ start := by
          rw [← a]
          have := Int.emod_add_mul_ediv (x : Int) step
          have e : (x : Int) % step = (x : Int) - step * ((x : Int) / step) := by omega
          rw [e]
          exact Int.dvd_sub hx (Int.dvd_trans c (Int.dvd_mul_right _ _))
        have h2 : q ∣ ((Int.gcd start step : Nat) : Int) := Int.dvd_coe_gcd h1 c
        rw [hg] at h2
        have := p6_bd hq
        have := Int.le_of_dvd (by decide) h2
        omega
      · exact b q (List.mem_filter.mpr ⟨hq, decide_eq_true (Int.emod_eq_zero_of_dvd hm)⟩) c hx
  rw [e]; exact h.de
theorem tsl_of {H : Hp} {p : Int} : ∀ (ts : List Tm) (done : List V), done.length = ts.length → (∀ (i : Nat) (v : V), done[i]? = some v → ∃ (r : Addr) (t u : Tm), v = V.ref r ∧ ts[i]? = some t ∧ H r = some (.tup [.int u.s, .int u.f, .int u.g]) ∧ OffT p t u) →
    ∃ (rs : List Addr) (us : List Tm), done = rs.map V.ref ∧ TsL H rs us ∧ ts.length = us.length ∧ ∀ (i : Nat) (t u : Tm), ts[i]? = some t → us[i]? = some u → OffT p t u
  | [], [], _, _ => ⟨[], [], rfl, .nil, rfl, fun i t u h => by simp at h⟩
  | t :: ts, v :: done, hl, h => by
    obtain ⟨rs, us, e, hr, hl2, hu⟩ := tsl_of ts done (by simpa using hl) (fun i v hv => h (i + 1) v hv)
    obtain ⟨r, t', u, rfl, ht, hr', o⟩ := h 0 v rfl
    cases ht
    refine ⟨r :: rs, u :: us, by rw [e]; rfl, .cons hr' hr, by simp [hl2], fun i t2 u2 h1 h2 => ?_⟩
    cases i with
    | zero => cases h1; cases h2; exact o
    | succ i => exact hu i t2 u2 h1 h2
end Vg

set_option Elab.async false
set_option linter.all false
set_option maxRecDepth 100000
set_option maxHeartbeats 2000000
namespace Vg
open PySem PySem.Spec PyProof.Rows L2
/-! ### units with a given residue; conjugators -/
def prd : List Int → Int
  | [] => 1
  | p :: r => p * prd r
theorem prd_pos : ∀ l : List Int, (∀ p ∈ l, p ∈ P6) → 1 ≤ prd l
  | [], _ => by decide
  | p :: r, h => by
    have h1 := prd_pos r fun q hq => h q (List.mem_cons_of_mem _ hq)
    have h2 := p6_bd (h p (List.mem_cons_self ..))
    have := Int.mul_le_mul_of_nonneg_left h1 (show 0 ≤ p by omega)
    show 1 ≤ p * prd r
    omega
theorem prd_sm : ∀ l : List Int, (∀ p ∈ l, p ∈ P6) → Sm (prd l)
  | [], _ => .one
  | p :: r, h => sm_mul (sm_of (h p (List.mem_cons_self ..))) (prd_sm r fun q hq => h q (List.mem_cons_of_mem _ hq))
theorem prd_dvd {p : Int} : ∀ {l : List Int}, p ∈ l → p ∣ prd l
  | q :: r, h => by
    show p ∣ q * prd r
    rcases List.mem_cons.mp h with z | z
    · rw [z]; exact Int.dvd_mul_right _ _
    · exact Int.dvd_trans (prd_dvd z) (Int.dvd_mul_left _ _)
theorem prd_of {p : Int} (hp : p ∈ P6) : ∀ {l : List Int}, (∀ q ∈ l, q ∈ P6) → p ∣ prd l → p ∈ l
  | [], _, h => by
    have := p6_bd hp
    have := Int.le_of_dvd (by decide) (show p ∣ 1 from h)
    omega
  | q :: r, hl, h => by
    rcases p6_prime hp (show p ∣ q * prd r from h) with z | z
    · rw [p6_dvd (hl q (List.mem_cons_self ..)) hp z]; exact List.mem_cons_self ..
    · exact List.mem_cons_of_mem _ (prd_of hp (fun q hq => hl q (List.mem_cons_of_mem _ hq)) z)
/-- a unit that has a given residue -/
theorem unit_ex {m start step : Int} (m1 : 1 ≤ m) (hs : Sm m) (t1 : 1 ≤ step) (td : step ∣ m) (s0 : 0 ≤ start) (s1 : start < step) (hg : Int.gcd start step = 1) :
    ∃ x : Nat, (x : Int) < m ∧ unU m start step x = true := by
  let l := P6.filter fun p => decide (p ∣ m ∧ ¬ p ∣ step)
  have hl : ∀ p ∈ l, p ∈ P6 ∧ p ∣ m ∧ ¬ p ∣ step := fun p hp => by
    have := List.mem_filter.mp hp
    exact ⟨this.1, of_decide_eq_true this.2⟩
  have r1 := prd_pos l fun p hp => (hl p hp).1
  have co : Int.gcd step (prd l) = 1 := (unit_iff r1 (prd_sm l fun p hp => (hl p hp).1) step).mpr fun p hp hd => (hl p (prd_of hp (fun q hq => (hl q hq).1) hd)).2.2
  have hn : Nat.gcd step.toNat (prd l).toNat = 1 := by
    have h3 : Int.gcd step (prd l) = Nat.gcd step.natAbs (prd l).natAbs := rfl
    rw [show step.toNat = step.natAbs by omega, show (prd l).toNat = (prd l).natAbs by omega, ← h3, co]
  obtain ⟨e, h1, h2⟩ := crt_ex (n := step.toNat) (n' := (prd l).toNat) (k := start) (late := 1 - start) (by omega) (by omega) s0 (by rw [hn]; exact Int.one_dvd _)
  rw [Int.toNat_of_nonneg (by omega)] at h1 h2
  rw [show start + (1 - start) = 1 by omega] at h2
  have q0 := Int.emod_nonneg (e : Int) (show m ≠ 0 by omega)
  have q1 := Int.emod_lt_of_pos (e : Int) (show 0 < m by omega)
  have cm : Cg m ((e : Int) % m) e := Cg.mod m _
  refine ⟨((e : Int) % m).toNat, by omega, decide_eq_true ?_⟩
  rw [Int.toNat_of_nonneg q0]
  refine ⟨(emod_iff s0 s1).mpr ((cg_of_dvd td cm).trans h1), (unit_iff m1 hs _).mpr fun p hp hm hx => ?_⟩
  have hpe : p ∣ (e : Int) := by
    have : p ∣ (e : Int) % m - (e : Int) := Int.dvd_trans hm cm
    have h := Int.dvd_sub hx this
    rwa [show (e : Int) % m - ((e : Int) % m - (e : Int)) = (e : Int) by omega] at h
  by_cases c : p ∣ step
  · have h3 : p ∣ start := by
      have : p ∣ (e : Int) - start := Int.dvd_trans c h1
      have h := Int.dvd_sub hpe this
      rwa [show (e : Int) - ((e : Int) - start) = start by omega] at h
    have h4 : p ∣ ((Int.gcd start step : Nat) : Int) := Int.dvd_coe_gcd h3 c
    rw [hg] at h4
    have := p6_bd hp
    have := Int.le_of_dvd (by decide) h4
    omega
  · have h3 : p ∣ prd l := prd_dvd (List.mem_filter.mpr ⟨hp, decide_eq_true ⟨hm, c⟩⟩)
    have h4 : p ∣ (e : Int) - 1 := Int.dvd_trans h3 h2
    have h := Int.dvd_sub hpe h4
    rw [show (e : Int) - ((e : Int) - 1) = 1 by omega] at h
    have := p6_bd hp
    have := Int.le_of_dvd (by decide) h
    omega
theorem cnt_pos {U : Nat → Bool} {x n : Nat} (h : U x = true) (hx : x < n) : 0 < cntU U n := by
  unfold cntU
  exact List.length_pos_of_mem (List.mem_filter.mpr ⟨List.mem_range.mpr hx, h⟩)
theorem cnt_zero {U : Nat → Bool} {x y : Nat} (h : cntU U x = 0) (hy : y < x) : U y = false := by
  cases hu : U y with
  | false => rfl
  | true => have := cnt_pos hu hy; omega
/-- u turns f into g -/
def Cj (m : Int) (f g u : Mp) : Prop := Ok m u ∧ cmp m f u = cmp m u g
/-- the least of them, or none -/
def CjR (m : Int) (f g : Mp) : Option Mp → Prop
  | none => ∀ u, ¬ Cj m f g u
  | some u => Cj m f g u ∧ ∀ u', Cj m f g u' → u.1 < u'.1 ∨ (u.1 = u'.1 ∧ u.2 ≤ u'.2)
theorem CjR.alone {m : Int} {f g : Mp} {o o' : Option Mp} (h : CjR m f g o) (h' : CjR m f g o') : o = o' := by
  cases o with
  | none =>
    cases o' with
    | none => rfl
    | some u => exact absurd h'.1 (h u)
  | some u =>
    cases o' with
    | none => exact absurd h.1 (h' u)
    | some u' =>
      have a := h.2 u' h'.1
      have b := h'.2 u h.1
      have : u = u' := Prod.ext (by omega) (by omega)
      rw [this]
section
variable {m : Int} {f g u : Mp}
theorem unit_gcd (hm : 1 ≤ m) {a : Int} (h : Unit' m a) : Int.gcd a m = 1 := by
  have := h.2.2
  rw [gcdI_eq h.1 (by omega)] at this
  omega
theorem unit_ofG {a : Int} (hm : 1 ≤ m) (a0 : 0 ≤ a) (a1 : a < m) (h : Int.gcd a m = 1) : Unit' m a := ⟨a0, a1, by rw [gcdI_eq a0 (by omega), h]; rfl⟩
/-- what makes a conjugator -/
theorem cj_iff (hm : 2 ≤ m) (hf : Ok m f) (hg : Ok m g) (hu : Ok m u) : Cj m f g u ↔ (f.1 = g.1 ∧ Cg m ((f.1 - 1) * u.2) (u.1 * f.2 - g.2)) := by
  have fu := hf.u
  have gu := hg.u
  have e1 : cmp m f u = cmp m u g ↔ (Cg m (f.1 * u.1) (u.1 * g.1) ∧ Cg m (u.1 * f.2 + u.2) (g.1 * u.2 + g.2)) := by
    unfold cmp
    rw [Prod.mk.injEq]
    show (_ % m = _ % m ∧ _ % m = _ % m) ↔ _
    rw [Int.emod_eq_emod_iff_emod_sub_eq_zero, Int.emod_eq_emod_iff_emod_sub_eq_zero]
    exact and_congr dvd_emod dvd_emod
  constructor
  · rintro ⟨_, h⟩
    obtain ⟨h1, h2⟩ := e1.mp h
    obtain ⟨r, _, _, hr⟩ := unit_inv_ex hm hu.u
    have ef : f.1 = g.1 := by
      have k1 : Cg m (r * (f.1 * u.1)) (r * (u.1 * g.1)) := h1.mulL r
      have k2 : Cg m (r * (f.1 * u.1)) f.1 := by
        have := hr.mulR f.1
        rw [Int.one_mul] at this
        exact (Cg.of (by rw [Int.mul_comm f.1 u.1, Int.mul_assoc])).trans this
      have k3 : Cg m (r * (u.1 * g.1)) g.1 := by
        have := hr.mulR g.1
        rw [Int.one_mul] at this
        exact (Cg.of (by rw [Int.mul_assoc])).trans this
      exact (k2.symm.trans (k1.trans k3)).eqS fu.1 fu.2.1 gu.1 gu.2.1
    refine ⟨ef, ?_⟩
    obtain ⟨k, hk⟩ := h2
    refine ⟨-k, ?_⟩
    rw [Int.sub_mul, Int.one_mul, Int.mul_neg, ← hk, ef]
    omega
  · rintro ⟨ef, k, hk⟩
    refine ⟨hu, e1.mpr ⟨Cg.of (by rw [ef, Int.mul_comm]), -k, ?_⟩⟩
    rw [Int.mul_neg, ← hk, Int.sub_mul, Int.one_mul, ef]
    omega
end
def optMp (H : Hp) : Option Mp → V → Prop
  | none, v => v = .non
  | some u, v => ∃ t, v = .ref t ∧ H t = some (.tup [.int u.1, .int u.2])
def sp_conj (K : PySem.W.Frag) : Sp := fun vs H Q _ => ∃ (m : Int) (f g : Mp) (a b : Addr), vs = [.int m, .ref a, .ref b] ∧ TpAt K H a f ∧ TpAt K H b g ∧ 2 ≤ m ∧ m ≤ 1000000000 ∧ Ok m f ∧ Ok m g ∧ Sm m ∧
  ∀ H' v o, Same H H' → CjR m f g o → optMp H' o v → Q v H'
theorem w_conj {K : PySem.W.Frag} {H : Hp} {Q : VK} {E : XK} {m : Int} {f g : Mp} {a b : Addr} (ha : TpAt K H a f) (hb : TpAt K H b g) (hm : 2 ≤ m) (h9 : m ≤ 1000000000) (hf : Ok m f) (hg : Ok m g) (hs : Sm m)
    (h : ∀ H' v o, Same H H' → CjR m f g o → optMp H' o v → Q v H') : sp_conj K [.int m, .ref a, .ref b] H Q E := ⟨m, f, g, a, b, rfl, ha, hb, hm, h9, hf, hg, hs, h⟩
/-- the residues of a conjugator's multiplier -/
theorem cj_step {m a b d s : Int} (hm : 1 ≤ m) (hsu : Int.gcd s m = 1) (h : ((Int.gcd (a - 1) m : Nat) : Int) ∣ s * b - d) :
    Int.gcd d (Int.gcd (a - 1) m : Int) = Int.gcd b (Int.gcd (a - 1) m : Int) := by
  have cm : ((Int.gcd (a - 1) m : Nat) : Int) ∣ m := Int.gcd_dvd_right _ _
  have c1 := gcd_posI (a := a - 1) hm
  generalize ((Int.gcd (a - 1) m : Nat) : Int) = c at h cm c1
  obtain ⟨r, hr⟩ := inv_exG hm hsu
  have hr' : Cg c (r * s) 1 := Int.dvd_trans cm hr
  have h2 : Cg c (s * b) d := h
  have h3 : Cg c (r * d) b := by
    have k1 := h2.mulL r
    have k2 := hr'.mulR b
    rw [Int.one_mul] at k2
    exact k1.symm.trans ((Cg.of (by rw [Int.mul_assoc])).trans k2)
  refine Nat.dvd_antisymm ?_ ?_
  · have g1 : ((Int.gcd d c : Nat) : Int) ∣ d := Int.gcd_dvd_left _ _
    have g2 : ((Int.gcd d c : Nat) : Int) ∣ c := Int.gcd_dvd_right _ _
    have g3 : ((Int.gcd d c : Nat) : Int) ∣ b := by
      have := Int.dvd_sub (Int.dvd_trans g1 (Int.dvd_mul_left r d)) (Int.dvd_trans g2 h3)
      rwa [show r * d - (r * d - b) = b by omega] at this
    exact Int.ofNat_dvd.mp (Int.dvd_coe_gcd g3 g2)
  · have g1 : ((Int.gcd b c : Nat) : Int) ∣ b := Int.gcd_dvd_left _ _
    have g2 : ((Int.gcd b c : Nat) : Int) ∣ c := Int.gcd_dvd_right _ _
    have g3 : ((Int.gcd b c : Nat) : Int) ∣ d := by
      have := Int.dvd_sub (Int.dvd_trans g1 (Int.dvd_mul_left s b)) (Int.dvd_trans g2 h2)
      rwa [show s * b - (s * b - d) = d by omega] at this
    exact Int.ofNat_dvd.mp (Int.dvd_coe_gcd g3 g2)
/-- which multipliers are allowed, by their residue -/
theorem cj_res {b d c sh r x : Int} (c1 : 1 ≤ c) (hsh : sh = ((Int.gcd b c : Nat) : Int)) (hd : sh ∣ d) (hr : Cg (c / sh) (r * (b / sh)) 1) (s1 : 1 ≤ c / sh) :
    c ∣ x * b - d ↔ x % (c / sh) = d / sh * r % (c / sh) := by
  have g1 : 1 ≤ sh := by rw [hsh]; exact gcd_posI c1
  have gb : sh * (b / sh) = b := Int.mul_ediv_cancel' (by rw [hsh]; exact Int.gcd_dvd_left _ _)
  have gc : sh * (c / sh) = c := Int.mul_ediv_cancel' (by rw [hsh]; exact Int.gcd_dvd_right _ _)
  have gd : sh * (d / sh) = d := Int.mul_ediv_cancel' hd
  generalize b / sh = b' at *
  generalize c / sh = c' at *
  generalize d / sh = d' at *
  have e1 : c ∣ x * b - d ↔ Cg c' (x * b') d' := by
    constructor
    · rintro ⟨k, e⟩
      refine ⟨k, Int.eq_of_mul_eq_mul_left (show sh ≠ 0 by omega) ?_⟩
      rw [Int.mul_sub, Int.mul_left_comm, gb, gd, ← Int.mul_assoc, gc]; exact e
    · rintro ⟨k, e⟩
      refine ⟨k, ?_⟩
      have : sh * (x * b' - d') = sh * (c' * k) := by rw [e]
      rw [Int.mul_sub, Int.mul_left_comm, gb, gd, ← Int.mul_assoc, gc] at this
      exact this
  rw [e1]
  have n0 := Int.emod_nonneg (d' * r) (show c' ≠ 0 by omega)
  have n1 := Int.emod_lt_of_pos (d' * r) (show 0 < c' by omega)
  rw [emod_iff n0 n1]
  have cm : Cg c' (d' * r % c') (d' * r) := Cg.mod c' _
  constructor
  · intro h
    have k1 := h.mulR r
    have k2 := hr.mulL x
    rw [Int.mul_one] at k2
    exact (k2.symm.trans ((Cg.of (by rw [Int.mul_assoc, Int.mul_comm r b'])).trans k1)).trans cm.symm
  · intro h
    have k1 := (h.trans cm).mulR b'
    have k2 := hr.mulL d'
    rw [Int.mul_one] at k2
    exact k1.trans ((Cg.of (by rw [Int.mul_assoc])).trans k2)
theorem gcd_of_inv {x y n : Int} (hn : 1 ≤ n) (h : Cg n (y * x) 1) : Int.gcd x n = 1 := by
  have g1 := gcd_posI (a := x) hn
  have h1 : ((Int.gcd x n : Nat) : Int) ∣ y * x - 1 := Int.dvd_trans (Int.gcd_dvd_right x n) h
  have h2 : ((Int.gcd x n : Nat) : Int) ∣ y * x := Int.dvd_trans (Int.gcd_dvd_left x n) (Int.dvd_mul_left y x)
  have h3 := Int.dvd_sub h2 h1
  rw [show y * x - (y * x - 1) = 1 by omega] at h3
  have := Int.le_of_dvd (by decide) h3
  omega
theorem cj_dvd {m a t w : Int} (h : Cg m ((a - 1) * t) w) : ((Int.gcd (a - 1) m : Nat) : Int) ∣ w := by
  have h1 : ((Int.gcd (a - 1) m : Nat) : Int) ∣ (a - 1) * t - w := Int.dvd_trans (Int.gcd_dvd_right _ _) h
  have h2 : ((Int.gcd (a - 1) m : Nat) : Int) ∣ (a - 1) * t := Int.dvd_trans (Int.gcd_dvd_left _ _) (Int.dvd_mul_right _ _)
  have := Int.dvd_sub h2 h1
  rwa [show (a - 1) * t - ((a - 1) * t - w) = w by omega] at this
theorem mul_bd {a b : Int} (a0 : 0 ≤ a) (a1 : a ≤ 1000000000) (b0 : 0 ≤ b) (b1 : b ≤ 1000000000) : 0 ≤ a * b ∧ a * b ≤ 1000000000000000000 := by
  refine ⟨Int.mul_nonneg a0 b0, ?_⟩
  have h := Int.mul_le_mul a1 b1 b0 (by decide)
  exact Int.le_trans h (by decide)
theorem start_gcd {d c sh r b : Int} (c1 : 1 ≤ c) (hsh : sh = ((Int.gcd b c : Nat) : Int)) (hd : ((Int.gcd d c : Nat) : Int) = sh) (hr : Cg (c / sh) (r * (b / sh)) 1) (s1 : 1 ≤ c / sh) :
    Int.gcd (d / sh * r % (c / sh)) (c / sh) = 1 := by
  have h1 : Int.gcd (d / sh) (c / sh) = 1 := by rw [← hd]; exact slv_gcd c1
  obtain ⟨q, hq⟩ := inv_exG s1 h1
  refine gcd_of_inv (y := q * (b / sh)) s1 ?_
  have k0 : Cg (c / sh) (d / sh * r % (c / sh)) (d / sh * r) := Cg.mod _ _
  refine (k0.mulL (q * (b / sh))).trans ?_
  have k1 := hq.mul hr
  refine (Cg.of ?_).trans k1
  rw [Int.mul_assoc, Int.mul_assoc, Int.mul_left_comm (b / sh) (d / sh) r, Int.mul_comm (b / sh) r]
end Vg

set_option Elab.async false
set_option linter.all false
set_option maxRecDepth 100000
set_option maxHeartbeats 2000000
namespace Vg
open PySem PySem.Spec PyProof.Rows L2
/-! ### all maps of a small modulus -/
def rowJ (m : Int) (a j : Nat) : List Mp := if Int.gcd (a : Int) m = 1 then (List.range j).map fun b => (((a : Nat) : Int), ((b : Nat) : Int)) else []
theorem rowJ_succ (m : Int) (a j : Nat) : rowJ m a (j + 1) = rowJ m a j ++ (if Int.gcd (a : Int) m = 1 then [(((a : Nat) : Int), ((j : Nat) : Int))] else []) := by
  unfold rowJ
  by_cases c : Int.gcd (a : Int) m = 1
  · rw [if_pos c, if_pos c, if_pos c, List.range_succ, List.map_append]; rfl
  · rw [if_neg c, if_neg c, if_neg c]; rfl
def evL (m : Int) (k : Nat) : List Mp := (List.range k).flatMap fun a => rowJ m a m.toNat
theorem evL_succ (m : Int) (k : Nat) : evL m (k + 1) = evL m k ++ rowJ m k m.toNat := by
  unfold evL
  rw [List.range_succ, List.flatMap_append]
  simp
theorem rowJ_len (m : Int) (a j : Nat) : (rowJ m a j).length ≤ j := by
  unfold rowJ
  split
  · rw [List.length_map, List.length_range]; omega
  · exact Nat.zero_le _
theorem evL_len (m : Int) : ∀ k : Nat, (evL m k).length ≤ k * m.toNat
  | 0 => by unfold evL; simp
  | k + 1 => by
    rw [evL_succ, List.length_append, Nat.succ_mul]
    have h1 := evL_len m k
    have h2 := rowJ_len m k m.toNat
    omega
theorem evL_mem {m : Int} (hm : 2 ≤ m) {u : Mp} : u ∈ evL m m.toNat ↔ Ok m u := by
  unfold evL
  rw [List.mem_flatMap]
  constructor
  · rintro ⟨a, ha, hu⟩
    have ha' := List.mem_range.mp ha
    unfold rowJ at hu
    split at hu
    · next c =>
      obtain ⟨b, hb, rfl⟩ := List.mem_map.mp hu
      have hb' := List.mem_range.mp hb
      exact ⟨unit_ofG (by omega) (by show (0 : Int) ≤ ((a : Nat) : Int); omega) (by show ((a : Nat) : Int) < m; omega) c, by show (0 : Int) ≤ ((b : Nat) : Int); omega, by show ((b : Nat) : Int) < m; omega⟩
    · cases hu
  · intro h
    have b := h.bd
    refine ⟨u.1.toNat, List.mem_range.mpr (by omega), ?_⟩
    unfold rowJ
    rw [Int.toNat_of_nonneg b.1, if_pos (unit_gcd (by omega) h.u)]
    refine List.mem_map.mpr ⟨u.2.toNat, List.mem_range.mpr (by omega), ?_⟩
    show (u.1, ((u.2.toNat : Nat) : Int)) = u
    rw [Int.toNat_of_nonneg b.2.2.1]
theorem evL_pos {m : Int} (hm : 2 ≤ m) : 0 < (evL m m.toNat).length := List.length_pos_of_mem ((evL_mem hm).mpr (Ok.one hm))
section
variable {H : Hp} {qs rs : List Addr} {fs gs : List Mp}
theorem MsL.at_ (h : MsL H qs fs) : ∀ {i : Nat} {q : Addr}, qs[i]? = some q → ∃ f, fs[i]? = some f ∧ H q = some (.tup [.int f.1, .int f.2]) := by
  induction h with
  | nil => intro i q hq; simp at hq
  | cons h r ih =>
    intro i q hq
    cases i with
    | zero => cases hq; exact ⟨_, rfl, h⟩
    | succ i => exact ih hq
theorem MsL.app (h : MsL H qs fs) (g : MsL H rs gs) : MsL H (qs ++ rs) (fs ++ gs) := by
  induction h with
  | nil => exact g
  | cons h r ih => exact .cons h ih
theorem MsL.bp {p L : Addr} {n : Nat} {H' : Hp} (h : MsL H qs fs) (pn : PenAt H p L n) (b : But p H H') : MsL H' qs fs := by
  obtain ⟨kvs, hp⟩ := pn.some_
  exact h.but hp b
theorem MsL.ofnew (h : MsL H qs fs) {D : Addr} {xs : List V} (hD : H D = some (.lst xs)) {H' : Hp} (b : But D H H') : MsL H' qs fs := by
  induction h with
  | nil => exact .nil
  | cons h r ih => exact .cons (b _ _ (ne_of h hD (by intro z; cases z)) h) ih
end
theorem w_eqMpD {K K' : PySem.W.Frag} {H : Hp} {Q : VK} {s t : Addr} {p q : Mp} (hp : TpAt K H s p) (hq : TpAt K H t q) (h : Q (.bl (decide (p = q))) H) (hk : K' = K := by rfl) : rEqD K' (.ref s) (.ref t) H Q := by
  subst hk
  refine ⟨_, _, dp_mp hp, dp_mp hq, sh_mp, sh_mp, ?_⟩
  rw [show PyData.eqv (.tuple [.int p.1, .int p.2]) (.tuple [.int q.1, .int q.2]) = decide (p = q) from eqv_mpd]
  exact h
theorem w_neMsN {K K' : PySem.W.Frag} {H : Hp} {Q : VK} {s t : Addr} {qs : List Addr} {fs : List Mp} (hs : H s = some (.lst (qs.map V.ref))) (hm : MsL H qs fs) (ht : H t = some (.lst [])) (h : Q (.bl (!fs.isEmpty)) H) (hk : K' = K := by rfl) : rNeD K' (.ref s) (.ref t) H Q := by
  subst hk
  refine ⟨.list (fs.map mpd), .list [], Dp.lst (SqL.of hs) hm.dp, Dp.lst (SqL.of ht) .nil, shaped_mpds fs, rfl, ?_⟩
  have e : PyData.eqv (.list (fs.map mpd)) (.list []) = fs.isEmpty := by
    cases fs with
    | nil => simp [PyData.eqv, PyData.eqvAll]
    | cons n r => simp [PyData.eqv, PyData.eqvAll]
  rw [e]
  exact h
theorem cnj_cj {m : Int} {f g u i : Mp} (hm : 2 ≤ m) (hf : Ok m f) (hg : Ok m g) (hu : Ok m u) (hi : IsInv m u i) : cnj m i f u = g ↔ cmp m f u = cmp m u g := by
  have e : cmp m u (cnj m i f u) = cmp m f u := by
    show cmp m u (cmp m (cmp m i f) u) = _
    rw [← cmp_assoc hm hu (hi.1.cmp hm hf) hu, ← cmp_assoc hm hu hi.1 hf, hi.2.1, one_cmp hm hf]
  constructor
  · intro h
    rw [← h, e]
  · intro h
    have h2 : cmp m i (cmp m u (cnj m i f u)) = cmp m i (cmp m u g) := by rw [e, h]
    rw [← cmp_assoc hm hi.1 hu (cnj_ok hm hf hu hi), ← cmp_assoc hm hi.1 hu hg, hi.2.2, one_cmp hm (cnj_ok hm hf hu hi), one_cmp hm hg] at h2
    exact h2
def sp_lconj (K : PySem.W.Frag) : Sp := fun vs H Q _ => ∃ (m : Int) (f u : Mp) (a b : Addr), vs = [.int m, .ref a, .ref b] ∧ TpAt K H a f ∧ TpAt K H b u ∧ 2 ≤ m ∧ m ≤ 1000000000 ∧ Ok m f ∧ Ok m u ∧
  ∀ H' t i, Same H H' → H t = none → IsInv m u i → H' t = some (.tup [.int (cnj m i f u).1, .int (cnj m i f u).2]) → Q (.ref t) H'
theorem w_lconj {K : PySem.W.Frag} {H : Hp} {Q : VK} {E : XK} {m : Int} {f u : Mp} {a b : Addr} (ha : TpAt K H a f) (hb : TpAt K H b u) (hm : 2 ≤ m) (h9 : m ≤ 1000000000) (hf : Ok m f) (hu : Ok m u)
    (h : ∀ H' t i, Same H H' → H t = none → IsInv m u i → H' t = some (.tup [.int (cnj m i f u).1, .int (cnj m i f u).2]) → Q (.ref t) H') : sp_lconj K [.int m, .ref a, .ref b] H Q E := ⟨m, f, u, a, b, rfl, ha, hb, hm, h9, hf, hu, h⟩
theorem inV_str {y : Str} : ∀ ns : List Str, inV (.str y) (ns.map V.str) = decide (y ∈ ns)
  | [] => rfl
  | n :: r => by
    show (eqV (.str n) (.str y) || inV (.str y) (r.map V.str)) = _
    rw [inV_str r]
    show ((n == y) || _) = _
    by_cases c : n = y
    · subst c; simp
    · have c' : ¬ y = n := fun z => c z.symm
      simp [c, c']
theorem flat_strs : ∀ ns : List Str, (ns.map V.str).all flatV = true
  | [] => rfl
  | n :: r => by show (true && (r.map V.str).all flatV) = true; rw [flat_strs r]; rfl
theorem w_notInS {K K' : PySem.W.Frag} {H : Hp} {Q : VK} {y : Str} {a : Addr} {ns : List Str} (e : SqL K H a (ns.map V.str)) (h : Q (.bl (!decide (y ∈ ns))) H) (hk : K' = K := by rfl) : rIn K' true (.str y) (.ref a) H Q := by
  subst hk
  refine ⟨a, _, rfl, .inl e, rfl, flat_strs ns, ?_⟩
  rw [if_pos rfl, inV_str]
  exact h
def optD : Option Mp → PyData
  | none => .none
  | some u => mpd u
theorem optMp.rp {K : PySem.W.Frag} {H : Hp} {m : Int} (hm : m ≤ 1000000000) {o : Option Mp} {v : V} (h : optMp H o v) (ok : ∀ u, o = some u → Ok m u) : Rp K H v (optD o) := by
  match o, h with
  | none, h => cases h; exact rp_non
  | some u, h =>
    obtain ⟨t, rfl, e⟩ := h
    exact rp_mp (TpAt.of e) hm (ok u rfl)
theorem optMp.same {H H' : Hp} {o : Option Mp} {v : V} (h : optMp H o v) (s : Same H H') : optMp H' o v := by
  match o, h with
  | none, h => exact h
  | some u, h =>
    obtain ⟨t, rfl, e⟩ := h
    exact ⟨t, rfl, s _ _ e⟩
theorem w_extend {H : Hp} {Q : VK} {l b : Addr} {xs ys : List V} (hl : H l = some (.lst xs)) (hb : H b = some (.lst ys)) (hz : xs.length + ys.length ≤ 1000000) (h : Q .non (upd H l (.lst (xs ++ ys)))) : rExtend (.ref l) [.ref b] H Q :=
  ⟨l, b, xs, ys, rfl, rfl, hl, hb, Nat.le_trans hz (by decide), h⟩
theorem eqD_ {X : Cx} {K : PySem.W.Frag} (h : X.K = K) (hu : X.A.units + 64 < cLine) : OpR X (compareOp .Eq) (rEqD K) := h ▸ op_eqD hu
theorem neD_ {X : Cx} {K : PySem.W.Frag} (h : X.K = K) (hu : X.A.units + 64 < cLine) : OpR X (compareOp .NotEq) (rNeD K) := h ▸ op_neD hu
theorem callRepr_ {X : Cx} {K : PySem.W.Frag} (h : X.K = K) (hgu : X.A.guards = some []) (hu : X.A.units + 64 < cLine) : CallR X (.builtin "repr") (rRepr K) := h ▸ call_repr hgu hu
end Vg

set_option Elab.async false
set_option linter.all false
set_option maxRecDepth 100000
set_option maxHeartbeats 2000000
namespace Vg
open PySem PySem.Spec PyProof.Rows L2
/-! ### defs with one keyword-only parameter, None if it is left out -/
/-- such a def of the text, as the module's name x -/
def dOfK (x : Str) (st : Stmt) (kw : Str) : He.DefD := ⟨(x, none), x, x, defArgs st, defBody st, defScope st, [], [(kw, .non)]⟩
def DefAtK (K : PySem.W.Frag) (mg : Str → Option Value) (x : Str) (st : Stmt) (kw : Str) : Prop :=
  ∃ fd, FunD K x x (defArgs st) (defBody st) (defScope st) [] [(kw, V.non)] (He.ga K x) fd ∧ mg x = some (.ref (He.ga K x))
theorem defAtK {fs : List (PySem.W.Frag → Bool)} {fn : List He.DefD} {K : PySem.W.Frag} {h : Heap}
    {mg : Str → Option Value} (X : K.In h) (G : h.Ns mainGlobals mg) (c : SaysX fs fn K) {x : Str} {st : Stmt} {kw : Str}
    (i : Nat) (j : Nat) (hd : fn[i]? = some (dOfK x st kw) := by rfl)
    (hg : fs[j]? = some (fun K => (He.Fa.glo x).ok K) := by rfl) : DefAtK K mg x st kw := by
  obtain ⟨fd, F⟩ := c.def_ i hd
  exact ⟨fd, F, He.glo_ok X G (c.fact j hg)⟩
structure CalK (P : Program) (w : World) (K : PySem.W.Frag) (mg : Str → Option Value)
    (base : Heap) (k : Nat) (x : Str) (ps : List Str) (n : Nat) (kw : Str) (sp : Sp) : Prop where
  ex : ∃ f fd, FnG P w K mg base k f fd ps sp ∧ mg x = some (.ref f) ∧
    PySem.W.keepIn K (.ref f) = true ∧ (∃ ds, Vals [V.non] ds ∧ Binds K fd ps ds) ∧ KBn K fd ps n [kw] (fun us ws => us ++ ws) (fun vs zs => vs ++ zs)
section
variable {P : Program} {w : World} {K : PySem.W.Frag} {mg : Str → Option Value} {base : Heap}
theorem calK_mk {x : Str} {st : Stmt} {N ps : List Str} {k n : Nat} {kw : Str} {sp : Sp} (D : DefAtK K mg x st kw)
    (S : FnScope N ps (defScope st)) (hn : n + 1 = ps.length)
    (hb : ∀ (D : Addr) (doc pm : Value) (an : Option Addr) (cdv ct : Value) (us ks : List Value), us.length = n → ks.length = 1 →
      KwChain D ([kw].zip ks) (bindArgs (PySem.W.fnOf x x (defArgs st) (defBody st) (defScope st) .none (.ref D) doc pm an cdv ct) ⟨us, []⟩) (ps.zip (us ++ ks)))
    (hk : ∀ (D : Addr) (doc pm : Value) (an : Option Addr) (cdv ct : Value) (us ws : List Value), us.length = n → ws.length = 1 →
      bindArgs (PySem.W.fnOf x x (defArgs st) (defBody st) (defScope st) .none (.ref D) doc pm an cdv ct) ⟨us, [kw].zip ws⟩ = pure (ps.zip (us ++ ws)))
    (len : ∀ vs H Q E, sp vs H Q E → vs.length = ps.length)
    (hbody : ∀ (f : Addr) (cdv : Value) (A : Around) (outer : List Env) (s : Shared) (H : Hp)
      (vs : List V) (Q : VK),
      (Cb P w K mg base N x (defScope st) f cdv A outer s H).A.guards = some [] →
      Room k (Cb P w K mg base N x (defScope st) f cdv A outer s H).A → sp vs H Q E0 →
      ∃ t, PSs (Cb P w K mg base N x (defScope st) f cdv A outer s H).nox (defBody st) t ∧
        t { nx := fun _ H' => Q .non H', rt := Q } (start N vs) H) :
    CalK P w K mg base (k + 1) x ps n kw sp := by
  obtain ⟨fd, F, hm⟩ := D
  refine ⟨_, fd, FnG.mk_of F S len (hbody _), hm, F.kp, ?_, ?_⟩
  · exact F.binds0 (ps := ps) n (by simp) (by simpa using hn) fun D doc pm an cdv ct us ks h1 h2 => hb D doc pm an cdv ct us ks h1 (by simpa using h2)
  · obtain ⟨mv, h⟩ := F.kbinds0 (ps := ps) n [kw] [] (fun us _ ws => us ++ ws) (by simp) (by simp) (fun r1 _ r3 => r1.append r3)
      fun D doc pm an cdv ct us mv ws h1 _ h3 => by
        show _ = pure _
        exact hk D doc pm an cdv ct us ws h1 (by simpa using h3)
    exact h
end
section
variable {X : Cx} {k n : Nat} {ps : List Str} {sp : Sp} {x kw : Str} {p pos : Pos}
  {e : Expr} {es : List Expr} {kws : List Keyword} {t tk : TA}
theorem run_calD {f : Addr} {fd : FuncData} {pins : List (Addr × Obj)} {σ : L2.St} {H : Hp} {s : Shared}
    {Q : VK} {us ds : List Value} {vs : List V}
    (F : FnG X.prog X.w X.K X.mg X.base k f fd ps sp) (hgu : X.A.guards = some [])
    (hr : Room k X.A) (hd : Vals [V.non] ds) (hb : Binds X.K fd ps ds) (I : Inv X pins σ H s) (r : Vals vs us)
    (h : sp (vs ++ [V.non]) H Q E0) :
    wpAny (model X.prog X.w) X.A (call (.ref f) us) (EP X pins σ Q) X.xe s := by
  have r2 : Vals (vs ++ [V.non]) (us ++ ds) := r.append hd
  have hl : (us ++ ds).length = ps.length := r2.length.symm.trans (F.len _ _ _ _ h)
  have hbs := hb s us I.kIn hl
  refine wpAny_call (codeAny_mono
    (F.run X.A X.stack s H ⟨us, []⟩ (us ++ ds) (vs ++ [V.non]) Q hgu hr I.env0 hbs r2 h) ?_)
  intro res s' hq
  cases res with
  | error e => exact False.elim hq
  | ok fl =>
    cases fl with
    | next => cases hq
    | brk => cases hq
    | cont => cases hq
    | ret u => exact I.after hq
theorem pe_calD (c : CalK X.prog X.w X.K X.mg X.base k x ps n kw sp) (hgu : X.A.guards = some [])
    (hr : Room k X.A) (ha : PA X (e :: es) t) (hg : Gl X x := by rfl)
    (hdb : (x == ("__debug__" : Str)) = false := by decide)
    (he : starEach (e :: es) X.env = (false, eval e X.env) :: starEach es X.env := by rfl)
    (hpl : (backTo pos (starEach es X.env)).any (·.1) = false := by rfl) :
    PE X (.Call (.Name x p) (e :: es) [] pos) (tCall sp [V.non] E0 t) := by
  obtain ⟨f, fd, F, hm, hk, ⟨ds, hd, hb⟩, _⟩ := c.ex
  constructor
  intro pins s σ H Q I h
  refine wpAny_Call_Name_kw (ld_glob I hg hm ?_ hdb)
  refine PySem.W.callWith_K (h₀ := X.base) I.ok.mod.kin hk (thn (ha.run pos pins s σ H _ I h) ?_) he hpl
  intro us s1 hh
  obtain ⟨vs, H1, I1, r, q⟩ := hh
  exact ⟨I1.kIn, run_calD F hgu hr hd hb I1 r q⟩
theorem pe_calK (c : CalK X.prog X.w X.K X.mg X.base k x ps n kw sp) (hgu : X.A.guards = some [])
    (hr : Room k X.A) (ha : PA X (e :: es) t) (hkw : PK X kws tk) (hg : Gl X x := by rfl)
    (hall : (backToKw pos (keywordEach kws X.env)).all (·.1.isSome) = true := by rfl) (hks : (backToKw pos (keywordEach kws X.env)).filterMap (·.1) = [kw] := by rfl)
    (hdb : (x == ("__debug__" : Str)) = false := by decide)
    (he : starEach (e :: es) X.env = (false, eval e X.env) :: starEach es X.env := by rfl)
    (hpl : ((backTo pos (starEach (e :: es) X.env)).any (·.1) || (backToKw pos (keywordEach kws X.env)).any (·.1.isNone)) = false := by rfl) :
    PE X (.Call (.Name x p) (e :: es) kws pos) (tCallN n 1 sp (fun vs zs => vs ++ zs) E0 t tk) := by
  obtain ⟨f, fd, F, hm, hk, _, hb⟩ := c.ex
  constructor
  intro pins s σ H Q I h
  refine wpAny_Call_Name_kw (ld_glob I hg hm ?_ hdb)
  refine PySem.W.callWith_KW (h₀ := X.base) I.ok.mod.kin hk hall (thn (ha.run pos pins s σ H _ I h) fun us s1 ⟨vs, H1, I1, r, q⟩ => ?_) hpl he
  refine thn (hkw.run pos pins s1 σ H1 _ I1 q) fun ws s2 ⟨zs, H2, I2, rz, l1, l2, q2⟩ => ⟨I2.kIn, ?_⟩
  rw [hks]
  have r2 := hb.rel r rz
  refine wpAny_call (codeAny_mono (F.run X.A X.stack s2 H2 ⟨us, [kw].zip ws⟩ (us ++ ws) (vs ++ zs) Q hgu hr I2.env0 (hb.to s2 us ws I2.kIn (r.length.symm.trans l1) (rz.length.symm.trans l2)) r2 q2) ?_)
  intro res s' hq
  cases res with
  | error e => exact False.elim hq
  | ok fl =>
    cases fl with
    | next => cases hq
    | brk => cases hq
    | cont => cases hq
    | ret u => exact I2.after hq
end
section
variable {σ : L2.St} {H : Hp} {Q : VK}
theorem w_callD {sp : Sp} {t : TA} (h : t σ H fun vs H1 => sp (vs ++ [V.non]) H1 Q E0) : tCall sp [V.non] E0 t σ H Q := h
theorem w_callN {n m : Nat} {sp : Sp} {gV : List V → List V → List V} {t tk : TA} (h : t σ H fun vs H1 => tk σ H1 fun zs H2 => vs.length = n ∧ zs.length = m ∧ sp (gV vs zs) H2 Q E0) : tCallN n m sp gV E0 t tk σ H Q := h
end
end Vg

set_option Elab.async false
set_option linter.all false
set_option maxRecDepth 100000
set_option maxHeartbeats 2000000
namespace Vg
open PySem PySem.Spec PyProof.Rows L2
/-! ### certificates of periods -/
def pfL (n : Int) : List Int := P6.filter fun p => decide (n % p = 0)
theorem pfL_mem {n p : Int} : p ∈ pfL n ↔ p ∈ P6 ∧ p ∣ n := by
  unfold pfL
  rw [List.mem_filter, decide_eq_true_iff, dvd_emod]
theorem pfL_len (n : Int) : (pfL n).length ≤ 6 := List.length_filter_le _ P6
/-- the certificate of n at q -/
def CertAt (H : Hp) (q : Addr) (n : Int) : Prop := ∃ t, H q = some (.tup [.int n, .ref t]) ∧ H t = some (.tup ((pfL n).map V.int))
theorem CertAt.same {H H' : Hp} {q : Addr} {n : Int} (h : CertAt H q n) (s : Same H H') : CertAt H' q n := let ⟨t, a, b⟩ := h; ⟨t, s _ _ a, s _ _ b⟩
theorem CertAt.but {H H' : Hp} {q p L : Addr} {n : Int} {k : Nat} (h : CertAt H q n) (pn : PenAt H p L k) (s : But p H H') : CertAt H' q n :=
  let ⟨t, a, b⟩ := h; ⟨t, s _ _ (pn.ne_t a) a, s _ _ (pn.ne_t b) b⟩
def certD (n : Int) : PyData := .tuple [.int n, .tuple ((pfL n).map PyData.int)]
theorem CertAt.dp {K : PySem.W.Frag} {H : Hp} {q : Addr} {n : Int} (h : CertAt H q n) : Dp K H (.ref q) (certD n) := by
  obtain ⟨t, a, b⟩ := h
  exact Dp.tup (SqT.of a) (.cons (.int n) (.cons (Dp.tup (SqT.of b) (dp_ints _)) .nil))
theorem tints_lay (ns : List Int) : (PyData.tuple (ns.map PyData.int)).canLay0 = true := by simp only [PyData.canLay0]; exact lay_ints ns
theorem tints_shaped (ns : List Int) : SeqAt.shaped (.tuple (ns.map PyData.int)) = true := by
  unfold SeqAt.shaped
  rw [tints_lay, show PyData.depth (.tuple (ns.map PyData.int)) = 1 by simp only [PyData.depth]; rw [depth_ints]]
  rfl
theorem eqvAll_ints : ∀ ns ms : List Int, PyData.eqvAll (ns.map PyData.int) (ms.map PyData.int) = decide (ns = ms)
  | [], [] => by simp [PyData.eqvAll]
  | [], _ :: _ => by simp [PyData.eqvAll]
  | _ :: _, [] => by simp [PyData.eqvAll]
  | n :: ns, m :: ms => by
    rw [List.map_cons, List.map_cons, PyData.eqvAll, eqvAll_ints ns ms]
    show (decide (n = m) && decide (ns = ms)) = _
    rw [← Bool.decide_and]
    exact decide_eq_decide.mpr ⟨fun ⟨a, b⟩ => by rw [a, b], fun h => by cases h; exact ⟨rfl, rfl⟩⟩
theorem eqv_tints (ns ms : List Int) : PyData.eqv (.tuple (ns.map PyData.int)) (.tuple (ms.map PyData.int)) = decide (ns = ms) := by
  rw [PyData.eqv, eqvAll_ints]
theorem w_neTI {K K' : PySem.W.Frag} {H : Hp} {Q : VK} {s t : Addr} {ns ms : List Int} (hs : SqT K H s (ns.map V.int)) (ht : SqT K H t (ms.map V.int)) (h : Q (.bl (!decide (ns = ms))) H) (hk : K' = K := by rfl) : rNeD K' (.ref s) (.ref t) H Q := by
  subst hk
  refine ⟨_, _, Dp.tup hs (dp_ints ns), Dp.tup ht (dp_ints ms), tints_shaped _, tints_shaped _, ?_⟩
  rw [eqv_tints]
  exact h
theorem certD_lay (n : Int) : (certD n).canLay0 = true := by
  simp only [certD, PyData.canLay0, PyData.canLayAll0, lay_ints, Bool.and_self]
theorem certD_shaped (n : Int) : SeqAt.shaped (certD n) = true := by
  unfold SeqAt.shaped
  rw [certD_lay]
  simp [certD, PyData.depth, PyData.depthAll, depth_ints]
theorem certD_eqv (n k : Int) : PyData.eqv (certD n) (certD k) = decide (n = k) := by
  unfold certD
  rw [PyData.eqv, PyData.eqvAll, PyData.eqvAll, PyData.eqvAll, eqv_tints]
  show (decide (n = k) && (decide (pfL n = pfL k) && true)) = _
  by_cases c : n = k
  · subst c; simp
  · simp [c]
/-- what comes back, when -/
def Bk (m : Int) (f : Mp) (x d : Int) (n : Nat) : Prop := d ∣ orb m f x n - x
/-- n is said to be the period -/
def Acc (m : Int) (f : Mp) (x d : Int) (n : Int) : Prop := 1 ≤ n ∧ Sm n ∧ Bk m f x d n.toNat ∧ ∀ p ∈ P6, p ∣ n → ¬ Bk m f x d (n / p).toNat
section
variable {m : Int} {f : Mp} {x d : Int}
theorem bk_iff (hm : 2 ≤ m) (hf : Ok m f) (x0 : 0 ≤ x) (x1 : x < m) (hd : d ∣ m) {P : Nat} (hP : Per m f x d P) (n : Nat) : Bk m f x d n ↔ P ∣ n := by
  rw [← hP.dvd hm hf hd, orb_zero x0 x1]
  exact Iff.rfl
theorem acc_iff (hm : 2 ≤ m) (hf : Ok m f) (x0 : 0 ≤ x) (x1 : x < m) (hd : d ∣ m) (hs : Sm m) {P : Nat} (hP : Per m f x d P) (hPs : Sm (P : Int)) (n : Int) : Acc m f x d n ↔ n = (P : Int) := by
  have pp := hP.pos
  constructor
  · rintro ⟨n1, ns, b, low⟩
    have h1 := (bk_iff hm hf x0 x1 hd hP _).mp b
    obtain ⟨k, hk⟩ := h1
    have hkI : n = (P : Int) * (k : Int) := by
      have : ((n.toNat : Nat) : Int) = ((P * k : Nat) : Int) := by rw [hk]
      rw [Int.toNat_of_nonneg (by omega), Int.natCast_mul] at this
      exact this
    have k1 : 1 ≤ (k : Int) := by
      rcases Nat.eq_zero_or_pos k with z | z
      · rw [z] at hkI; simp at hkI; omega
      · omega
    have hk1 := sm_one ns (k : Int) k1 ⟨P, by rw [hkI, Int.mul_comm]⟩ fun p hp hd' => by
      have p2 := p6_bd hp
      obtain ⟨j, hj⟩ := hd'
      have hpn : p ∣ n := by rw [hkI, hj]; exact Int.dvd_trans (Int.dvd_mul_right p j) (Int.dvd_mul_left _ _)
      refine low p hp hpn ((bk_iff hm hf x0 x1 hd hP _).mpr ?_)
      have e : n / p = (P : Int) * j := by
        rw [hkI, hj, Int.mul_left_comm]
        exact Int.mul_ediv_cancel_left _ (by omega)
      rw [e]
      have j0 : 0 ≤ j := by
        rcases Int.lt_or_le j 0 with z | z
        · have := Int.mul_neg_of_pos_of_neg (show 0 < p by omega) z
          omega
        · exact z
      refine ⟨j.toNat, ?_⟩
      have : ((((P : Int) * j).toNat : Nat) : Int) = ((P * j.toNat : Nat) : Int) := by
        rw [Int.toNat_of_nonneg (Int.mul_nonneg (by omega) j0), Int.natCast_mul, Int.toNat_of_nonneg j0]
      exact_mod_cast this
    rw [hkI, hk1, Int.mul_one]
  · rintro rfl
    refine ⟨by omega, hPs, (bk_iff hm hf x0 x1 hd hP _).mpr (by simp), fun p hp hd' b => ?_⟩
    have p2 := p6_bd hp
    have h1 := (bk_iff hm hf x0 x1 hd hP _).mp b
    obtain ⟨j, hj⟩ := hd'
    rw [hj, Int.mul_ediv_cancel_left _ (show p ≠ 0 by omega)] at h1
    have j0 : 0 < j := by
      rcases Int.lt_or_le 0 j with z | z
      · exact z
      · have := Int.mul_le_mul_of_nonneg_left z (show 0 ≤ p by omega)
        omega
    have h2 := Nat.le_of_dvd (by omega) h1
    have h3 : 2 * j ≤ p * j := Int.mul_le_mul_of_nonneg_right p2.1 (by omega)
    omega
theorem dvd_co {a b c : Int} (h : Int.gcd a c = 1) (hd : a ∣ b * c) : a ∣ b := by
  rw [← Int.natAbs_dvd_natAbs, Int.natAbs_mul] at hd
  rw [← Int.natAbs_dvd_natAbs]
  exact Nat.Coprime.dvd_of_dvd_mul_right h hd
theorem sm_div {M : Int} (h : Sm M) : ∀ n : Int, 1 ≤ n → n ∣ M → Sm n := by
  induction h with
  | one =>
    intro n n1 hd
    have := Int.le_of_dvd (by decide) hd
    have : n = 1 := by omega
    rw [this]; exact .one
  | @mul M q hM hq ih =>
    intro n n1 hd
    have q2 := p13 hq
    have hq6 : q ∈ P6 := hq
    by_cases c : q ∣ n
    · obtain ⟨k, hk⟩ := c
      have k1 : 1 ≤ k := by
        rcases Int.lt_or_le 0 k with z | z
        · omega
        · have := Int.mul_le_mul_of_nonneg_left z (show 0 ≤ q by omega)
          omega
      have hd2 : k ∣ M := by
        obtain ⟨j, hj⟩ := hd
        refine ⟨j, Int.eq_of_mul_eq_mul_right (show q ≠ 0 by omega) ?_⟩
        rw [hj, hk, Int.mul_comm q k, Int.mul_assoc, Int.mul_assoc, Int.mul_comm q j]
      rw [hk, Int.mul_comm]
      exact .mul (ih k k1 hd2) hq
    · exact ih n n1 (dvd_co (p6_gcd hq6 c) hd)
/-- a period has no other primes -/
theorem per_sm (hm : 2 ≤ m) (hf : Ok m f) (hs : Sm m) (d1 : 1 ≤ d) (hd : d ∣ m) {n : Nat} (q : Per m f x d n) : Sm (n : Int) := by
  have sd := sm_div hs d d1 hd
  have h1 : Sm (d * ((phi d : Nat) : Int)) := by
    refine sm_mul sd ?_
    rw [← pr_phi]
    exact sm_pr _ fun p hp => (List.mem_filter.mp hp).1
  refine sm_div h1 _ (by have := q.pos; omega) ?_
  have h2 := per_dvd hm hf sd hd q
  have : ((d.toNat * phi d : Nat) : Int) = d * ((phi d : Nat) : Int) := by rw [Int.natCast_mul, Int.toNat_of_nonneg (by omega)]
  rw [← this]
  exact Int.ofNat_dvd.mpr h2
/-- the period modulo a divisor -/
theorem per_exd (hm : 2 ≤ m) (hf : Ok m f) (d1 : 1 ≤ d) (hd : d ∣ m) : ∃ n, Per m f x d n := by
  by_cases c : d = 1
  · subst c; exact ⟨1, Per.one⟩
  · obtain ⟨n, hn⟩ := per_ex (x := x % d) (show 2 ≤ d by omega) (red_ok hm hf hd (by omega))
    exact ⟨n, per_red hm hd (by omega) hn⟩
end
/-! ### promises -/
def dV (m : Int) : V → Int → Prop
  | .non, d => d = m
  | .int e, d => d = e
  | _, _ => False
def sp_pcert (K : PySem.W.Frag) : Sp := fun vs H Q _ => ∃ (m : Int) (f : Mp) (x d : Int) (t : Addr) (v : V), vs = [.int m, .ref t, .int x, v] ∧ dV m v d ∧ TpAt K H t f ∧ 2 ≤ m ∧ m ≤ 1000000000 ∧ Ok m f ∧ Sm m ∧
  0 ≤ x ∧ x < m ∧ 1 ≤ d ∧ d ∣ m ∧ ∀ H' q (n : Nat), Same H H' → H q = none → Per m f x d n → CertAt H' q n → Q (.ref q) H'
theorem w_pcert {K : PySem.W.Frag} {H : Hp} {Q : VK} {E : XK} {m : Int} {f : Mp} {x d : Int} {t : Addr} {v : V} (hv : dV m v d) (ht : TpAt K H t f) (hm : 2 ≤ m) (h9 : m ≤ 1000000000) (hf : Ok m f) (hs : Sm m) (x0 : 0 ≤ x) (x1 : x < m) (d1 : 1 ≤ d) (hd : d ∣ m)
    (h : ∀ H' q (n : Nat), Same H H' → H q = none → Per m f x d n → CertAt H' q n → Q (.ref q) H') : sp_pcert K [.int m, .ref t, .int x, v] H Q E := ⟨m, f, x, d, t, v, rfl, hv, ht, hm, h9, hf, hs, x0, x1, d1, hd, h⟩
/-- the answer of accepts_period for a certificate of n -/
def sp_aperiod (K : PySem.W.Frag) : Sp := fun vs H Q _ => ∃ (m : Int) (f : Mp) (x d n : Int) (t q : Addr) (v : V), vs = [.int m, .ref t, .int x, .ref q, v] ∧ dV m v d ∧ TpAt K H t f ∧ CertAt H q n ∧ 2 ≤ m ∧ m ≤ 1000000000 ∧ Ok m f ∧
  0 ≤ x ∧ x < m ∧ 1 ≤ d ∧ n ≤ 1000000000000000000 ∧ ∀ H' (b : Bool), Same H H' → (b = true ↔ Acc m f x d n) → Q (.bl b) H'
theorem w_aperiod {K : PySem.W.Frag} {H : Hp} {Q : VK} {E : XK} {m : Int} {f : Mp} {x d n : Int} {t q : Addr} {v : V} (hv : dV m v d) (ht : TpAt K H t f) (hq : CertAt H q n) (hm : 2 ≤ m) (h9 : m ≤ 1000000000) (hf : Ok m f) (x0 : 0 ≤ x) (x1 : x < m) (d1 : 1 ≤ d) (n9 : n ≤ 1000000000000000000)
    (h : ∀ H' (b : Bool), Same H H' → (b = true ↔ Acc m f x d n) → Q (.bl b) H') : sp_aperiod K [.int m, .ref t, .int x, .ref q, v] H Q E := ⟨m, f, x, d, n, t, q, v, rfl, hv, ht, hq, hm, h9, hf, x0, x1, d1, n9, h⟩
def sp_back (K : PySem.W.Frag) : Sp := fun vs H Q _ => ∃ (m : Int) (f : Mp) (x n d : Int) (t : Addr), vs = [.int m, .ref t, .int x, .int n, .int d] ∧ TpAt K H t f ∧ 2 ≤ m ∧ m ≤ 1000000000 ∧ Ok m f ∧ 0 ≤ n ∧ 1 ≤ d ∧
  ∀ H' (b : Bool), Same H H' → (b = true ↔ Bk m f x d n.toNat) → Q (.bl b) H'
theorem w_back {K : PySem.W.Frag} {H : Hp} {Q : VK} {E : XK} {m : Int} {f : Mp} {x n d : Int} {t : Addr} (ht : TpAt K H t f) (hm : 2 ≤ m) (h9 : m ≤ 1000000000) (hf : Ok m f) (n0 : 0 ≤ n) (d1 : 1 ≤ d)
    (h : ∀ H' (b : Bool), Same H H' → (b = true ↔ Bk m f x d n.toNat) → Q (.bl b) H') : sp_back K [.int m, .ref t, .int x, .int n, .int d] H Q E := ⟨m, f, x, n, d, t, rfl, ht, hm, h9, hf, n0, d1, h⟩
def sp_certof : Sp := fun vs H Q _ => ∃ n : Int, vs = [.int n] ∧ ∀ H' q, Same H H' → H q = none → CertAt H' q n → Q (.ref q) H'
theorem w_certof {H : Hp} {Q : VK} {E : XK} {n : Int} (h : ∀ H' q, Same H H' → H q = none → CertAt H' q n → Q (.ref q) H') : sp_certof [.int n] H Q E := ⟨n, rfl, h⟩
theorem run_sm {n : Int} (n1 : 1 ≤ n) : ∀ {d : Int} {l : List Int}, Run n d l → 1 ≤ d → Sm d → d ∣ n → ∃ ini last, d :: l = ini ++ [last] ∧ Sm last ∧ last ∣ n ∧ 1 ≤ last ∧ ∀ p ∈ P6, ¬ p ∣ n / last := by
  intro d l h
  induction h with
  | nil h => exact fun d1 ds dn => ⟨[], _, rfl, ds, dn, d1, h⟩
  | @cons d q l hq hd low r ih =>
    intro d1 ds dn
    have q2 := p6_bd hq
    have dq : d ≤ d * q := by
      have := Int.mul_le_mul_of_nonneg_left (show 1 ≤ q by omega) (show 0 ≤ d by omega)
      omega
    obtain ⟨ini, last, e, h⟩ := ih (by omega) (.mul ds hq) hd
    exact ⟨d :: ini, last, by rw [e]; rfl, h⟩
theorem chain_sm {n : Int} (n1 : 1 ≤ n) : ∃ ini last, chainL n = ini ++ [last] ∧ (last = n ↔ Sm n) := by
  obtain ⟨l, el, hr⟩ := chain_run n1
  obtain ⟨ini, last, e, h1, h2, h3, h4⟩ := run_sm n1 hr (by decide) .one (Int.one_dvd _)
  refine ⟨ini, last, by rw [el, e], fun h => by rw [← h]; exact h1, fun h => ?_⟩
  obtain ⟨k, hk⟩ := h2
  have ek : n / last = k := by rw [hk]; exact Int.mul_ediv_cancel_left _ (by omega)
  rw [ek] at h4
  have k1 : 1 ≤ k := by
    rcases Int.lt_or_le 0 k with z | z
    · omega
    · have := Int.mul_le_mul_of_nonneg_left z (show 0 ≤ last by omega)
      omega
  have := sm_one h k k1 ⟨last, by rw [hk, Int.mul_comm]⟩ h4
  rw [hk, this, Int.mul_one]
theorem w_isiTup {K K' : PySem.W.Frag} {H : Hp} {Q : VK} {a : Addr} {xs : List V} (h : H a = some (.tup xs)) (k : Q (.bl true) H) (hk : K' = K := by rfl) : rIsi K' [.ref a, .ty "tuple"] H Q := by
  subst hk
  exact ⟨_, _, _, _, true, rfl, .ty "tuple", .base (.tup h), kit_ty (by decide +kernel), k⟩
def sp_red (K : PySem.W.Frag) : Sp := fun vs H Q _ => ∃ (f : Mp) (d : Int) (t : Addr), vs = [.int d, .ref t] ∧ TpAt K H t f ∧ 1 ≤ d ∧
  ∀ H' q, Same H H' → H q = none → H' q = some (.tup [.int (f.1 % d), .int (f.2 % d)]) → Q (.ref q) H'
theorem w_red {K : PySem.W.Frag} {H : Hp} {Q : VK} {E : XK} {d : Int} {f : Mp} {t : Addr} (ht : TpAt K H t f) (hd : 1 ≤ d)
    (h : ∀ H' q, Same H H' → H q = none → H' q = some (.tup [.int (f.1 % d), .int (f.2 % d)]) → Q (.ref q) H') : sp_red K [.int d, .ref t] H Q E := ⟨f, d, t, rfl, ht, hd, h⟩
/-- modulo 1 -/
def sp_approach1 : Sp := fun vs H Q _ => ∃ (t : Addr) (x y : Int), vs = [.int 1, .ref t, .int x, .int y] ∧ ∀ H' q, Same H H' → H' q = some (.tup [.int 1, .int 1, .int 0]) → Q (.ref q) H'
def sp_period1 : Sp := fun vs H Q _ => ∃ (t : Addr) (x : Int), vs = [.int 1, .ref t, .int x] ∧ ∀ H', Same H H' → Q (.int 1) H'
def sp_periodB (K : PySem.W.Frag) : Sp := fun vs H Q E => sp_period K vs H Q E ∨ sp_period1 vs H Q E
theorem tJV {σ : L2.St} {H : Hp} {t : TE} {R : VK} (J : V → Hp → Prop) (ht : ∀ R' : VK, (∀ v H', J v H' → R' v H') → t σ H R') (hR : ∀ v H', J v H' → R v H') : t σ H R := ht R hR
theorem w_andV {σ : L2.St} {H : Hp} {Q : VK} {ta tb : TE} (h : ta σ H fun x H1 => ∃ c, x = .bl c ∧ if c = true then tb σ H1 Q else Q (.bl false) H1) : tAndV ta tb σ H Q := h
theorem w_orV {σ : L2.St} {H : Hp} {Q : VK} {ta tb : TE} (h : ta σ H fun x H1 => ∃ c, x = .bl c ∧ if c = true then Q (.bl true) H1 else tb σ H1 Q) : tOrV ta tb σ H Q := h
theorem run_all {m d : Int} {l : List Int} (h : Run m d l) : 1 ≤ d → ∀ z ∈ l, 1 ≤ z ∧ z ∣ m := by
  induction h with
  | nil h => intro _ z hz; cases hz
  | @cons d q l hq hd low r ih =>
    intro d1 z hz
    have q2 := p6_bd hq
    have dq : d ≤ d * q := by
      have := Int.mul_le_mul_of_nonneg_left (show 1 ≤ q by omega) (show 0 ≤ d by omega)
      omega
    rcases List.mem_cons.mp hz with e | e
    · rw [e]; exact ⟨by omega, hd⟩
    · exact ih (by omega) z e
theorem chain_all {m : Int} (m1 : 1 ≤ m) : ∀ z ∈ chainL m, 1 ≤ z ∧ z ∣ m := fun z hz => by
  obtain ⟨l, el, hr⟩ := chain_run m1
  rw [el] at hz
  rcases List.mem_cons.mp hz with e | e
  · rw [e]; exact ⟨by decide, Int.one_dvd _⟩
  · exact run_all hr (by decide) z e
theorem w_izip {K : PySem.W.Frag} {ta : TA} {σ : L2.St} {H : Hp} {R : L2.It → Hp → Prop} (h : ta σ H fun vs H1 => ∃ a b xs ys, vs = [.ref a, .ref b] ∧ SqL K H1 a xs ∧ SqL K H1 b ys ∧ R (Itz K a b) H1) : iZip K ta σ H R := h
/-- two certificates, compared -/
theorem w_neCert {K K' : PySem.W.Frag} {H : Hp} {Q : VK} {s t : Addr} {n k : Int} (hs : CertAt H s n) (ht : CertAt H t k) (h : Q (.bl (!decide (n = k))) H) (hk : K' = K := by rfl) : rNeD K' (.ref s) (.ref t) H Q := by
  subst hk
  refine ⟨_, _, hs.dp, ht.dp, certD_shaped n, certD_shaped k, ?_⟩
  rw [certD_eqv]
  exact h
theorem w_eqCert {K K' : PySem.W.Frag} {H : Hp} {Q : VK} {s t : Addr} {n k : Int} (hs : CertAt H s n) (ht : CertAt H t k) (h : Q (.bl (decide (n = k))) H) (hk : K' = K := by rfl) : rEqD K' (.ref s) (.ref t) H Q := by
  subst hk
  refine ⟨_, _, hs.dp, ht.dp, certD_shaped n, certD_shaped k, ?_⟩
  rw [certD_eqv]
  exact h
theorem per_dd {m : Int} {f : Mp} {x d e : Int} (hm : 2 ≤ m) (hf : Ok m f) (hd : d ∣ m) (he : e ∣ m) (hde : d ∣ e) {n k : Nat} (hn : Per m f x d n) (hk : Per m f x e k) : n ∣ k := by
  rw [← hn.dvd hm hf hd]
  exact cg_of_dvd hde ((hk.dvd hm hf he).mpr (Nat.dvd_refl k))
theorem per_of_red {m : Int} {f : Mp} {x d : Int} (hm : 2 ≤ m) (hf : Ok m f) (hd : d ∣ m) (d2 : 2 ≤ d) {n k : Nat} (hn : Per m f x d n) (hk : Per d (f.1 % d, f.2 % d) (x % d) d k) : k = n := (per_red hm hd d2 hk).alone hm hf hd hn
theorem pfL_one : pfL 1 = [] := by decide
theorem rp_bl {K : PySem.W.Frag} {H : Hp} (b : Bool) : Rp K H (.bl b) (.bool b) := rp_bool b
theorem atI_lastN {xs : List V} {j : Nat} {v : V} (h : xs[j]? = some v) (hl : xs.length = j + 1) : atI xs (-1) = some v := by
  have e : xs = xs.take j ++ [v] := by
    have h1 : xs.take (j + 1) = xs.take j ++ [v] := by rw [List.take_add_one, h]; rfl
    rw [← h1, ← hl, List.take_length]
  rw [e]
  exact atI_last _ _
end Vg

set_option Elab.async false
set_option linter.all false
set_option maxRecDepth 100000
set_option maxHeartbeats 2000000
namespace Vg
open PySem PySem.Spec PyProof.Rows L2
/-! ### certificates of distances -/
inductive DC where
  | rea (k n : Int)
  | apa (d p n k : Int)
def DcAt (H : Hp) (q : Addr) : DC → Prop
  | .rea k n => ∃ c, H q = some (.tup [.str "reached", .int k, .ref c]) ∧ CertAt H c n
  | .apa d p n k => ∃ c, H q = some (.tup [.str "apart", .int d, .int p, .ref c, .int k]) ∧ CertAt H c n
theorem DcAt.same {H H' : Hp} {q : Addr} {c : DC} (h : DcAt H q c) (s : Same H H') : DcAt H' q c := by
  match c, h with
  | .rea k n, ⟨c, a, b⟩ => exact ⟨c, s _ _ a, b.same s⟩
  | .apa d p n k, ⟨c, a, b⟩ => exact ⟨c, s _ _ a, b.same s⟩
theorem DcAt.but {H H' : Hp} {q p L : Addr} {c : DC} {k : Nat} (h : DcAt H q c) (pn : PenAt H p L k) (s : But p H H') : DcAt H' q c := by
  match c, h with
  | .rea k n, ⟨c, a, b⟩ => exact ⟨c, s _ _ (pn.ne_t a) a, b.but pn s⟩
  | .apa d p n k, ⟨c, a, b⟩ => exact ⟨c, s _ _ (pn.ne_t a) a, b.but pn s⟩
def ReaOk (m : Int) (f : Mp) (x y : Int) : DC → Prop
  | .rea k n => Acc m f x m n ∧ 0 ≤ k ∧ k < n ∧ orb m f x k.toNat = y
  | .apa .. => False
def ApaOk (m : Int) (f : Mp) (x y : Int) : DC → Prop
  | .rea .. => False
  | .apa d p n k => 1 ≤ d ∧ p ∈ P6 ∧ d * p ∣ m ∧ Acc m f x d n ∧ 0 ≤ k ∧ k < n ∧ d ∣ orb m f x k.toNat - y ∧ ∀ r : Nat, (r : Int) < p → ¬ d * p ∣ orb m f x (k.toNat + n.toNat * r) - y
/-- what distance_certificate returns -/
def Fit (m : Int) (f : Mp) (x y : Int) : DC → Prop
  | .rea k n => ∃ K N : Nat, k = (K : Int) ∧ n = (N : Int) ∧ Per m f x m N ∧ K < N ∧ orb m f x K = y
  | .apa d p n k => ∃ K N : Nat, k = (K : Int) ∧ n = (N : Int) ∧ 1 ≤ d ∧ d ∣ m ∧ App m f x y d N K ∧ p ∈ P6 ∧ d * p ∣ m ∧ (∃ i : Nat, (chainL m)[i]? = some d ∧ (chainL m)[i + 1]? = some (d * p)) ∧ ∀ e, ¬ Cg (d * p) (orb m f x e) y
theorem run_pw {m : Int} : ∀ {d : Int} {l : List Int}, Run m d l → List.Pairwise (fun a b => a ∣ b) (d :: l) := by
  intro d l h
  induction h with
  | nil h => exact List.pairwise_singleton _ _
  | @cons d q l hq hd low r ih =>
    refine List.pairwise_cons.mpr ⟨fun z hz => ?_, ih⟩
    rcases List.mem_cons.mp hz with e | e
    · rw [e]; exact Int.dvd_mul_right d q
    · exact Int.dvd_trans (Int.dvd_mul_right d q) ((List.pairwise_cons.mp ih).1 z e)
theorem chain_le {m : Int} (m1 : 1 ≤ m) {i j : Nat} {d e : Int} (h : i ≤ j) (hi : (chainL m)[i]? = some d) (hj : (chainL m)[j]? = some e) : d ∣ e := by
  obtain ⟨l, el, hr⟩ := chain_run m1
  rw [el] at hi hj
  have pw := run_pw hr
  rcases Nat.lt_or_ge i j with c | c
  · obtain ⟨h1, e1⟩ := List.getElem?_eq_some_iff.mp hi
    obtain ⟨h2, e2⟩ := List.getElem?_eq_some_iff.mp hj
    rw [← e1, ← e2]
    exact List.pairwise_iff_getElem.mp pw i j h1 h2 c
  · have : i = j := by omega
    subst this
    rw [hi] at hj
    cases hj
    exact Int.dvd_refl _
theorem Fit.alone {m : Int} {f : Mp} {x y : Int} (hm : 2 ≤ m) (hf : Ok m f) {c c' : DC} (h : Fit m f x y c) (h' : Fit m f x y c') : c = c' := by
  match c, c', h, h' with
  | .rea k n, .rea k' n', ⟨K, N, e1, e2, P, l, o⟩, ⟨K', N', e1', e2', P', l', o'⟩ =>
    have eN := P.alone hm hf (Int.dvd_refl m) P'
    subst eN
    have := (orb_cgN hm hf P).mp (o.trans o'.symm)
    rw [Nat.mod_eq_of_lt l, Nat.mod_eq_of_lt l'] at this
    subst this
    rw [e1, e2, e1', e2']
  | .rea k n, .apa d' p' n' k', ⟨K, N, e1, e2, P, l, o⟩, ⟨K', N', e1', e2', d1, dm, A, hp, hd, ix, no⟩ => exact absurd (Cg.of o) (no K)
  | .apa d p n k, .rea k' n', ⟨K', N', e1', e2', d1, dm, A, hp, hd, ix, no⟩, ⟨K, N, e1, e2, P, l, o⟩ => exact absurd (Cg.of o) (no K)
  | .apa d p n k, .apa d' p' n' k', ⟨K, N, e1, e2, d1, dm, A, hp, hd, ⟨i, i1, i2⟩, no⟩, ⟨K', N', e1', e2', d1', dm', A', hp', hd', ⟨j, j1, j2⟩, no'⟩ =>
    have ij : i = j := by
      rcases Nat.lt_trichotomy i j with c | c | c
      · have := chain_le (by omega) (show i + 1 ≤ j by omega) i2 j1
        exact absurd (cg_of_dvd this A'.at_) (no K')
      · exact c
      · have := chain_le (by omega) (show j + 1 ≤ i by omega) j2 i1
        exact absurd (cg_of_dvd this A.at_) (no' K)
    subst ij
    rw [i1] at j1
    cases j1
    rw [i2] at j2
    have ep : p = p' := Int.eq_of_mul_eq_mul_left (show d ≠ 0 by omega) (Option.some.inj j2)
    subst ep
    have eN := A.per.alone hm hf dm A'.per
    subst eN
    have h1 := (A.iff hm hf dm K').mp A'.at_
    rw [Nat.mod_eq_of_lt A'.lt] at h1
    subst h1
    rw [e1, e2, e1', e2']
theorem Fit.ok {m : Int} {f : Mp} {x y : Int} (hm : 2 ≤ m) (hf : Ok m f) (hs : Sm m) (x0 : 0 ≤ x) (x1 : x < m) {c : DC} (h : Fit m f x y c) : (ReaOk m f x y c ∨ ApaOk m f x y c) := by
  match c, h with
  | .rea k n, ⟨K, N, e1, e2, P, l, o⟩ =>
    subst e1 e2
    exact .inl ⟨(acc_iff hm hf x0 x1 (Int.dvd_refl m) hs P (per_sm hm hf hs (by omega) (Int.dvd_refl m) P) _).mpr rfl, by omega, by omega, by simpa using o⟩
  | .apa d p n k, ⟨K, N, e1, e2, d1, dm, A, hp, hd, ix, no⟩ =>
    subst e1 e2
    exact .inr ⟨d1, hp, hd, (acc_iff hm hf x0 x1 dm hs A.per (per_sm hm hf hs d1 dm A.per) _).mpr rfl, by omega, by have := A.lt; omega, A.at_, fun r hr => no _⟩
def DcBd : DC → Prop
  | .rea k n => n ≤ 1000000000000000000
  | .apa d p n k => n ≤ 1000000000000000000
theorem Fit.bd {m : Int} {f : Mp} {x y : Int} (hm : 2 ≤ m) (h9 : m ≤ 1000000000) (hf : Ok m f) {c : DC} (h : Fit m f x y c) : DcBd c := by
  match c, h with
  | .rea k n, ⟨K, N, e1, e2, P, l, o⟩ =>
    have := per_small hm hf (Int.dvd_refl m) (by omega) P
    show n ≤ _
    omega
  | .apa d p n k, ⟨K, N, e1, e2, d1, dm, A, hp, hd, ix, no⟩ =>
    have := per_small hm hf dm d1 A.per
    have := Int.le_of_dvd (by omega) dm
    show n ≤ _
    omega
theorem filter_head {p : Int} {q : Int → Bool} (hp : p ∈ P6) (h : q p = true) (low : ∀ p' ∈ P6, p' < p → q p' = false) : P6.filter q = p :: (P6.filter q).tail := by
  have l : ∀ a ∈ P6, a < p → q a = false := low
  simp only [P6, List.mem_cons, List.not_mem_nil, or_false] at hp
  rcases hp with rfl | rfl | rfl | rfl | rfl | rfl
  · simp [P6, List.filter_cons, h]
  · simp [P6, List.filter_cons, h, l 2 (by decide) (by decide)]
  · simp [P6, List.filter_cons, h, l 2 (by decide) (by decide), l 3 (by decide) (by decide)]
  · simp [P6, List.filter_cons, h, l 2 (by decide) (by decide), l 3 (by decide) (by decide), l 5 (by decide) (by decide)]
  · simp [P6, List.filter_cons, h, l 2 (by decide) (by decide), l 3 (by decide) (by decide), l 5 (by decide) (by decide), l 7 (by decide) (by decide)]
  · simp [P6, List.filter_cons, h, l 2 (by decide) (by decide), l 3 (by decide) (by decide), l 5 (by decide) (by decide), l 7 (by decide) (by decide), l 11 (by decide) (by decide)]
/-! ### promises -/
def sp_form : Sp := fun vs H Q _ => ∃ (q : Addr) (s w : Str) (xs : List V) (n : Int), vs = [.ref q, .str w, .int n] ∧ H q = some (.tup (.str s :: xs)) ∧ ∀ b : Bool, (b = true ↔ (((V.str s :: xs).length : Nat) : Int) = n ∧ s = w) → Q (.bl b) H
theorem w_form {H : Hp} {Q : VK} {E : XK} {q : Addr} {s w : Str} {xs : List V} {n : Int} (e : H q = some (.tup (.str s :: xs))) (h : ∀ b : Bool, (b = true ↔ (((V.str s :: xs).length : Nat) : Int) = n ∧ s = w) → Q (.bl b) H) : sp_form [.ref q, .str w, .int n] H Q E :=
  ⟨q, s, w, xs, n, rfl, e, h⟩
theorem w_betw {K : PySem.W.Frag} {H : Hp} {Q : VK} {E : XK} {v lo hi : Int} (h : ∀ b : Bool, (b = true ↔ lo ≤ v ∧ v ≤ hi) → Q (.bl b) H) : sp_between K [.int v, .int lo, .int hi] H Q E :=
  ⟨.int v, lo, hi, rfl, kd_int v, h _ (by show (decide (lo ≤ v) && decide (v ≤ hi)) = true ↔ _; simp)⟩
def sp_dcert (K : PySem.W.Frag) : Sp := fun vs H Q _ => ∃ (m : Int) (f : Mp) (x y : Int) (t : Addr), vs = [.int m, .ref t, .int x, .int y] ∧ TpAt K H t f ∧ 2 ≤ m ∧ m ≤ 1000000000 ∧ Ok m f ∧ Sm m ∧ 0 ≤ x ∧ x < m ∧ 0 ≤ y ∧ y < m ∧
  ∀ H' q c, Same H H' → H q = none → DcAt H' q c → Fit m f x y c → Q (.ref q) H'
theorem w_dcert {K : PySem.W.Frag} {H : Hp} {Q : VK} {E : XK} {m : Int} {f : Mp} {x y : Int} {t : Addr} (ht : TpAt K H t f) (hm : 2 ≤ m) (h9 : m ≤ 1000000000) (hf : Ok m f) (hs : Sm m) (x0 : 0 ≤ x) (x1 : x < m) (y0 : 0 ≤ y) (y1 : y < m)
    (h : ∀ H' q c, Same H H' → H q = none → DcAt H' q c → Fit m f x y c → Q (.ref q) H') : sp_dcert K [.int m, .ref t, .int x, .int y] H Q E := ⟨m, f, x, y, t, rfl, ht, hm, h9, hf, hs, x0, x1, y0, y1, h⟩
def QAt (K : PySem.W.Frag) (H : Hp) (u : Addr) (f : Mp) (x y : Int) : Prop := ∃ t, SqT K H u [.ref t, .int x, .int y] ∧ TpAt K H t f
def sp_acc (K : PySem.W.Frag) (R : Int → Mp → Int → Int → DC → Prop) : Sp := fun vs H Q _ => ∃ (m : Int) (f : Mp) (x y : Int) (u q : Addr) (c : DC), vs = [.int m, .ref u, .ref q] ∧ QAt K H u f x y ∧ DcAt H q c ∧ DcBd c ∧ 2 ≤ m ∧ m ≤ 1000000000 ∧ Ok m f ∧ 0 ≤ x ∧ x < m ∧
  ∀ H' (b : Bool), Same H H' → (b = true ↔ R m f x y c) → Q (.bl b) H'
theorem w_acc {K : PySem.W.Frag} {R : Int → Mp → Int → Int → DC → Prop} {H : Hp} {Q : VK} {E : XK} {m : Int} {f : Mp} {x y : Int} {u q : Addr} {c : DC} (hu : QAt K H u f x y) (hq : DcAt H q c) (hb : DcBd c) (hm : 2 ≤ m) (h9 : m ≤ 1000000000) (hf : Ok m f) (x0 : 0 ≤ x) (x1 : x < m)
    (h : ∀ H' (b : Bool), Same H H' → (b = true ↔ R m f x y c) → Q (.bl b) H') : sp_acc K R [.int m, .ref u, .ref q] H Q E := ⟨m, f, x, y, u, q, c, rfl, hu, hq, hb, hm, h9, hf, x0, x1, h⟩
def DcOk (m : Int) (f : Mp) (x y : Int) (c : DC) : Prop := ReaOk m f x y c ∨ ApaOk m f x y c
def sp_adist (K : PySem.W.Frag) : Sp := fun vs H Q _ => ∃ (m : Int) (f : Mp) (x y : Int) (t q : Addr) (c : DC), vs = [.int m, .ref t, .int x, .int y, .ref q] ∧ TpAt K H t f ∧ DcAt H q c ∧ DcBd c ∧ 2 ≤ m ∧ m ≤ 1000000000 ∧ Ok m f ∧ 0 ≤ x ∧ x < m ∧
  ∀ H' (b : Bool), Same H H' → (b = true ↔ DcOk m f x y c) → Q (.bl b) H'
theorem w_adist {K : PySem.W.Frag} {H : Hp} {Q : VK} {E : XK} {m : Int} {f : Mp} {x y : Int} {t q : Addr} {c : DC} (ht : TpAt K H t f) (hq : DcAt H q c) (hb : DcBd c) (hm : 2 ≤ m) (h9 : m ≤ 1000000000) (hf : Ok m f) (x0 : 0 ≤ x) (x1 : x < m)
    (h : ∀ H' (b : Bool), Same H H' → (b = true ↔ DcOk m f x y c) → Q (.bl b) H') : sp_adist K [.int m, .ref t, .int x, .int y, .ref q] H Q E := ⟨m, f, x, y, t, q, c, rfl, ht, hq, hb, hm, h9, hf, x0, x1, h⟩
theorem w_notInT {K K' : PySem.W.Frag} {H : Hp} {Q : VK} {y : Int} {a : Addr} {ns : List Int} (e : SqT K H a (ns.map V.int)) (h : Q (.bl (!decide (y ∈ ns))) H) (hk : K' = K := by rfl) : rIn K' true (.int y) (.ref a) H Q := by
  subst hk
  refine ⟨a, _, rfl, .inr e, rfl, flat_ints ns, ?_⟩
  rw [if_pos rfl, inV_int]
  exact h
theorem its_ints {K : PySem.W.Frag} {H : Hp} : ∀ ns : List Int, (∀ z ∈ ns, z.natAbs < 1000000000000) → Its K H (ns.map V.int) (ns.map PyData.int) 0 ns.length
  | [], _ => .nil
  | n :: ns, h => by
    have := Its.cons (it_int (K := K) (H := H) (h n (List.mem_cons_self ..))) (its_ints ns fun z hz => h z (List.mem_cons_of_mem _ hz))
    rw [List.length_cons, show ns.length + 1 = 0 + 1 + ns.length by omega]
    exact this
theorem pfL_abs {n z : Int} (h : z ∈ pfL n) : z.natAbs < 1000000000000 := by
  have := p6_bd (pfL_mem.mp h).1
  omega
theorem rp_pf {K : PySem.W.Frag} {H : Hp} {t : Addr} {n : Int} (e : H t = some (.tup ((pfL n).map V.int))) : Rp K H (.ref t) (.tuple ((pfL n).map PyData.int)) := by
  have := pfL_len n
  exact (it_tup e (its_ints _ fun z hz => pfL_abs hz)).rp (by decide) (by omega)
theorem CertAt.it {K : PySem.W.Frag} {H : Hp} {q : Addr} {n : Int} (h : CertAt H q n) (hn : n.natAbs < 1000000000000) : It K H (.ref q) (certD n) 2 20 := by
  obtain ⟨t, a, b⟩ := h
  have := pfL_len n
  exact (it_tup a (.cons ((it_int hn).up (by decide) (Nat.le_refl 0)) (.cons ((it_tup b (its_ints _ fun z hz => pfL_abs hz)).up (Nat.le_refl 1) (show (pfL n).length ≤ 6 by omega)) .nil))).up (Nat.le_refl 2) (by decide)
def dcD : DC → PyData
  | .rea k n => .tuple [.str "reached", .int k, certD n]
  | .apa d p n k => .tuple [.str "apart", .int d, .int p, certD n, .int k]
def DcSm : DC → Prop
  | .rea k n => k.natAbs < 1000000000000 ∧ n.natAbs < 1000000000000
  | .apa d p n k => d.natAbs < 1000000000000 ∧ p.natAbs < 1000000000000 ∧ n.natAbs < 1000000000000 ∧ k.natAbs < 1000000000000
theorem DcAt.rp {K : PySem.W.Frag} {H : Hp} {q : Addr} {c : DC} (h : DcAt H q c) (s : DcSm c) : Rp K H (.ref q) (dcD c) := by
  match c, h, s with
  | .rea k n, ⟨c, a, b⟩, ⟨s1, s2⟩ =>
    exact (it_tup a (.cons ((it_str (by decide +kernel) (by decide +kernel)).up (by decide) (Nat.le_refl 100)) (.cons ((it_int s1).up (by decide) (Nat.le_refl 0)) (.cons (b.it s2) .nil)))).rp (by decide) (by decide)
  | .apa d p n k, ⟨c, a, b⟩, ⟨s1, s2, s3, s4⟩ =>
    exact (it_tup a (.cons ((it_str (by decide +kernel) (by decide +kernel)).up (by decide) (Nat.le_refl 100)) (.cons ((it_int s1).up (by decide) (Nat.le_refl 0)) (.cons ((it_int s2).up (by decide) (Nat.le_refl 0)) (.cons (b.it s3) (.cons ((it_int s4).up (by decide) (Nat.le_refl 0)) .nil)))))).rp (by decide) (by decide)
theorem Fit.sm {m : Int} {f : Mp} {x y : Int} (hm : 2 ≤ m) (h9 : m ≤ 1000000000) (hf : Ok m f) {c : DC} (h : Fit m f x y c) : DcSm c := by
  match c, h with
  | .rea k n, ⟨K, N, e1, e2, P, l, o⟩ =>
    have := per_small hm hf (Int.dvd_refl m) (by omega) P
    exact ⟨by omega, by omega⟩
  | .apa d p n k, ⟨K, N, e1, e2, d1, dm, A, hp, hd, ix, no⟩ =>
    have := per_small hm hf dm d1 A.per
    have := Int.le_of_dvd (by omega) dm
    have := A.lt
    have := p6_bd hp
    exact ⟨by omega, by omega, by omega, by omega⟩
/-! ### the law's own side, modulo 1 too -/
def sp_lpow1 (K : PySem.W.Frag) : Sp := fun vs H Q _ => ∃ (f : Mp) (e : Int) (t : Addr), vs = [.int 1, .ref t, .int e] ∧ TpAt K H t f ∧ 0 ≤ f.1 ∧ f.1 ≤ 1 ∧ 0 ≤ e ∧ ∀ H' q (p : Mp), Same H H' → H' q = some (.tup [.int p.1, .int p.2]) → 0 ≤ p.1 → p.1 ≤ 1 → Q (.ref q) H'
theorem w_lpow1 {K : PySem.W.Frag} {H : Hp} {Q : VK} {E : XK} {f : Mp} {e : Int} {t : Addr} (ht : TpAt K H t f) (f0 : 0 ≤ f.1) (f1 : f.1 ≤ 1) (e0 : 0 ≤ e)
    (h : ∀ H' q (p : Mp), Same H H' → H' q = some (.tup [.int p.1, .int p.2]) → 0 ≤ p.1 → p.1 ≤ 1 → Q (.ref q) H') : sp_lpow1 K [.int 1, .ref t, .int e] H Q E := ⟨f, e, t, rfl, ht, f0, f1, e0, h⟩
def sp_iterD (K : PySem.W.Frag) : Sp := fun vs H Q _ => ∃ (m : Int) (f : Mp) (x d x' e : Int) (t : Addr), vs = [.int d, .ref t, .int x', .int e] ∧ TpAt K H t (f.1 % d, f.2 % d) ∧ 2 ≤ m ∧ m ≤ 1000000000 ∧ Ok m f ∧ 1 ≤ d ∧ d ∣ m ∧ 0 ≤ e ∧ d ∣ x' - x ∧
  ∀ H', Same H H' → Q (.int (orb m f x e.toNat % d)) H'
theorem w_iterD {K : PySem.W.Frag} {H : Hp} {Q : VK} {E : XK} {m : Int} {f : Mp} {x d x' e : Int} {t : Addr} (ht : TpAt K H t (f.1 % d, f.2 % d)) (hm : 2 ≤ m) (h9 : m ≤ 1000000000) (hf : Ok m f) (d1 : 1 ≤ d) (hd : d ∣ m) (e0 : 0 ≤ e) (hx : d ∣ x' - x)
    (h : ∀ H', Same H H' → Q (.int (orb m f x e.toNat % d)) H') : sp_iterD K [.int d, .ref t, .int x', .int e] H Q E := ⟨m, f, x, d, x', e, t, rfl, ht, hm, h9, hf, d1, hd, e0, hx, h⟩
theorem img_cong {d : Int} {p : Mp} {x y : Int} (h : d ∣ x - y) : img d p x = img d p y := by
  unfold img
  refine Int.emod_eq_emod_iff_emod_sub_eq_zero.mpr (Int.emod_eq_zero_of_dvd ?_)
  have : p.1 * x + p.2 - (p.1 * y + p.2) = p.1 * (x - y) := by rw [Int.mul_sub]; omega
  rw [this]
  exact Int.dvd_trans h (Int.dvd_mul_left _ _)
theorem orb_at_red {m : Int} {f : Mp} {x d x' : Int} (hm : 2 ≤ m) (hd : d ∣ m) (d2 : 2 ≤ d) (hx : d ∣ x' - x) (e : Nat) : orb d (f.1 % d, f.2 % d) x' e = orb m f x e % d := by
  have h1 : orb d (f.1 % d, f.2 % d) x' e = orb d (f.1 % d, f.2 % d) (x % d) e := by
    unfold orb
    refine img_cong ?_
    obtain ⟨k, hk⟩ := hx
    have := Int.emod_add_mul_ediv x d
    refine ⟨k + x / d, ?_⟩
    rw [Int.mul_add]
    omega
  rw [h1]
  have h2 := orb_red (f := f) (x := x) hm hd d2 e
  have b := orb_bd (m := d) (f := (f.1 % d, f.2 % d)) (x := x % d) d2 e
  rw [← Int.emod_eq_of_lt b.1 b.2]
  exact Int.emod_eq_emod_iff_emod_sub_eq_zero.mpr (Int.emod_eq_zero_of_dvd h2)
def sp_lretD (K : PySem.W.Frag) : Sp := fun vs H Q _ => ∃ (m : Int) (f : Mp) (x d c : Int) (t : Addr), vs = [.ref t, .int x, .int d, .int c] ∧ TpAt K H t f ∧ 2 ≤ m ∧ m ≤ 1000000000 ∧ Ok m f ∧ 1 ≤ d ∧ d ∣ m ∧ 0 ≤ c ∧
  ∀ H' (b : Bool), Same H H' → (b = true ↔ Bk m f x d c.toNat) → Q (.bl b) H'
theorem w_lretD {K : PySem.W.Frag} {H : Hp} {Q : VK} {E : XK} {m : Int} {f : Mp} {x d c : Int} {t : Addr} (ht : TpAt K H t f) (hm : 2 ≤ m) (h9 : m ≤ 1000000000) (hf : Ok m f) (d1 : 1 ≤ d) (hd : d ∣ m) (c0 : 0 ≤ c)
    (h : ∀ H' (b : Bool), Same H H' → (b = true ↔ Bk m f x d c.toNat) → Q (.bl b) H') : sp_lretD K [.ref t, .int x, .int d, .int c] H Q E := ⟨m, f, x, d, c, t, rfl, ht, hm, h9, hf, d1, hd, c0, h⟩
def sp_lpv (K : PySem.W.Frag) : Sp := fun vs H Q _ => ∃ (m : Int) (f : Mp) (x d n : Int) (t q : Addr), vs = [.ref t, .int x, .int d, .ref q] ∧ TpAt K H t f ∧ CertAt H q n ∧ 2 ≤ m ∧ m ≤ 1000000000 ∧ Ok m f ∧ 1 ≤ d ∧ d ∣ m ∧ n ≤ 1000000000000 ∧
  ∀ H' (b : Bool), Same H H' → (b = true ↔ Acc m f x d n) → Q (.bl b) H'
theorem w_lpv {K : PySem.W.Frag} {H : Hp} {Q : VK} {E : XK} {m : Int} {f : Mp} {x d n : Int} {t q : Addr} (ht : TpAt K H t f) (hq : CertAt H q n) (hm : 2 ≤ m) (h9 : m ≤ 1000000000) (hf : Ok m f) (d1 : 1 ≤ d) (hd : d ∣ m) (n9 : n ≤ 1000000000000)
    (h : ∀ H' (b : Bool), Same H H' → (b = true ↔ Acc m f x d n) → Q (.bl b) H') : sp_lpv K [.ref t, .int x, .int d, .ref q] H Q E := ⟨m, f, x, d, n, t, q, rfl, ht, hq, hm, h9, hf, d1, hd, n9, h⟩
def sp_lval (K : PySem.W.Frag) (R : Int → Mp → Int → Int → DC → Prop) : Sp := fun vs H Q _ => ∃ (m : Int) (f : Mp) (x y : Int) (t q : Addr) (c : DC), vs = [.int m, .ref t, .int x, .int y, .ref q] ∧ TpAt K H t f ∧ DcAt H q c ∧ DcSm c ∧ 2 ≤ m ∧ m ≤ 1000000000 ∧ Ok m f ∧
  ∀ H' (b : Bool), Same H H' → (b = true ↔ R m f x y c) → Q (.bl b) H'
theorem w_lval {K : PySem.W.Frag} {R : Int → Mp → Int → Int → DC → Prop} {H : Hp} {Q : VK} {E : XK} {m : Int} {f : Mp} {x y : Int} {t q : Addr} {c : DC} (ht : TpAt K H t f) (hq : DcAt H q c) (hb : DcSm c) (hm : 2 ≤ m) (h9 : m ≤ 1000000000) (hf : Ok m f)
    (h : ∀ H' (b : Bool), Same H H' → (b = true ↔ R m f x y c) → Q (.bl b) H') : sp_lval K R [.int m, .ref t, .int x, .int y, .ref q] H Q E := ⟨m, f, x, y, t, q, c, rfl, ht, hq, hb, hm, h9, hf, h⟩
theorem w_isiStr {K K' : PySem.W.Frag} {H : Hp} {Q : VK} {s : Str} (k : Q (.bl true) H) (hk : K' = K := by rfl) : rIsi K' [.str s, .ty "str"] H Q := by
  subst hk
  exact ⟨_, _, _, _, true, rfl, .ty "str", .base (.str _), kit_ty (by decide +kernel), k⟩
/-! ### x is not True, for a bool -/
def rNotB : R2 := fun x y H Q => ∃ a b : Bool, x = .bl a ∧ y = .bl b ∧ Q (.bl (!decide (a = b))) H
theorem op_isnotB {X : Cx} : OpR X (compareOp .IsNot) rNotB := by
  intro pins s σ H x y v u Q I rx ry h
  obtain ⟨a, b, rfl, rfl, q⟩ := h
  cases rx
  cases ry
  show wpAny _ _ ((isSame (Value.bool a) (Value.bool b)) >>= fun z => pure (Value.bool (!z))) _ _ s
  refine wpAny_bind (wpAny_isSame_plain (by rfl) ?_)
  cases a <;> cases b <;> exact wpAny_pure (fin_bl I q rfl)
theorem w_notB {H : Hp} {Q : VK} {a b : Bool} (h : Q (.bl (!decide (a = b))) H) : rNotB (.bl a) (.bl b) H Q := ⟨a, b, rfl, rfl, h⟩
/-- the first item of a certificate -/
def tagOf : DC → Str
  | .rea .. => "reached"
  | .apa .. => "apart"
theorem DcAt.tag {H : Hp} {q : Addr} {c : DC} (h : DcAt H q c) : ∃ xs, H q = some (.tup (.str (tagOf c) :: xs)) := by
  match c, h with
  | .rea k n, ⟨c, a, b⟩ => exact ⟨_, a⟩
  | .apa d p n k, ⟨c, a, b⟩ => exact ⟨_, a⟩
/-- the law's own period modulo a divisor -/
def sp_lperD (K : PySem.W.Frag) : Sp := fun vs H Q _ => ∃ (m : Int) (f : Mp) (x d : Int) (t : Addr), vs = [.ref t, .int x, .int d] ∧ TpAt K H t f ∧ 2 ≤ m ∧ m ≤ 1000000000 ∧ Ok m f ∧ Sm m ∧ 0 ≤ x ∧ x < m ∧ 1 ≤ d ∧ d ∣ m ∧
  ∀ H' (n : Nat), Same H H' → Per m f x d n → Q (.int n) H'
theorem w_lperD {K : PySem.W.Frag} {H : Hp} {Q : VK} {E : XK} {m : Int} {f : Mp} {x d : Int} {t : Addr} (ht : TpAt K H t f) (hm : 2 ≤ m) (h9 : m ≤ 1000000000) (hf : Ok m f) (hs : Sm m) (x0 : 0 ≤ x) (x1 : x < m) (d1 : 1 ≤ d) (hd : d ∣ m)
    (h : ∀ H' (n : Nat), Same H H' → Per m f x d n → Q (.int n) H') : sp_lperD K [.ref t, .int x, .int d] H Q E := ⟨m, f, x, d, t, rfl, ht, hm, h9, hf, hs, x0, x1, d1, hd, h⟩
/-- no certificate of a wrong form is valid -/
theorem ApaOk.no {m : Int} {f : Mp} {x y : Int} (hm : 2 ≤ m) (hf : Ok m f) (hs : Sm m) (x0 : 0 ≤ x) (x1 : x < m) {c : DC} (h : ApaOk m f x y c) (e : Nat) : orb m f x e ≠ y := by
  match c, h with
  | .apa d p n k, ⟨d1, hp, hdp, hA, k0, k1, hy, no⟩ =>
    have p2 := p6_bd hp
    have hd : d ∣ m := Int.dvd_trans (Int.dvd_mul_right d p) hdp
    obtain ⟨N, hN⟩ := per_exd (x := x) hm hf d1 hd
    have eN := (acc_iff hm hf x0 x1 hd hs hN (per_sm hm hf hs d1 hd hN) n).mp hA
    have A : App m f x y d N k.toNat := ⟨hN, by omega, hy⟩
    have st := A.stop hm hf p2.1 d1 hdp (fun r hr c => no r hr (by
      have e1 : k.toNat + n.toNat * r = k.toNat + r * N := by rw [eN, Int.toNat_natCast, Nat.mul_comm]
      rw [e1]; exact c)) e
    exact fun z => st (Cg.of z)
theorem DcOk.apa_no {m : Int} {f : Mp} {x y d p n k : Int} (hm : 2 ≤ m) (hf : Ok m f) (hs : Sm m) (x0 : 0 ≤ x) (x1 : x < m) {e : Nat} (he : orb m f x e = y) : ¬ DcOk m f x y (.apa d p n k) := fun h => by
  rcases h with h | h
  · exact h
  · exact h.no hm hf hs x0 x1 e he
theorem DcOk.rea_no {m : Int} {f : Mp} {x y n k : Int} (hno : ∀ e, orb m f x e ≠ y) : ¬ DcOk m f x y (.rea k n) := fun h => by
  rcases h with h | h
  · exact hno _ h.2.2.2
  · exact h
theorem orb_turn {m : Int} {f : Mp} {x y : Int} (hm : 2 ≤ m) (hf : Ok m f) (y0 : 0 ≤ y) (y1 : y < m) {K : Nat} (h : orb m f y K = x) : ∃ e, orb m f x e = y := by
  obtain ⟨N, hN⟩ := per_ex (x := y) hm hf
  refine ⟨N * K - K, ?_⟩
  have h1 : K ≤ N * K := Nat.le_mul_of_pos_left K hN.pos
  rw [← h, ← orb_add hm hf, show K + (N * K - K) = N * K by omega]
  exact (per_ret hm hf y0 y1 hN (N * K)).mpr ⟨K, rfl⟩
/-! ### the law's divisors, the greatest one once -/
def sp_divU : Sp := fun vs H Q _ => ∃ m : Int, vs = [.int m] ∧ 1 ≤ m ∧ m ≤ 1000000000 ∧ Sm m ∧
  ∀ H' l (ini : List Int), Same H H' → H l = none → H' l = some (.lst ((ini ++ [m]).map V.int)) → ini.length + 1 ≤ 400000 → (∀ d ∈ ini, 1 ≤ d ∧ d ∣ m ∧ d < m) → (1 ∈ ini ∨ m = 1) → Q (.ref l) H'
theorem w_divU {H : Hp} {Q : VK} {E : XK} {m : Int} (hm : 1 ≤ m) (h9 : m ≤ 1000000000) (hs : Sm m)
    (h : ∀ H' l (ini : List Int), Same H H' → H l = none → H' l = some (.lst ((ini ++ [m]).map V.int)) → ini.length + 1 ≤ 400000 → (∀ d ∈ ini, 1 ≤ d ∧ d ∣ m ∧ d < m) → (1 ∈ ini ∨ m = 1) → Q (.ref l) H') : sp_divU [.int m] H Q E := ⟨m, rfl, hm, h9, hs, h⟩
structure Top (m : Int) (i : Nat) (ds : List Int) (left : Int) : Prop where
  ex : ∃ M, 1 ≤ M ∧ M * left = m ∧ ds.count M = 1 ∧ ∀ d ∈ ds, d ≤ M
  no : ∀ j, j < i → ∀ p, P6[j]? = some p → ¬ p ∣ left
  one : 1 ∈ ds
theorem count_mul {q : Int} (hq : 1 ≤ q) (M : Int) : ∀ ds : List Int, (ds.map fun d => d * q).count (M * q) = ds.count M
  | [] => rfl
  | d :: ds => by
    rw [List.map_cons, List.count_cons, List.count_cons, count_mul hq M ds]
    congr 1
    by_cases c : d = M
    · subst c; simp
    · have : ¬ d * q = M * q := fun z => c (Int.eq_of_mul_eq_mul_right (show q ≠ 0 by omega) z)
      simp [c, this]
theorem Top.step {m : Int} {i : Nat} {ds ini : List Int} {l0 l p last : Int} (w : Top m i ds l0) (hp : P6[i]? = some p) (hl : last * l = l0) (h1 : 1 ≤ last) (hini : ∀ f ∈ ini, f < last) (hnp : ¬ p ∣ l)
    (hd1 : ∀ d ∈ ds, 1 ≤ d) (h1m : 1 ∈ ini ++ [last]) : Top m (i + 1) ((ini ++ [last]).flatMap fun f => ds.map fun d => d * f) l := by
  obtain ⟨M, M1, e, c, le⟩ := w.ex
  refine ⟨⟨M * last, ?_, ?_, ?_, ?_⟩, ?_, List.mem_flatMap.mpr ⟨1, h1m, List.mem_map.mpr ⟨1, w.one, rfl⟩⟩⟩
  · have := Int.mul_le_mul_of_nonneg_left h1 (show 0 ≤ M by omega); omega
  · rw [Int.mul_assoc, hl, e]
  · rw [List.flatMap_append, List.count_append, show ([last].flatMap fun f => ds.map fun d => d * f) = ds.map fun d => d * last by simp, count_mul h1, c]
    have : ¬ M * last ∈ (ini.flatMap fun f => ds.map fun d => d * f) := fun z => by
      obtain ⟨f, hf, z⟩ := List.mem_flatMap.mp z
      obtain ⟨d, hd, z⟩ := List.mem_map.mp z
      have a1 := hini f hf
      have a2 := hd1 d hd
      have a3 := Int.mul_lt_mul_of_pos_left a1 (show 0 < d by omega)
      have a4 := Int.mul_le_mul_of_nonneg_right (le d hd) (show 0 ≤ last by omega)
      omega
    rw [List.count_eq_zero.mpr this]
  · intro z hz
    obtain ⟨f, hf, z1⟩ := List.mem_flatMap.mp hz
    obtain ⟨d, hd, z2⟩ := List.mem_map.mp z1
    have a2 := hd1 d hd
    have a1 : f ≤ last := by
      rcases List.mem_append.mp hf with y | y
      · have := hini f y; omega
      · rw [List.mem_singleton.mp y]; exact Int.le_refl _
    have a3 := Int.mul_le_mul_of_nonneg_left a1 (show 0 ≤ d by omega)
    have a4 := Int.mul_le_mul_of_nonneg_right (le d hd) (show 0 ≤ last by omega)
    omega
  · intro j hj q hq hdv
    rcases Nat.lt_or_ge j i with y | y
    · exact w.no j y q hq (by rw [← hl]; exact Int.dvd_trans hdv (Int.dvd_mul_left _ _))
    · have : j = i := by omega
      subst this
      rw [hp] at hq
      cases hq
      exact hnp hdv
theorem Top.done {m : Int} {ds ns : List Int} {left : Int} (w : Top m 6 ds left) (hs : Sm m) (hl : 0 < left) (hpm : ns.Perm ds) (hso : ns.Pairwise (· ≤ ·)) : ∃ ini, ns = ini ++ [m] ∧ (∀ d ∈ ini, d < m) ∧ (1 ∈ ini ∨ m = 1) := by
  obtain ⟨M, M1, e, c, le⟩ := w.ex
  have l1 : left = 1 := sm_one hs left (by omega) ⟨M, by rw [← e, Int.mul_comm]⟩ fun p hp hd => by
    obtain ⟨j, hj, ej⟩ := List.getElem_of_mem hp
    exact w.no j hj p (by rw [List.getElem?_eq_getElem hj, ej]) hd
  rw [l1, Int.mul_one] at e
  subst e
  have cn : ns.count M = 1 := by rw [hpm.count_eq]; exact c
  have hM : M ∈ ns := List.count_pos_iff.mp (by omega)
  have hne : ns ≠ [] := fun z => by rw [z] at hM; cases hM
  have es := (List.dropLast_concat_getLast hne).symm
  generalize ns.getLast hne = last at es
  generalize ns.dropLast = ini at es
  rw [es] at hso hM cn
  have hle : ∀ d ∈ ini ++ [last], d ≤ M := fun d hd => le d (hpm.mem_iff.mp (by rw [es]; exact hd))
  have pw := List.pairwise_append.mp hso
  have el : last = M := by
    rcases List.mem_append.mp hM with y | y
    · have := pw.2.2 M y last (List.mem_singleton.mpr rfl)
      have := hle last (List.mem_append_right _ (List.mem_singleton.mpr rfl))
      omega
    · exact (List.mem_singleton.mp y).symm
  subst el
  refine ⟨ini, es, fun d hd => ?_, ?_⟩
  case refine_2 =>
    have h1 := hpm.mem_iff.mpr w.one
    rw [es] at h1
    rcases List.mem_append.mp h1 with y | y
    · exact .inl y
    · exact .inr (List.mem_singleton.mp y).symm
  have h1 := hle d (List.mem_append_left _ hd)
  rcases Int.lt_or_le d last with y | y
  · exact y
  · have : d = last := by omega
    subst this
    rw [List.count_append, List.count_singleton_self] at cn
    have := List.count_pos_iff.mpr hd
    omega
theorem cut_init (ini : List Int) (m : Int) : cutV ((ini ++ [m]).map V.int) none (some (-1)) = ini.map V.int := by
  unfold cutV HT.sIx
  simp
  rw [show (-1 + ((ini.length : Int) + 1)).toNat = (ini.map V.int).length by rw [List.length_map]; omega]
  exact List.take_left
def sp_lshown (K : PySem.W.Frag) : Sp := fun vs H Q _ => ∃ (m : Int) (f : Mp) (x d : Int) (t : Addr), vs = [.ref t, .int x, .int d] ∧ TpAt K H t f ∧ 2 ≤ m ∧ m ≤ 1000000000 ∧ Ok m f ∧ Sm m ∧ 0 ≤ x ∧ x < m ∧ 1 ≤ d ∧ d ∣ m ∧
  ∀ H' q (n : Nat), Same H H' → H q = none → Per m f x d n → CertAt H' q n → Q (.ref q) H'
theorem w_lshown {K : PySem.W.Frag} {H : Hp} {Q : VK} {E : XK} {m : Int} {f : Mp} {x d : Int} {t : Addr} (ht : TpAt K H t f) (hm : 2 ≤ m) (h9 : m ≤ 1000000000) (hf : Ok m f) (hs : Sm m) (x0 : 0 ≤ x) (x1 : x < m) (d1 : 1 ≤ d) (hd : d ∣ m)
    (h : ∀ H' q (n : Nat), Same H H' → H q = none → Per m f x d n → CertAt H' q n → Q (.ref q) H') : sp_lshown K [.ref t, .int x, .int d] H Q E := ⟨m, f, x, d, t, rfl, ht, hm, h9, hf, hs, x0, x1, d1, hd, h⟩
def sp_noap (K : PySem.W.Frag) : Sp := fun vs H Q _ => ∃ (p L t : Addr) (n : Nat) (m : Int) (f : Mp) (x y c : Int) (e : Nat), vs = [.ref p, .int m, .ref t, .int x, .int y, .int c] ∧ PenAt H p L n ∧ n ≤ 90000000 ∧ t ≠ p ∧ H t = some (.tup [.int f.1, .int f.2]) ∧
  2 ≤ m ∧ m ≤ 1000000000 ∧ Ok m f ∧ Sm m ∧ 0 ≤ x ∧ x < m ∧ orb m f x e = y ∧ 0 ≤ c ∧ c ≤ 1000000000 ∧ ∀ H', But p H H' → PenAt H' p L (n + 18) → Q (.bl true) H'
theorem w_noap {K : PySem.W.Frag} {H : Hp} {Q : VK} {E : XK} {p L t : Addr} {n : Nat} {m : Int} {f : Mp} {x y c : Int} {e : Nat} (pn : PenAt H p L n) (hn : n ≤ 90000000) (nt : t ≠ p) (ht : H t = some (.tup [.int f.1, .int f.2])) (hm : 2 ≤ m) (h9 : m ≤ 1000000000) (hf : Ok m f) (hs : Sm m)
    (x0 : 0 ≤ x) (x1 : x < m) (he : orb m f x e = y) (c0 : 0 ≤ c) (c9 : c ≤ 1000000000) (h : ∀ H', But p H H' → PenAt H' p L (n + 18) → Q (.bl true) H') : sp_noap K [.ref p, .int m, .ref t, .int x, .int y, .int c] H Q E :=
  ⟨p, L, t, n, m, f, x, y, c, e, rfl, pn, hn, nt, ht, hm, h9, hf, hs, x0, x1, he, c0, c9, h⟩
end Vg

set_option Elab.async false
set_option linter.all false
set_option maxRecDepth 100000
set_option maxHeartbeats 2000000
namespace Vg
open PySem PySem.Spec PyProof.Rows L2
/-! ### d.update(other dict) -/
theorem mergeK_len : ∀ (more kvs : List (Key × V)), (mergeK kvs more).length ≤ kvs.length + more.length
  | [], kvs => Nat.le_refl _
  | p :: more, kvs => by
    have h1 := mergeK_len more (putK kvs p.1 p.2)
    have h2 := length_putK kvs p.1 p.2
    show (mergeK (putK kvs p.1 p.2) more).length ≤ _
    rw [List.length_cons]
    omega
def rDUpd : V → List V → Hp → VK → Prop := fun x vs H Q => ∃ d o kvs more, x = .ref d ∧ vs = [.ref o] ∧ H d = some (.dK kvs) ∧ H o = some (.dK more) ∧ d ≠ o ∧ kvs.length + more.length ≤ sizeLine ∧ Q .non (upd H d (.dK (mergeK kvs more)))
theorem mt_dupdate {X : Cx} : MtM X "dict.update" rDUpd := by
  intro pins s σ H x vs v us Q I rx rv h
  obtain ⟨d, o, kvs, more, rfl, rfl, hd, ho, hne, hz, q⟩ := h
  cases rx
  obtain ⟨u, rfl, ru⟩ := rv.one
  cases ru
  obtain ⟨z1, s1, vs1, r1, d1⟩ := dk_of I.hok hd
  obtain ⟨z2, s2, vs2, r2, d2⟩ := dk_of I.hok ho
  have l1 : kvs.length = vs1.length := Paired.length r1
  have l2 : more.length = vs2.length := Paired.length r2
  refine call_meetsIn PySem.F.slot_dict_update d1.typeIs PySem.F.entry_dict_update (PySem.F.args_dict_update_2 _ _) (meets_dict_update (mixKind X.prog X.w) d o hne s2)
    ⟨vs1, vs2, d1, d2, by rw [← l1, ← l2]; exact hz, fun h' hm _ hs => ?_⟩
  have he : ∃ q, h'.get? d = some q := let ⟨q, _, _, hq, _⟩ := hm; ⟨q, hq⟩
  exact ⟨.non, _, d_write (t' := s.toks) I (by rw [hd]; exact True.intro) hs he (dk_new (Nat.le_trans (mergeK_len more kvs) hz) s1 (r2.merge r1) hm), rfl, q⟩
theorem w_dupdate {H : Hp} {Q : VK} {d o : Addr} {kvs more : List (Key × V)} (hd : H d = some (.dK kvs)) (ho : H o = some (.dK more)) (hne : d ≠ o) (hz : kvs.length + more.length ≤ 1000000) (h : Q .non (upd H d (.dK (mergeK kvs more)))) : rDUpd (.ref d) [.ref o] H Q :=
  ⟨d, o, kvs, more, rfl, rfl, hd, ho, hne, Nat.le_trans hz (by decide), h⟩
theorem merge_has (z : Key) : ∀ (more kvs : List (Key × V)), (valV (mergeK kvs more) z).isSome = ((valV kvs z).isSome || (valV more z).isSome)
  | [], kvs => by show (valV kvs z).isSome = _; simp [valV]
  | p :: more, kvs => by
    show (valV (mergeK (putK kvs p.1 p.2) more) z).isSome = _
    rw [merge_has z more, valV_put]
    by_cases c : z = p.1
    · rw [if_pos c, valV_pos c.symm]; simp
    · rw [if_neg c, valV_neg (fun e => c e.symm)]
theorem merge_rows (z : Int) (ns : List Int) (kvs : List (Key × V)) : (valV (mergeK kvs (mergeK [] (tabK ns))) (Sum.inl z)).isSome = ((valV kvs (Sum.inl z)).isSome || decide (z ∈ ns)) := by
  rw [merge_has, merge_tab0]
theorem w_dnotin {σ : L2.St} {H : Hp} {Q : VK} {ty td : TE} (h : ty σ H fun y H1 => td σ H1 fun x H2 => ∃ a o, x = .ref a ∧ DGet H2 a y o ∧ Q (.bl (!o.isSome)) H2) : tDNotIn ty td σ H Q := h
theorem w_tyD {K K' : PySem.W.Frag} {H : Hp} {a : Addr} {kvs : List (Key × V)} {X : Prop} (e : H a = some (.dK kvs)) (h : X) (hk : K' = K := by rfl) : tyV K' "dict" (.ref a) H ∧ X := ⟨.inr (.inr (.inl ⟨rfl, .inl ⟨_, e⟩⟩)), h⟩
/-! ### all cycles of a small modulus -/
structure CsP (m : Int) (f : Mp) (cs : List (List Int)) : Prop where
  cyc : ∀ c ∈ cs, ∃ x n, 0 ≤ x ∧ x < m ∧ Per m f x m n ∧ c = cyc m f x n
  apart : cs.Pairwise fun c c' => ∀ y ∈ c, y ∉ c'
section
variable {m : Int} {f : Mp} {x y : Int}
/-- a cycle is closed -/
theorem cyc_closed (hm : 2 ≤ m) (hf : Ok m f) {n : Nat} (hn : Per m f x m n) (h : y ∈ Vg.cyc m f x n) (e : Nat) : orb m f y e ∈ Vg.cyc m f x n := by
  obtain ⟨i, hi, rfl⟩ := cyc_mem.mp h
  rw [← orb_add hm hf]
  exact cyc_mem.mpr ⟨(i + e) % n, Nat.mod_lt _ hn.pos, (orb_cgN hm hf hn).mpr (Nat.mod_mod _ _)⟩
/-- whoever's cycle meets another one lies in it -/
theorem cyc_meet (hm : 2 ≤ m) (hf : Ok m f) (x0 : 0 ≤ x) (x1 : x < m) {n k : Nat} {z : Int} (hn : Per m f x m n) (hk : Per m f y m k) (h1 : z ∈ Vg.cyc m f x n) (h2 : z ∈ Vg.cyc m f y k) : x ∈ Vg.cyc m f y k := by
  obtain ⟨i, hi, rfl⟩ := cyc_mem.mp h1
  have := cyc_closed hm hf hk h2 (n - i)
  rwa [← orb_add hm hf, show i + (n - i) = n by omega, (per_ret hm hf x0 x1 hn n).mpr (Nat.dvd_refl n)] at this
theorem CsP.snoc (hm : 2 ≤ m) (hf : Ok m f) {cs : List (List Int)} (h : CsP m f cs) (x0 : 0 ≤ x) (x1 : x < m) {n : Nat} (hn : Per m f x m n) (hx : ¬ ∃ c ∈ cs, x ∈ c) : CsP m f (cs ++ [Vg.cyc m f x n]) := by
  refine ⟨fun c hc => ?_, ?_⟩
  · rcases List.mem_append.mp hc with z | z
    · exact h.cyc c z
    · rw [List.mem_singleton.mp z]; exact ⟨x, n, x0, x1, hn, rfl⟩
  · rw [List.pairwise_append]
    refine ⟨h.apart, List.pairwise_singleton _ _, fun c hc c' hc' y hy hy' => ?_⟩
    rw [List.mem_singleton.mp hc'] at hy'
    obtain ⟨x', n', _, _, hn', rfl⟩ := h.cyc c hc
    exact hx ⟨_, hc, cyc_meet hm hf x0 x1 hn hn' hy' hy⟩
end
def sp_lall (K : PySem.W.Frag) : Sp := fun vs H Q _ => ∃ (m : Int) (f : Mp) (t : Addr), vs = [.int m, .ref t] ∧ TpAt K H t f ∧ 2 ≤ m ∧ m ≤ 900 ∧ Ok m f ∧
  ∀ H' l rs cs, Same H H' → H l = none → H' l = some (.lst (rs.map V.ref)) → RowsAt H' rs cs → CsP m f cs → (∀ x, 0 ≤ x → x < m → ∃ c ∈ cs, x ∈ c) → cs.length ≤ 900 → Q (.ref l) H'
theorem w_lall {K : PySem.W.Frag} {H : Hp} {Q : VK} {E : XK} {m : Int} {f : Mp} {t : Addr} (ht : TpAt K H t f) (hm : 2 ≤ m) (h9 : m ≤ 900) (hf : Ok m f)
    (h : ∀ H' l rs cs, Same H H' → H l = none → H' l = some (.lst (rs.map V.ref)) → RowsAt H' rs cs → CsP m f cs → (∀ x, 0 ≤ x → x < m → ∃ c ∈ cs, x ∈ c) → cs.length ≤ 900 → Q (.ref l) H') : sp_lall K [.int m, .ref t] H Q E := ⟨m, f, t, rfl, ht, hm, h9, hf, h⟩
theorem w_dnew {σ : L2.St} {H : Hp} {Q : VK} (h : ∀ d H', H d = none → Same H H' → H' d = some (.dK []) → Q (.ref d) H') : tDNewK σ H Q := fun d hd => h d _ hd (sm_new hd) upd_same
/-- the least common multiple of all lengths -/
def lcmL : List (List Int) → Nat
  | [] => 1
  | c :: r => Nat.lcm c.length (lcmL r)
theorem lcmL_dvd {n : Nat} : ∀ {cs : List (List Int)}, (∀ c ∈ cs, c.length ∣ n) → lcmL cs ∣ n
  | [], _ => Nat.one_dvd n
  | c :: r, h => Nat.lcm_dvd (h c (List.mem_cons_self ..)) (lcmL_dvd fun d hd => h d (List.mem_cons_of_mem _ hd))
theorem dvd_lcmL {c : List Int} : ∀ {cs : List (List Int)}, c ∈ cs → c.length ∣ lcmL cs
  | d :: r, h => by
    rcases List.mem_cons.mp h with z | z
    · rw [z]; exact Nat.dvd_lcm_left _ _
    · exact Nat.dvd_trans (dvd_lcmL z) (Nat.dvd_lcm_right _ _)
theorem lcmL_snoc : ∀ (cs : List (List Int)) (c : List Int), lcmL (cs ++ [c]) = Nat.lcm (lcmL cs) c.length
  | [], c => by show Nat.lcm c.length 1 = Nat.lcm 1 c.length; exact Nat.lcm_comm _ _
  | d :: r, c => by
    show Nat.lcm d.length (lcmL (r ++ [c])) = Nat.lcm (Nat.lcm d.length (lcmL r)) c.length
    rw [lcmL_snoc r c, Nat.lcm_assoc]
theorem ord_all {m : Int} {f : Mp} {cs : List (List Int)} (hm : 2 ≤ m) (hf : Ok m f) (h : CsP m f cs) (hall : ∀ x, 0 ≤ x → x < m → ∃ c ∈ cs, x ∈ c) {n : Nat} (hn : Ord m f n) : lcmL cs = n := by
  refine Nat.dvd_antisymm (lcmL_dvd fun c hc => ?_) ?_
  · obtain ⟨x, k, _, _, hk, rfl⟩ := h.cyc c hc
    rw [cyc_len]
    exact hn.per hm hf hk
  · rw [← hn.iff]
    have back : ∀ x, 0 ≤ x → x < m → orb m f x (lcmL cs) = x := fun x x0 x1 => by
      obtain ⟨c, hc, hx⟩ := hall x x0 x1
      obtain ⟨y, k, y0, y1, hk, rfl⟩ := h.cyc c hc
      obtain ⟨i, hi, rfl⟩ := cyc_mem.mp hx
      have hd : k ∣ lcmL cs := by have := dvd_lcmL hc; rwa [cyc_len] at this
      rw [← orb_add hm hf]
      refine (orb_cgN hm hf hk).mpr ?_
      obtain ⟨j, hj⟩ := hd
      rw [hj, Nat.add_mul_mod_self_left]
    refine mp_by_img hm (npw_ok hm hf _) (Ok.one hm) ?_ ?_
    · rw [show img m (npw m f (lcmL cs)) 0 = orb m f 0 (lcmL cs) from rfl, back 0 (by decide) (by omega)]
      show 0 = (1 * 0 + 0) % m
      rw [Int.mul_zero, Int.zero_add, Int.zero_emod]
    · rw [show img m (npw m f (lcmL cs)) 1 = orb m f 1 (lcmL cs) from rfl, back 1 (by decide) (by omega)]
      show 1 = (1 * 1 + 0) % m
      rw [Int.mul_one, Int.add_zero, Int.emod_eq_of_lt (by decide) (by omega)]
end Vg

set_option Elab.async false
set_option linter.all false
set_option maxRecDepth 100000
set_option maxHeartbeats 2000000
namespace Vg
open PySem PySem.Spec PyProof.Rows L2
/-! ### how many numbers: counts, for cycles (under way) -/
def cntN (q : Nat) (p : Nat → Bool) : Nat := (List.range q).countP p
theorem cntN_cong {q : Nat} {p r : Nat → Bool} (h : ∀ i, i < q → p i = r i) : cntN q p = cntN q r := by
  unfold cntN
  refine List.countP_congr fun i hi => ?_
  rw [h i (List.mem_range.mp hi)]
theorem cntN_one {t r : Nat} (hr : r < t) : cntN t (fun i => decide (i = r)) = 1 := by
  unfold cntN
  have h := List.nodup_range (n := t)
  have h1 : (List.range t).count r = 1 := by
    refine Nat.le_antisymm (List.nodup_iff_count.mp h r) (List.count_pos_iff.mpr (List.mem_range.mpr hr))
  rw [← h1]
  exact List.countP_congr fun i _ => by simp
/-- one in t -/
theorem cntN_mod {t r : Nat} (hr : r < t) : ∀ s, cntN (s * t) (fun i => decide (i % t = r)) = s
  | 0 => by rw [Nat.zero_mul]; rfl
  | s + 1 => by
    have h2 := cntN_mod hr s
    have h3 : (List.range t).countP ((fun i => decide (i % t = r)) ∘ fun j => s * t + j) = 1 := by
      rw [← cntN_one hr]
      unfold cntN
      refine List.countP_congr fun i hi => ?_
      have := List.mem_range.mp hi
      simp only [Function.comp]
      rw [Nat.mul_add_mod_self_right, Nat.mod_eq_of_lt this]
    unfold cntN at h2 ⊢
    rw [Nat.add_mul, Nat.one_mul, List.range_add, List.countP_append, List.countP_map, h2, h3]
/-- two that exclude each other -/
theorem cntN_or {q : Nat} {p r : Nat → Bool} (h : ∀ i, i < q → p i = true → r i = false) : cntN q (fun i => p i || r i) = cntN q p + cntN q r := by
  induction q with
  | zero => rfl
  | succ q ih =>
    have ih := ih fun i hi => h i (by omega)
    unfold cntN at ih ⊢
    rw [List.range_succ, List.countP_append, List.countP_append, List.countP_append, ih]
    have := h q (Nat.lt_succ_self q)
    simp only [List.countP_singleton]
    cases hp : p q <;> cases hr : r q <;> simp_all <;> omega
/-- by classes: each number that has the property has one of the keys -/
theorem cntN_sum {q : Nat} {p : Nat → Bool} {key : Nat → Nat} : ∀ (ks : List Nat), ks.Nodup → (∀ i, i < q → p i = true → key i ∈ ks) →
    cntN q p = (ks.map fun k => cntN q fun i => p i && decide (key i = k)).sum
  | [], _, h => by
    unfold cntN
    rw [List.map_nil, List.sum_nil, List.countP_eq_zero]
    intro i hi hp
    have := h i (List.mem_range.mp hi) hp
    cases this
  | k :: ks, nd, h => by
    obtain ⟨n1, n2⟩ := List.nodup_cons.mp nd
    have e : cntN q p = cntN q (fun i => (p i && decide (key i = k)) || (p i && !decide (key i = k))) := cntN_cong fun i _ => by cases p i <;> simp
    rw [e, cntN_or (fun i _ z => by simp at z ⊢; intro _; exact z.2)]
    rw [List.map_cons, List.sum_cons]
    congr 1
    rw [cntN_sum ks n2 (p := fun i => p i && !decide (key i = k)) (key := key) (fun i hi z => by
      simp at z
      rcases List.mem_cons.mp (h i hi z.1) with y | y
      · exact absurd y z.2
      · exact y)]
    congr 1
    refine List.map_congr_left fun k' hk' => cntN_cong fun i _ => ?_
    by_cases c : key i = k'
    · have : ¬ key i = k := fun z => n1 (by rw [← z, c]; exact hk')
      simp [c, this]
      intro _ z; exact this (by rw [c]; exact z)
    · simp [c]
theorem cntN_none {q : Nat} {p : Nat → Bool} (h : ∀ i, i < q → p i = false) : cntN q p = 0 := by
  unfold cntN
  rw [List.countP_eq_zero]
  intro i hi z
  rw [h i (List.mem_range.mp hi)] at z
  cases z
theorem cntN_le1 : ∀ {q : Nat} {p : Nat → Bool}, (∀ i j, i < q → j < q → p i = true → p j = true → i = j) → cntN q p ≤ 1
  | 0, _, _ => Nat.zero_le _
  | q + 1, p, h => by
    have ih := cntN_le1 (q := q) (p := p) fun i j hi hj => h i j (by omega) (by omega)
    cases hp : p q with
    | false =>
      unfold cntN at ih ⊢
      rw [List.range_succ, List.countP_append, List.countP_singleton, hp]
      simpa using ih
    | true =>
      have z : cntN q p = 0 := cntN_none fun i hi => by
        cases hi' : p i with
        | false => rfl
        | true => have := h i q (by omega) (Nat.lt_succ_self q) hi' hp; omega
      unfold cntN at z ⊢
      rw [List.range_succ, List.countP_append, List.countP_singleton, hp, z]
      simp
theorem sum_le_len {α : Type} {g : α → Nat} : ∀ {l : List α} {c : Nat}, (∀ a ∈ l, g a ≤ c) → (l.map g).sum ≤ l.length * c
  | [], _, _ => by simp
  | a :: l, c, h => by
    have h1 := sum_le_len (l := l) fun b hb => h b (List.mem_cons_of_mem _ hb)
    have h2 := h a (List.mem_cons_self ..)
    rw [List.map_cons, List.sum_cons, List.length_cons, Nat.add_mul, Nat.one_mul]
    omega
/-- all of them are as large as they can be -/
theorem sum_full {α : Type} {g : α → Nat} : ∀ {l : List α} {c : Nat}, (∀ a ∈ l, g a ≤ c) → (l.map g).sum = l.length * c → ∀ a ∈ l, g a = c
  | [], _, _, _ => fun a ha => by cases ha
  | b :: l, c, h, e => by
    have h1 := sum_le_len (l := l) fun b hb => h b (List.mem_cons_of_mem _ hb)
    have h2 := h b (List.mem_cons_self ..)
    rw [List.map_cons, List.sum_cons, List.length_cons, Nat.add_mul, Nat.one_mul] at e
    intro a ha
    rcases List.mem_cons.mp ha with z | z
    · rw [z]; omega
    · exact sum_full (l := l) (fun b hb => h b (List.mem_cons_of_mem _ hb)) (by omega) a z
theorem cntN_all (q : Nat) : cntN q (fun _ => true) = q := by
  unfold cntN
  rw [List.countP_true, List.length_range]
/-- the Chinese remainder: each pair of residues once -/
theorem cntN_crt {a b : Nat} (h : Nat.Coprime a b) {u v : Nat} (hu : u < a) (hv : v < b) : cntN (a * b) (fun i => decide (i % a = u) && decide (i % b = v)) = 1 := by
  have le1 : ∀ u v, cntN (a * b) (fun i => decide (i % a = u) && decide (i % b = v)) ≤ 1 := fun u v => cntN_le1 fun i j hi hj pi pj => by
    simp at pi pj
    have key : ∀ i j, i < a * b → j ≤ i → i % a = j % a → i % b = j % b → i = j := fun i j hi hj e1 e2 => by
      have d1 : a ∣ i - j := Nat.dvd_of_mod_eq_zero (Nat.sub_mod_eq_zero_of_mod_eq e1)
      have d2 : b ∣ i - j := Nat.dvd_of_mod_eq_zero (Nat.sub_mod_eq_zero_of_mod_eq e2)
      have d3 := h.mul_dvd_of_dvd_of_dvd d1 d2
      rcases Nat.eq_zero_or_pos (i - j) with z | z
      · omega
      · have := Nat.le_of_dvd z d3; omega
    rcases Nat.le_total j i with c | c
    · exact key i j hi c (by rw [pi.1, pj.1]) (by rw [pi.2, pj.2])
    · exact (key j i hj c (by rw [pi.1, pj.1]) (by rw [pi.2, pj.2])).symm
  have inner : ∀ u, u < a → cntN (a * b) (fun i => decide (i % a = u)) = ((List.range b).map fun v => cntN (a * b) fun i => decide (i % a = u) && decide (i % b = v)).sum := fun u hu =>
    cntN_sum (List.range b) List.nodup_range fun i hi _ => List.mem_range.mpr (Nat.mod_lt _ (by
      rcases Nat.eq_zero_or_pos b with z | z
      · rw [z] at hi; simp at hi
      · exact z))
  have e := inner u hu
  rw [Nat.mul_comm a b, cntN_mod hu b, Nat.mul_comm b a] at e
  exact sum_full (l := List.range b) (c := 1) (fun v _ => le1 u v) (by rw [← e, List.length_range, Nat.mul_one]) v (List.mem_range.mpr hv)
theorem sum_ite (r : Nat → Bool) (c : Nat) : ∀ l : List Nat, (l.map fun v => if r v = true then c else 0).sum = l.countP r * c
  | [] => by simp
  | v :: l => by
    rw [List.map_cons, List.sum_cons, sum_ite r c l, List.countP_cons]
    cases r v <;> simp [Nat.add_mul, Nat.add_comm]
theorem cntN_fix {a b : Nat} (h : Nat.Coprime a b) {u : Nat} (hu : u < a) (r : Nat → Bool) : cntN (a * b) (fun i => decide (i % a = u) && r (i % b)) = cntN b r := by
  rw [cntN_sum (List.range b) List.nodup_range (key := fun i => i % b) fun i hi _ => List.mem_range.mpr (Nat.mod_lt _ (by
      rcases Nat.eq_zero_or_pos b with z | z
      · rw [z] at hi; simp at hi
      · exact z))]
  have e : ∀ v ∈ List.range b, cntN (a * b) (fun i => (decide (i % a = u) && r (i % b)) && decide (i % b = v)) = if r v = true then 1 else 0 := fun v hv => by
    cases hr : r v with
    | true =>
      rw [if_pos rfl, ← cntN_crt h hu (List.mem_range.mp hv)]
      refine cntN_cong fun i _ => ?_
      by_cases c : i % b = v
      · simp [c, hr]
      · simp [c]
    | false =>
      rw [if_neg (by decide)]
      refine cntN_none fun i _ => ?_
      by_cases c : i % b = v
      · simp [c, hr]
      · simp [c]
  rw [List.map_congr_left e, sum_ite, Nat.mul_one]
  rfl
/-- counts of pairs multiply -/
theorem cntN_mul {a b : Nat} (h : Nat.Coprime a b) (p r : Nat → Bool) : cntN (a * b) (fun i => p (i % a) && r (i % b)) = cntN a p * cntN b r := by
  rw [cntN_sum (List.range a) List.nodup_range (key := fun i => i % a) fun i hi _ => List.mem_range.mpr (Nat.mod_lt _ (by
      rcases Nat.eq_zero_or_pos a with z | z
      · rw [z] at hi; simp at hi
      · exact z))]
  have e : ∀ u ∈ List.range a, cntN (a * b) (fun i => (p (i % a) && r (i % b)) && decide (i % a = u)) = if p u = true then cntN b r else 0 := fun u hu => by
    cases hp : p u with
    | true =>
      rw [if_pos rfl, ← cntN_fix h (List.mem_range.mp hu) r]
      refine cntN_cong fun i _ => ?_
      by_cases c : i % a = u
      · simp [c, hp]
      · simp [c]
    | false =>
      rw [if_neg (by decide)]
      refine cntN_none fun i _ => ?_
      by_cases c : i % a = u
      · simp [c, hp]
      · simp [c]
  rw [List.map_congr_left e, sum_ite]
  rfl
/-! ### numbers by period -/
noncomputable def perK (m : Int) (f : Mp) (x : Nat) : Nat := by
  classical
  exact if h : ∃ n, Per m f (x : Int) m n then Classical.choose h else 0
theorem perK_per {m : Int} {f : Mp} (hm : 2 ≤ m) (hf : Ok m f) (x : Nat) : Per m f (x : Int) m (perK m f x) := by
  have h := per_ex (x := (x : Int)) hm hf
  unfold perK
  rw [dif_pos h]
  exact Classical.choose_spec h
theorem perK_eq {m : Int} {f : Mp} (hm : 2 ≤ m) (hf : Ok m f) {x n : Nat} (h : Per m f (x : Int) m n) : perK m f x = n := (perK_per hm hf x).alone hm hf (Int.dvd_refl m) h
/-- how many numbers have the period n -/
noncomputable def cntP (m : Int) (f : Mp) (n : Nat) : Nat := cntN m.toNat fun i => decide (perK m f i = n)
theorem back_iff {m : Int} {f : Mp} (hm : 2 ≤ m) (hf : Ok m f) {x n : Nat} (hx : x < m.toNat) : orb m f (x : Int) n = (x : Int) ↔ perK m f x ∣ n :=
  per_ret hm hf (by omega) (by omega) (perK_per hm hf x) n
/-- those that come back after n times: the ones with a shorter period, and the ones with the period n -/
theorem fix_split {m : Int} {f : Mp} (hm : 2 ≤ m) (hf : Ok m f) {n : Nat} {ks : List Nat} (nd : ks.Nodup) (hn : n ∉ ks) (hall : ∀ i, i < m.toNat → perK m f i ∣ n → perK m f i = n ∨ perK m f i ∈ ks) :
    cntN m.toNat (fun i => decide (orb m f (i : Int) n = (i : Int))) = cntP m f n + ((ks.filter fun k => decide (n % k = 0)).map (cntP m f)).sum := by
  rw [cntN_sum (n :: ks.filter fun k => decide (n % k = 0)) (key := perK m f) ?_ ?_]
  · rw [List.map_cons, List.sum_cons]
    have e : ∀ k, k ∣ n → cntN m.toNat (fun i => decide (orb m f (i : Int) n = (i : Int)) && decide (perK m f i = k)) = cntP m f k := fun k hk => by
      unfold cntP
      refine cntN_cong fun i hi => ?_
      by_cases c : perK m f i = k
      · have : orb m f (i : Int) n = (i : Int) := (back_iff hm hf hi).mpr (by rw [c]; exact hk)
        simp [c, this]
      · simp [c]
    rw [e n (Nat.dvd_refl n)]
    congr 2
    refine List.map_congr_left fun k hk => e k ?_
    have := (List.mem_filter.mp hk).2
    exact Nat.dvd_of_mod_eq_zero (of_decide_eq_true this)
  · refine List.nodup_cons.mpr ⟨fun z => hn (List.mem_filter.mp z).1, nd.filter _⟩
  · intro i hi hp
    have hd := (back_iff hm hf hi).mp (of_decide_eq_true hp)
    rcases hall i hi hd with z | z
    · rw [z]; exact List.mem_cons_self ..
    · exact List.mem_cons_of_mem _ (List.mem_filter.mpr ⟨z, decide_eq_true (Nat.mod_eq_zero_of_dvd hd)⟩)
theorem cg_crt {a b x y : Int} (h : Nat.Coprime a.natAbs b.natAbs) (h1 : Cg a x y) (h2 : Cg b x y) : Cg (a * b) x y := by
  unfold Cg at *
  rw [← Int.natAbs_dvd_natAbs] at h1 h2 ⊢
  rw [Int.natAbs_mul]
  exact h.mul_dvd_of_dvd_of_dvd h1 h2
/-- the period modulo a product of coprime numbers -/
theorem per_crt {m a b : Int} {f : Mp} {x : Int} (hm : 2 ≤ m) (hf : Ok m f) (e : a * b = m) (h : Nat.Coprime a.natAbs b.natAbs) {n k : Nat} (hn : Per m f x a n) (hk : Per m f x b k) : Per m f x m (Nat.lcm n k) := by
  have ha : a ∣ m := ⟨b, e.symm⟩
  have hb : b ∣ m := ⟨a, by rw [Int.mul_comm]; exact e.symm⟩
  have iff_ : ∀ j, Cg m (orb m f x j) (orb m f x 0) ↔ Nat.lcm n k ∣ j := fun j => by
    constructor
    · intro z
      exact Nat.lcm_dvd ((hn.dvd hm hf ha).mp (cg_of_dvd ha z)) ((hk.dvd hm hf hb).mp (cg_of_dvd hb z))
    · intro z
      have z1 := (hn.dvd hm hf ha).mpr (Nat.dvd_trans (Nat.dvd_lcm_left n k) z)
      have z2 := (hk.dvd hm hf hb).mpr (Nat.dvd_trans (Nat.dvd_lcm_right n k) z)
      have := cg_crt h z1 z2
      rwa [e] at this
  refine ⟨Nat.lcm_pos hn.pos hk.pos, (iff_ _).mpr (Nat.dvd_refl _), fun j j0 jl z => ?_⟩
  have := Nat.le_of_dvd j0 ((iff_ j).mp z)
  omega
/-- the period modulo a divisor -/
noncomputable def perD (m : Int) (f : Mp) (d : Int) (x : Nat) : Nat := by
  classical
  exact if h : ∃ n, Per m f (x : Int) d n then Classical.choose h else 0
noncomputable def cntD (m : Int) (f : Mp) (d : Int) (n : Nat) : Nat := cntN d.toNat fun i => decide (perD m f d i = n)
section
variable {m : Int} {f : Mp} {d : Int}
theorem perD_per (hm : 2 ≤ m) (hf : Ok m f) (d1 : 1 ≤ d) (hd : d ∣ m) (x : Nat) : Per m f (x : Int) d (perD m f d x) := by
  have h := per_exd (x := (x : Int)) hm hf d1 hd
  unfold perD
  rw [dif_pos h]
  exact Classical.choose_spec h
theorem perD_eq (hm : 2 ≤ m) (hf : Ok m f) (d1 : 1 ≤ d) (hd : d ∣ m) {x n : Nat} (h : Per m f (x : Int) d n) : perD m f d x = n := (perD_per hm hf d1 hd x).alone hm hf hd h
/-- numbers that are congruent have the same period -/
theorem orb_dcg (hm : 2 ≤ m) (hd : d ∣ m) {x y : Int} (h : d ∣ x - y) (e : Nat) : Cg d (orb m f x e) (orb m f y e) := by
  have h1 : ∀ z : Int, Cg d (orb m f z e) ((npw m f e).1 * z + (npw m f e).2) := fun z => by
    unfold orb img Cg
    refine Int.dvd_trans hd ⟨-(((npw m f e).1 * z + (npw m f e).2) / m), ?_⟩
    have := Int.emod_add_mul_ediv ((npw m f e).1 * z + (npw m f e).2) m
    rw [Int.mul_neg]
    omega
  refine (h1 x).trans (Cg.trans ?_ (h1 y).symm)
  unfold Cg
  have : (npw m f e).1 * x + (npw m f e).2 - ((npw m f e).1 * y + (npw m f e).2) = (npw m f e).1 * (x - y) := by rw [Int.mul_sub]; omega
  rw [this]
  exact Int.dvd_trans h (Int.dvd_mul_left _ _)
theorem perD_mod (hm : 2 ≤ m) (hf : Ok m f) (d1 : 1 ≤ d) (hd : d ∣ m) (x : Nat) : perD m f d (x % d.toNat) = perD m f d x := by
  have h := perD_per hm hf d1 hd x
  have hx : d ∣ ((x % d.toNat : Nat) : Int) - (x : Int) := by
    refine ⟨-((x / d.toNat : Nat) : Int), ?_⟩
    have h1 := Nat.mod_add_div x d.toNat
    have h2 : (x : Int) = ((x % d.toNat : Nat) : Int) + d * ((x / d.toNat : Nat) : Int) := by
      have h3 : ((d.toNat : Nat) : Int) = d := Int.toNat_of_nonneg (by omega)
      have h4 : ((x % d.toNat + d.toNat * (x / d.toNat) : Nat) : Int) = (x : Int) := by rw [h1]
      rw [Int.natCast_add, Int.natCast_mul, h3] at h4
      exact h4.symm
    rw [Int.mul_neg]
    omega
  refine perD_eq hm hf d1 hd ⟨h.pos, ?_, fun j j0 jl z => h.least j j0 jl ?_⟩
  · exact (orb_dcg hm hd hx _).trans (h.back.trans (orb_dcg hm hd hx 0).symm)
  · exact (orb_dcg hm hd hx j).symm.trans (z.trans (orb_dcg hm hd hx 0))
/-- the periods of a product: by pairs -/
theorem cntD_mul (hm : 2 ≤ m) (hf : Ok m f) {q : Int} (d1 : 1 ≤ d) (q1 : 1 ≤ q) (hdq : d * q ∣ m) (h : Nat.Coprime d.natAbs q.natAbs) {ks ls : List Nat} (nk : ks.Nodup) (nl : ls.Nodup)
    (hk : ∀ i, perD m f d i ∈ ks) (hl : ∀ i, perD m f q i ∈ ls) (n : Nat) :
    cntD m f (d * q) n = (ks.map fun k => (ls.map fun l => if Nat.lcm k l = n then cntD m f d k * cntD m f q l else 0).sum).sum := by
  have hd : d ∣ m := Int.dvd_trans (Int.dvd_mul_right d q) hdq
  have hq : q ∣ m := Int.dvd_trans (Int.dvd_mul_left d q) hdq
  have dq1 : 1 ≤ d * q := by
    have := Int.mul_le_mul_of_nonneg_left q1 (show 0 ≤ d by omega)
    omega
  have tn : (d * q).toNat = d.toNat * q.toNat := Int.toNat_mul (by omega) (by omega)
  have cop : Nat.Coprime d.toNat q.toNat := by
    rw [show d.toNat = d.natAbs by omega, show q.toNat = q.natAbs by omega]; exact h
  have key : ∀ i, perD m f (d * q) i = Nat.lcm (perD m f d i) (perD m f q i) := fun i => by
    have P1 := perD_per hm hf d1 hd i
    have P2 := perD_per hm hf q1 hq i
    refine perD_eq hm hf dq1 hdq ?_
    have iff_ : ∀ j, Cg (d * q) (orb m f (i : Int) j) (orb m f (i : Int) 0) ↔ Nat.lcm (perD m f d i) (perD m f q i) ∣ j := fun j => by
      constructor
      · intro z
        exact Nat.lcm_dvd ((P1.dvd hm hf hd).mp (cg_of_dvd (Int.dvd_mul_right d q) z)) ((P2.dvd hm hf hq).mp (cg_of_dvd (Int.dvd_mul_left d q) z))
      · intro z
        exact cg_crt h ((P1.dvd hm hf hd).mpr (Nat.dvd_trans (Nat.dvd_lcm_left _ _) z)) ((P2.dvd hm hf hq).mpr (Nat.dvd_trans (Nat.dvd_lcm_right _ _) z))
    refine ⟨Nat.lcm_pos P1.pos P2.pos, (iff_ _).mpr (Nat.dvd_refl _), fun j j0 jl z => ?_⟩
    have := Nat.le_of_dvd j0 ((iff_ j).mp z)
    omega
  unfold cntD
  rw [tn, cntN_sum ks nk (key := perD m f d) fun i _ _ => hk i]
  congr 1
  refine List.map_congr_left fun k _ => ?_
  rw [cntN_sum ls nl (key := perD m f q) fun i _ _ => hl i]
  congr 1
  refine List.map_congr_left fun l _ => ?_
  split
  · next c =>
    rw [← cntN_mul cop]
    refine cntN_cong fun i _ => ?_
    rw [key, perD_mod hm hf d1 hd, perD_mod hm hf q1 hq]
    by_cases c1 : perD m f d i = k
    · by_cases c2 : perD m f q i = l
      · simp [c1, c2, c]
      · simp [c1, c2]
    · simp [c1]
  · next c =>
    refine cntN_none fun i _ => ?_
    rw [key]
    by_cases c1 : perD m f d i = k
    · by_cases c2 : perD m f q i = l
      · simp [c1, c2, c]
      · simp [c1, c2]
    · simp [c1]
end
/-! ### how many numbers a map keeps -/
theorem keep_iff {m : Int} {g : Mp} {x : Int} (hm : 2 ≤ m) (x0 : 0 ≤ x) (x1 : x < m) : img m g x = x ↔ Cg m ((g.1 - 1) * x) (-g.2) := by
  unfold img Cg
  have e : (g.1 - 1) * x - -g.2 = g.1 * x + g.2 - x := by rw [Int.sub_mul, Int.one_mul]; omega
  rw [e]
  constructor
  · intro h
    refine ⟨(g.1 * x + g.2) / m, ?_⟩
    have := Int.emod_add_mul_ediv (g.1 * x + g.2) m
    omega
  · intro h
    have h1 : (g.1 * x + g.2) % m = x % m := Int.emod_eq_emod_iff_emod_sub_eq_zero.mpr (Int.emod_eq_zero_of_dvd h)
    rw [h1, Int.emod_eq_of_lt x0 x1]
theorem keep_cnt {m : Int} {g : Mp} {s t : Int} (hm : 2 ≤ m) (h : Slv m (g.1 - 1) (-g.2) s t) : cntN m.toNat (fun i => decide (img m g (i : Int) = (i : Int))) = (m / t).toNat := by
  have t1 := h.t1
  have s0 := h.s0
  have s1 := h.s1
  have et : t ∣ m := ⟨_, h.dv.symm⟩
  obtain ⟨c, hc⟩ := et
  have c0 : 0 ≤ c := by
    rcases Int.lt_or_le c 0 with z | z
    · have := Int.mul_neg_of_pos_of_neg (show 0 < t by omega) z
      omega
    · exact z
  have ed : m / t = c := by rw [hc]; exact Int.mul_ediv_cancel_left _ (by omega)
  have em : m.toNat = c.toNat * t.toNat := by rw [hc, Int.mul_comm, Int.toNat_mul c0 (by omega)]
  have h9 := cntN_mod (t := t.toNat) (r := s.toNat) (by omega) c.toNat
  rw [← em] at h9
  rw [ed, ← h9]
  refine cntN_cong fun i hi => ?_
  refine decide_eq_decide.mpr ?_
  rw [keep_iff hm (by omega) (by omega), h.iff]
  have e1 : Cg t (i : Int) s ↔ (i : Int) % t = s := by
    unfold Cg
    rw [← dvd_emod, ← Int.emod_eq_emod_iff_emod_sub_eq_zero, Int.emod_eq_of_lt s0 s1]
  rw [e1]
  have e2 : ((i % t.toNat : Nat) : Int) = (i : Int) % t := by rw [Int.natCast_emod, Int.toNat_of_nonneg (by omega)]
  omega
theorem keep_none {m : Int} {g : Mp} (hm : 2 ≤ m) (h : ¬ ((Int.gcd (g.1 - 1) m : Nat) : Int) ∣ -g.2) : cntN m.toNat (fun i => decide (img m g (i : Int) = (i : Int))) = 0 :=
  cntN_none fun i hi => decide_eq_false fun z => slv_none h ((keep_iff hm (by omega) (by omega)).mp z)
/-- those that come back after n times are those that the power keeps -/
theorem back_keep {m : Int} {f : Mp} {n : Nat} : cntN m.toNat (fun i => decide (orb m f (i : Int) n = (i : Int))) = cntN m.toNat (fun i => decide (img m (npw m f n) (i : Int) = (i : Int))) := rfl
/-! ### the powers of primes of a number -/
def prI : List Int → Int
  | [] => 1
  | q :: r => q * prI r
theorem prI_snoc (q : Int) : ∀ qs : List Int, prI (qs ++ [q]) = prI qs * q
  | [] => by show q * 1 = 1 * q; omega
  | a :: r => by show a * prI (r ++ [q]) = a * prI r * q; rw [prI_snoc q r, Int.mul_assoc]
structure PpL (m : Int) (qs : List Int) : Prop where
  pos : 1 ≤ prI qs
  dv : prI qs ∣ m
  at_ : ∀ (i : Nat) (q : Int), qs[i]? = some q → 2 ≤ q ∧ 1 ≤ prI (qs.take i) ∧ Int.gcd (prI (qs.take i)) q = 1 ∧ prI (qs.take i) * q ∣ m
theorem PpL.nil {m : Int} : PpL m [] := ⟨by decide, Int.one_dvd m, fun i q h => by simp at h⟩
theorem PpL.snoc {m q : Int} {qs : List Int} (h : PpL m qs) (q2 : 2 ≤ q) (co : Int.gcd (prI qs) q = 1) (hd : prI qs * q ∣ m) : PpL m (qs ++ [q]) := by
  refine ⟨?_, by rw [prI_snoc]; exact hd, fun i r hr => ?_⟩
  · rw [prI_snoc]
    have := Int.mul_le_mul_of_nonneg_left (show 1 ≤ q by omega) (show 0 ≤ prI qs by have := h.pos; omega)
    have := h.pos
    omega
  · rcases Nat.lt_or_ge i qs.length with c | c
    · rw [List.getElem?_append_left c] at hr
      rw [List.take_append_of_le_length (by omega)]
      exact h.at_ i r hr
    · rw [List.getElem?_append_right c] at hr
      rcases Nat.eq_zero_or_pos (i - qs.length) with z | z
      · rw [z] at hr
        cases hr
        have : i = qs.length := by omega
        subst this
        rw [List.take_append_of_le_length (Nat.le_refl _), List.take_length]
        exact ⟨q2, h.pos, co, hd⟩
      · rw [List.getElem?_eq_none (by simp; omega)] at hr
        cases hr
def sp_ppow : Sp := fun vs H Q _ => ∃ m : Int, vs = [.int m] ∧ 1 ≤ m ∧ m ≤ 1000000000 ∧ Sm m ∧ ∀ H' l qs, Same H H' → H l = none → H' l = some (.lst (qs.map V.int)) → qs.length ≤ 6 → PpL m qs → prI qs = m → Q (.ref l) H'
theorem w_ppow {H : Hp} {Q : VK} {E : XK} {m : Int} (hm : 1 ≤ m) (h9 : m ≤ 1000000000) (hs : Sm m) (h : ∀ H' l qs, Same H H' → H l = none → H' l = some (.lst (qs.map V.int)) → qs.length ≤ 6 → PpL m qs → prI qs = m → Q (.ref l) H') : sp_ppow [.int m] H Q E := ⟨m, rfl, hm, h9, hs, h⟩
end Vg

set_option Elab.async false
set_option linter.all false
set_option maxRecDepth 100000
set_option maxHeartbeats 2000000
namespace Vg
open PySem PySem.Spec PyProof.Rows L2
/-! ### how many numbers have a period: multiples of it -/
theorem cntN_list {q : Nat} {l : List Nat} (nd : l.Nodup) (hl : ∀ x ∈ l, x < q) : cntN q (fun i => decide (i ∈ l)) = l.length := by
  induction l with
  | nil => exact cntN_none fun i _ => by simp
  | cons a l ih =>
    obtain ⟨n1, n2⟩ := List.nodup_cons.mp nd
    have e : cntN q (fun i => decide (i ∈ a :: l)) = cntN q (fun i => decide (i = a) || decide (i ∈ l)) := cntN_cong fun i _ => by simp
    rw [e, cntN_or (fun i _ z => by
      have z' := of_decide_eq_true z
      rw [z']
      exact decide_eq_false n1), ih n2 fun x hx => hl x (List.mem_cons_of_mem _ hx), cntN_one (hl a (List.mem_cons_self ..)), List.length_cons, Nat.add_comm]
theorem cntN_split {q : Nat} (p r : Nat → Bool) : cntN q p = cntN q (fun i => p i && r i) + cntN q (fun i => p i && !r i) := by
  rw [← cntN_or (fun i _ z => by simp at z ⊢; intro _; exact z.2)]
  exact cntN_cong fun i _ => by cases p i <;> cases r i <;> rfl
theorem cntN_le {q : Nat} {p r : Nat → Bool} (h : ∀ i, i < q → p i = true → r i = true) : cntN q p ≤ cntN q r := by
  rw [cntN_split r p]
  refine Nat.le_trans (Nat.le_of_eq (cntN_cong fun i hi => ?_)) (Nat.le_add_right _ _)
  cases hp : p i with
  | false => simp
  | true => simp [h i hi hp]
theorem cntN_leq (q : Nat) (p : Nat → Bool) : cntN q p ≤ q := by
  have := cntN_le (q := q) (p := p) (r := fun _ => true) fun _ _ _ => rfl
  rwa [cntN_all] at this
theorem cntN_ex {q : Nat} {p : Nat → Bool} (h : 0 < cntN q p) : ∃ i, i < q ∧ p i = true := by
  rcases Classical.em (∃ i, i < q ∧ p i = true) with c | c
  · exact c
  · exfalso
    have : cntN q p = 0 := cntN_none fun i hi => by
      cases hp : p i with
      | false => rfl
      | true => exact absurd ⟨i, hi, hp⟩ c
    omega
theorem cntN_pos {q : Nat} {p : Nat → Bool} {i : Nat} (hi : i < q) (h : p i = true) : 0 < cntN q p :=
  List.countP_pos_iff.mpr ⟨i, List.mem_range.mpr hi, h⟩
section
variable {m : Int} {f : Mp} {x y : Int}
/-- a cycle as numbers -/
def cycN (m : Int) (f : Mp) (x : Nat) (n : Nat) : List Nat := (List.range n).map fun i => (orb m f (x : Int) i).toNat
theorem cycN_len {x n : Nat} : (cycN m f x n).length = n := by unfold cycN; simp
theorem cycN_mem {x n z : Nat} (hm : 2 ≤ m) : z ∈ cycN m f x n ↔ ∃ i, i < n ∧ orb m f (x : Int) i = (z : Int) := by
  unfold cycN
  rw [List.mem_map]
  constructor
  · rintro ⟨i, hi, e⟩
    have := orb_bd (f := f) (x := (x : Int)) hm i
    exact ⟨i, List.mem_range.mp hi, by omega⟩
  · rintro ⟨i, hi, e⟩
    exact ⟨i, List.mem_range.mpr hi, by rw [e]; exact Int.toNat_natCast z⟩
theorem cycN_nd {x n : Nat} (hm : 2 ≤ m) (hf : Ok m f) (h : Per m f (x : Int) m n) : (cycN m f x n).Nodup := by
  unfold cycN List.Nodup
  rw [List.pairwise_map]
  refine List.Pairwise.imp_of_mem (fun {a b} ha hb ne => ?_) List.nodup_range
  intro e
  have b1 := orb_bd (f := f) (x := (x : Int)) hm a
  have b2 := orb_bd (f := f) (x := (x : Int)) hm b
  have := (orb_cgN hm hf h).mp (show orb m f (x : Int) a = orb m f (x : Int) b by omega)
  rw [Nat.mod_eq_of_lt (List.mem_range.mp ha), Nat.mod_eq_of_lt (List.mem_range.mp hb)] at this
  exact ne this
/-- a set of numbers with the period n that is closed has a multiple of n of them -/
theorem closed_dvd (hm : 2 ≤ m) (hf : Ok m f) {n : Nat} : ∀ (k : Nat) (p : Nat → Bool), cntN m.toNat p ≤ k → (∀ i, i < m.toNat → p i = true → Per m f (i : Int) m n ∧ ∀ e, p (orb m f (i : Int) e).toNat = true) → n ∣ cntN m.toNat p
  | 0, p, hk, _ => by
    have : cntN m.toNat p = 0 := by omega
    rw [this]; exact Nat.dvd_zero n
  | k + 1, p, hk, h => by
    rcases Nat.eq_zero_or_pos (cntN m.toNat p) with z | z
    · rw [z]; exact Nat.dvd_zero n
    · obtain ⟨x, hx, px⟩ := cntN_ex z
      obtain ⟨hn, hc⟩ := h x hx px
      have nd := cycN_nd hm hf hn
      have e1 : cntN m.toNat (fun i => p i && decide (i ∈ cycN m f x n)) = n := by
        rw [show cntN m.toNat (fun i => p i && decide (i ∈ cycN m f x n)) = cntN m.toNat (fun i => decide (i ∈ cycN m f x n)) from cntN_cong fun i hi => by
          by_cases c : i ∈ cycN m f x n
          · obtain ⟨j, hj, e⟩ := (cycN_mem hm).mp c
            have := hc j
            rw [e, Int.toNat_natCast] at this
            simp [this]
          · simp [c]]
        rw [cntN_list nd fun y hy => ?_, cycN_len]
        obtain ⟨j, hj, e⟩ := (cycN_mem hm).mp hy
        have := orb_bd (f := f) (x := (x : Int)) hm j
        omega
      rw [cntN_split p (fun i => decide (i ∈ cycN m f x n)), e1]
      refine Nat.dvd_add (Nat.dvd_refl n) (closed_dvd hm hf k _ ?_ fun i hi pi => ?_)
      · have := cntN_split (q := m.toNat) p (fun i => decide (i ∈ cycN m f x n))
        rw [e1] at this
        have := hn.pos
        omega
      · simp only [Bool.and_eq_true, Bool.not_eq_true', decide_eq_false_iff_not] at pi ⊢
        obtain ⟨h1, h2⟩ := h i hi pi.1
        refine ⟨h1, fun e => ⟨h2 e, fun z => pi.2 ?_⟩⟩
        -- back to i
        obtain ⟨j, hj, ej⟩ := (cycN_mem hm).mp z
        have bd := orb_bd (f := f) (x := (i : Int)) hm e
        have ej' : orb m f (x : Int) j = orb m f (i : Int) e := by omega
        have h3 : orb m f (i : Int) (e + (n - e % n)) = (i : Int) := by
          refine (per_ret hm hf (by omega) (by omega) h1 _).mpr ?_
          have := Nat.mod_lt e hn.pos
          have h4 := Nat.mod_add_div e n
          refine ⟨e / n + 1, ?_⟩
          rw [Nat.mul_add]
          omega
        rw [orb_add hm hf, ← ej', ← orb_add hm hf] at h3
        refine (cycN_mem hm).mpr ⟨(j + (n - e % n)) % n, Nat.mod_lt _ hn.pos, ?_⟩
        rw [← h3]
        exact (orb_cgN hm hf hn).mpr (Nat.mod_mod _ _)
theorem cntP_dvd (hm : 2 ≤ m) (hf : Ok m f) (n : Nat) : n ∣ cntP m f n := by
  refine closed_dvd hm hf _ _ (Nat.le_refl _) fun i hi h => ?_
  have hp := perK_per hm hf i
  rw [of_decide_eq_true h] at hp
  refine ⟨hp, fun e => decide_eq_true (perK_eq hm hf ?_)⟩
  have b := orb_bd (f := f) (x := (i : Int)) hm e
  rw [Int.toNat_of_nonneg b.1]
  exact per_orb hm hf (by omega) (by omega) hp e
theorem cntP_le (n : Nat) : cntP m f n ≤ m.toNat := cntN_leq _ _
theorem cntP_ge (hm : 2 ≤ m) (hf : Ok m f) {n : Nat} (h : 0 < cntP m f n) : n ≤ cntP m f n := Nat.le_of_dvd h (cntP_dvd hm hf n)
theorem cntP_pos (hm : 2 ≤ m) (hf : Ok m f) {x n : Nat} (hx : x < m.toNat) (h : Per m f (x : Int) m n) : 0 < cntP m f n := cntN_pos hx (decide_eq_true (perK_eq hm hf h))
theorem cntP_ex (hm : 2 ≤ m) (hf : Ok m f) {n : Nat} (h : 0 < cntP m f n) : ∃ x : Nat, x < m.toNat ∧ Per m f (x : Int) m n := by
  obtain ⟨x, hx, e⟩ := cntN_ex h
  have := perK_per hm hf x
  rw [of_decide_eq_true e] at this
  exact ⟨x, hx, this⟩
/-- the period modulo a divisor is the period of the reduced map -/
theorem perD_red {d : Int} (hm : 2 ≤ m) (hf : Ok m f) (hd : d ∣ m) (d2 : 2 ≤ d) {i : Nat} (hi : i < d.toNat) : perD m f d i = perK d (f.1 % d, f.2 % d) i := by
  have hr := red_ok hm hf hd d2
  have h := perK_per d2 hr i
  refine perD_eq hm hf (by omega) hd (per_red hm hd d2 ?_)
  rw [show (i : Int) % d = (i : Int) from Int.emod_eq_of_lt (by omega) (by omega)]
  exact h
theorem cntD_red {d : Int} (hm : 2 ≤ m) (hf : Ok m f) (hd : d ∣ m) (d2 : 2 ≤ d) (n : Nat) : cntD m f d n = cntP d (f.1 % d, f.2 % d) n := by
  unfold cntD cntP
  exact cntN_cong fun i hi => by rw [perD_red hm hf hd d2 hi]
theorem cntD_self (hm : 2 ≤ m) (hf : Ok m f) (n : Nat) : cntD m f m n = cntP m f n := by
  have b := hf.bd
  rw [cntD_red hm hf (Int.dvd_refl m) hm, Int.emod_eq_of_lt b.1 b.2.1, Int.emod_eq_of_lt b.2.2.1 b.2.2.2]
theorem cntD_one (hm : 2 ≤ m) (hf : Ok m f) (n : Nat) : cntD m f 1 n = if n = 1 then 1 else 0 := by
  have e : ∀ i, perD m f 1 i = 1 := fun i => perD_eq hm hf (by decide) (Int.one_dvd m) Per.one
  unfold cntD
  by_cases c : n = 1
  · rw [if_pos c, show cntN (Int.toNat 1) (fun i => decide (perD m f 1 i = n)) = cntN 1 (fun _ => true) from cntN_cong fun i _ => by rw [e, c]; rfl, cntN_all]
  · rw [if_neg c]
    exact cntN_none fun i _ => by rw [e]; exact decide_eq_false fun z => c z.symm
theorem cntD_ge {d : Int} (hm : 2 ≤ m) (hf : Ok m f) (d1 : 1 ≤ d) (hd : d ∣ m) {n : Nat} (h : 0 < cntD m f d n) : n ≤ cntD m f d n ∧ 0 < n := by
  rcases Int.lt_or_le d 2 with c | c
  · have : d = 1 := by omega
    subst this
    rw [cntD_one hm hf] at h ⊢
    split at h
    · next c => subst c; exact ⟨Nat.le_refl _, by decide⟩
    · omega
  · rw [cntD_red hm hf hd c] at h ⊢
    have hr := red_ok hm hf hd c
    refine ⟨cntP_ge c hr h, ?_⟩
    obtain ⟨x, _, hp⟩ := cntP_ex c hr h
    exact hp.pos
theorem cntD_le {d : Int} (n : Nat) : cntD m f d n ≤ d.toNat := cntN_leq _ _
end
theorem sum_cnt_le {q : Nat} {key : Nat → Nat} {ks : List Nat} (nd : ks.Nodup) : (ks.map fun k => cntN q fun i => decide (key i = k)).sum ≤ q := by
  have h := cntN_sum (q := q) (p := fun i => decide (key i ∈ ks)) (key := key) ks nd fun i _ z => of_decide_eq_true z
  have e : (ks.map fun k => cntN q fun i => decide (key i ∈ ks) && decide (key i = k)) = ks.map fun k => cntN q fun i => decide (key i = k) := List.map_congr_left fun k hk => cntN_cong fun i _ => by
    by_cases c : key i = k
    · simp [c, hk]
    · simp [c]
  rw [e] at h
  rw [← h]
  exact cntN_leq _ _
theorem sum_ge_len : ∀ (l : List Nat) (b : Nat), (∀ x ∈ l, b ≤ x) → l.length * b ≤ l.sum
  | [], b, _ => by simp
  | x :: l, b, h => by
    have := sum_ge_len l b fun y hy => h y (List.mem_cons_of_mem _ hy)
    have := h x (List.mem_cons_self ..)
    rw [List.length_cons, List.sum_cons, Nat.add_mul, Nat.one_mul]
    omega
theorem sum_filter_le (p : Nat → Bool) : ∀ l : List Nat, (l.filter p).sum ≤ l.sum
  | [] => by simp
  | x :: l => by
    have := sum_filter_le p l
    rw [List.filter_cons]
    split
    · rw [List.sum_cons, List.sum_cons]; omega
    · rw [List.sum_cons]; omega
/-- different numbers whose sum is not large are not many -/
theorem few_of_sum {l : List Nat} (nd : l.Nodup) (hs : l.sum ≤ 1000000000) : l.length ≤ 64000 := by
  have e : l.length = (l.filter fun x => decide (x < 32000)).length + (l.filter fun x => !decide (x < 32000)).length := by
    have h1 := List.length_eq_countP_add_countP (fun x => decide (x < 32000)) (l := l)
    rw [List.countP_eq_length_filter, List.countP_eq_length_filter] at h1
    rw [h1]
    congr 2
    exact List.filter_congr fun x _ => by by_cases c : x < 32000 <;> simp [c] <;> omega
  have h1 : (l.filter fun x => decide (x < 32000)).length ≤ 32000 := by
    have := nat_nodup_len _ (List.range 32000) (nd.filter (fun x => decide (x < 32000))) fun x hx => List.mem_range.mpr (of_decide_eq_true (List.mem_filter.mp hx).2)
    rwa [List.length_range] at this
  have h2 := sum_ge_len (l.filter fun x => !decide (x < 32000)) 32000 fun x hx => by
    have := (List.mem_filter.mp hx).2
    simp at this
    exact this
  have h3 := sum_filter_le (fun x => !decide (x < 32000)) l
  omega
theorem sum_map_le {g h : Nat → Nat} : ∀ {l : List Nat}, (∀ x ∈ l, g x ≤ h x) → (l.map g).sum ≤ (l.map h).sum
  | [], _ => Nat.le_refl _
  | x :: l, hh => by
    have := sum_map_le (g := g) (h := h) (l := l) fun y hy => hh y (List.mem_cons_of_mem _ hy)
    have := hh x (List.mem_cons_self ..)
    rw [List.map_cons, List.map_cons, List.sum_cons, List.sum_cons]
    omega
theorem per_few {m : Int} {f : Mp} {d : Int} (hm : 2 ≤ m) (h9 : m ≤ 1000000000) (hf : Ok m f) (d1 : 1 ≤ d) (hd : d ∣ m) {ks : List Nat} (nd : ks.Nodup) (h : ∀ k ∈ ks, 0 < cntD m f d k) : ks.length ≤ 64000 := by
  refine few_of_sum nd ?_
  have h1 := sum_cnt_le (q := d.toNat) (key := perD m f d) nd
  have h2 := sum_map_le (g := id) (h := cntD m f d) (l := ks) fun k hk => (cntD_ge hm hf d1 hd (h k hk)).1
  rw [List.map_id] at h2
  have h3 := Int.le_of_dvd (by omega) hd
  have h4 : (ks.map (cntD m f d)).sum ≤ d.toNat := h1
  omega
/-! ### dicts from numbers to numbers -/
def tabN (ks : List Nat) (g : Nat → Nat) : List (Key × V) := ks.map fun k => (Sum.inl ((k : Nat) : Int), V.int ((g k : Nat) : Int))
theorem tabN_len (ks : List Nat) (g : Nat → Nat) : (tabN ks g).length = ks.length := List.length_map _
theorem tabN_val {g : Nat → Nat} {k : Nat} : ∀ {ks : List Nat}, valV (tabN ks g) (Sum.inl (k : Int)) = if k ∈ ks then some (V.int ((g k : Nat) : Int)) else none
  | [] => rfl
  | a :: ks => by
    show valV ((Sum.inl (a : Int), V.int ((g a : Nat) : Int)) :: tabN ks g) (Sum.inl (k : Int)) = _
    by_cases c : a = k
    · subst c
      rw [valV_pos rfl, if_pos (List.mem_cons_self ..)]
    · rw [valV_neg (fun e => c (by injection e with e; omega)), tabN_val]
      have : k ∈ a :: ks ↔ k ∈ ks := by
        rw [List.mem_cons]
        exact ⟨fun z => z.elim (fun y => absurd y.symm c) id, .inr⟩
      by_cases c2 : k ∈ ks
      · rw [if_pos c2, if_pos (this.mpr c2)]
      · rw [if_neg c2, if_neg fun z => c2 (this.mp z)]
theorem tabN_cong {ks : List Nat} {g h : Nat → Nat} (e : ∀ k ∈ ks, g k = h k) : tabN ks g = tabN ks h := List.map_congr_left fun k hk => by rw [e k hk]
end Vg
namespace Vg
open PySem PySem.Spec PyProof.Rows L2
/-! ### all divisors of a number with small primes -/
/-- a divisor of n that has none of the primes ps -/
def Gd (n : Int) (ps : List Int) (d : Int) : Prop := 1 ≤ d ∧ d ∣ n ∧ ∀ p ∈ ps, ¬ p ∣ d
def cfT : Nat → Nat
  | 6 => 1 | 5 => 41 | 4 => 410 | 3 => 1640 | 2 => 4920 | 1 => 9840 | _ => 19680
structure Dvs (n : Int) (ps : List Int) (ds : List Int) : Prop where
  nd : ds.Nodup
  iff : ∀ d, d ∈ ds ↔ Gd n ps d
  few : ∃ M : Nat, (M : Int) ∣ n ∧ 0 < M ∧ (∀ p ∈ ps, ¬ p ∣ (M : Int)) ∧ ds.length ^ 4 ≤ cfT ps.length * M
structure Dvi (n p : Int) (ps : List Int) (b e : Nat) (found fresh : List Int) : Prop where
  nd1 : found.Nodup
  nd2 : fresh.Nodup
  f1 : ∀ d, d ∈ found ↔ Gd n ps d ∧ ¬ p ^ (e + 1) ∣ d
  f2 : ∀ d, d ∈ fresh ↔ Gd n ps d ∧ p ^ e ∣ d ∧ ¬ p ^ (e + 1) ∣ d
  l1 : found.length = (e + 1) * b
  l2 : fresh.length = b
  pe : p ^ e ∣ n
theorem Dvs.first {n : Int} (hn : 1 ≤ n) (hs : Sm n) : Dvs n P6 [1] := by
  refine ⟨List.nodup_cons.mpr ⟨by simp, List.nodup_nil⟩, fun d => ?_, 1, Int.one_dvd n, by decide, fun p hp hd => ?_, by decide⟩
  · rw [List.mem_singleton]
    constructor
    · rintro rfl
      exact ⟨by decide, Int.one_dvd n, fun p hp hd => by have := p6_bd hp; have := Int.le_of_dvd (by decide) hd; omega⟩
    · rintro ⟨h1, h2, h3⟩
      exact sm_one hs d h1 h2 h3
  · have := p6_bd hp
    have := Int.le_of_dvd (by decide) (show p ∣ 1 from hd)
    omega
theorem Dvs.start {n p : Int} {ps B : List Int} (h : Dvs n (p :: ps) B) : Dvi n p ps B.length 0 B B := by
  refine ⟨h.nd, h.nd, fun d => ?_, fun d => ?_, by omega, rfl, by rw [Int.pow_zero]; exact Int.one_dvd n⟩
  · rw [h.iff]
    show Gd n (p :: ps) d ↔ _
    rw [show p ^ (0 + 1) = p by rw [Int.pow_succ, Int.pow_zero, Int.one_mul]]
    constructor
    · rintro ⟨h1, h2, h3⟩
      exact ⟨⟨h1, h2, fun q hq => h3 q (List.mem_cons_of_mem _ hq)⟩, h3 p (List.mem_cons_self ..)⟩
    · rintro ⟨⟨h1, h2, h3⟩, h4⟩
      refine ⟨h1, h2, fun q hq => ?_⟩
      rcases List.mem_cons.mp hq with z | z
      · rw [z]; exact h4
      · exact h3 q z
  · rw [h.iff]
    show Gd n (p :: ps) d ↔ _
    rw [show p ^ (0 + 1) = p by rw [Int.pow_succ, Int.pow_zero, Int.one_mul], Int.pow_zero]
    constructor
    · rintro ⟨h1, h2, h3⟩
      exact ⟨⟨h1, h2, fun q hq => h3 q (List.mem_cons_of_mem _ hq)⟩, Int.one_dvd d, h3 p (List.mem_cons_self ..)⟩
    · rintro ⟨⟨h1, h2, h3⟩, _, h4⟩
      refine ⟨h1, h2, fun q hq => ?_⟩
      rcases List.mem_cons.mp hq with z | z
      · rw [z]; exact h4
      · exact h3 q z
theorem Dvi.step {n p : Int} {ps found fresh : List Int} {b e : Nat} (hp : p ∈ P6) (hps : ∀ q ∈ ps, q ∈ P6 ∧ q ≠ p) (h : Dvi n p ps b e found fresh) (hd : p ^ (e + 1) ∣ n) :
    Dvi n p ps b (e + 1) (found ++ fresh.map (· * p)) (fresh.map (· * p)) := by
  have p2 := p6_bd hp
  have p0 : p ≠ 0 := by omega
  have ppos : ∀ k : Nat, p ^ k ≠ 0 := fun k => Int.pow_ne_zero p0
  have nd2 : (fresh.map (· * p)).Nodup := by
    unfold List.Nodup
    rw [List.pairwise_map]
    refine List.Pairwise.imp (fun {a b} ne z => ne ?_) h.nd2
    exact Int.eq_of_mul_eq_mul_right p0 z
  have mem : ∀ d, d ∈ fresh.map (· * p) ↔ Gd n ps d ∧ p ^ (e + 1) ∣ d ∧ ¬ p ^ (e + 1 + 1) ∣ d := fun d => by
    rw [List.mem_map]
    constructor
    · rintro ⟨c, hc, rfl⟩
      obtain ⟨⟨c1, c2, c3⟩, c4, c5⟩ := (h.f2 c).mp hc
      refine ⟨⟨?_, ?_, fun q hq z => ?_⟩, ?_, fun z => c5 ?_⟩
      · have := Int.mul_le_mul_of_nonneg_left (show 1 ≤ p by omega) (show 0 ≤ c by omega)
        omega
      · obtain ⟨k, hk⟩ := c2
        obtain ⟨r, hr⟩ := c4
        have hnp : ¬ p ∣ r := fun ⟨t, ht⟩ => c5 ⟨t, by rw [hr, ht, Int.pow_succ, Int.mul_assoc]⟩
        have h1 : p ∣ r * k := by
          obtain ⟨t, ht⟩ := hd
          refine ⟨t, Int.eq_of_mul_eq_mul_left (ppos e) ?_⟩
          rw [← Int.mul_assoc, ← hr, ← hk, ht, Int.pow_succ, Int.mul_assoc]
        rcases p6_prime hp h1 with z | ⟨t, ht⟩
        · exact absurd z hnp
        · exact ⟨t, by rw [hk, ht, Int.mul_assoc]⟩
      · rcases p6_prime (hps q hq).1 z with y | y
        · exact c3 q hq y
        · exact (hps q hq).2 (p6_dvd hp (hps q hq).1 y)
      · rw [Int.pow_succ]; exact Int.mul_dvd_mul_right p c4
      · rw [Int.pow_succ p (e + 1)] at z
        exact Int.dvd_of_mul_dvd_mul_right p0 z
    · rintro ⟨⟨d1, d2, d3⟩, d4, d5⟩
      have hpd : p ∣ d := Int.dvd_trans ⟨p ^ e, by rw [Int.pow_succ, Int.mul_comm]⟩ d4
      obtain ⟨c, hc⟩ := hpd
      have hc' : d = c * p := by rw [hc, Int.mul_comm]
      refine ⟨c, (h.f2 c).mpr ⟨⟨?_, Int.dvd_trans ⟨p, hc'⟩ d2, fun q hq z => d3 q hq (Int.dvd_trans z ⟨p, hc'⟩)⟩, ?_, fun z => d5 ?_⟩, hc'.symm⟩
      · rcases Int.lt_or_le 0 c with z | z
        · omega
        · have := Int.mul_nonpos_of_nonpos_of_nonneg z (show 0 ≤ p by omega)
          omega
      · rw [hc', Int.pow_succ] at d4
        exact Int.dvd_of_mul_dvd_mul_right p0 d4
      · rw [hc', Int.pow_succ]; exact Int.mul_dvd_mul_right p z
  have more : ∀ {d : Int}, p ^ (e + 1 + 1) ∣ d → p ^ (e + 1) ∣ d := fun z => Int.dvd_trans ⟨p, Int.pow_succ _ _⟩ z
  refine ⟨?_, nd2, fun d => ?_, mem, by rw [List.length_append, List.length_map, h.l1, h.l2, Nat.add_mul (e + 1) 1 b, Nat.one_mul], by rw [List.length_map, h.l2], hd⟩
  · refine List.nodup_append.mpr ⟨h.nd1, nd2, fun a ha c hc z => ?_⟩
    subst z
    exact ((h.f1 a).mp ha).2 ((mem a).mp hc).2.1
  · rw [List.mem_append, h.f1, mem]
    constructor
    · rintro (⟨h1, h2⟩ | ⟨h1, _, h2⟩)
      · exact ⟨h1, fun z => h2 (more z)⟩
      · exact ⟨h1, h2⟩
    · rintro ⟨h1, h2⟩
      by_cases c : p ^ (e + 1) ∣ d
      · exact .inr ⟨h1, c, h2⟩
      · exact .inl ⟨h1, c⟩
theorem cf_pow : ∀ i, i < 6 → ∀ e, e < 60 → (e + 1) ^ 4 * cfT (6 - i) ≤ cfT (5 - i) * (([2, 3, 5, 7, 11, 13] : List Nat).getD i 0) ^ e := by decide +kernel
theorem Dvi.few {n p : Int} {ps B found fresh : List Int} {e i : Nat} (hn : 1 ≤ n) (n9 : n ≤ 1000000000000000000) (hi : P6.drop i = p :: ps) (h0 : Dvs n (p :: ps) B) (h : Dvi n p ps B.length e found fresh) :
    ∃ M : Nat, (M : Int) ∣ n ∧ 0 < M ∧ (∀ p ∈ ps, ¬ p ∣ (M : Int)) ∧ found.length ^ 4 ≤ cfT ps.length * M := by
  have hp : p ∈ P6 := List.mem_of_mem_drop (by rw [hi]; exact List.mem_cons_self ..)
  have p2 := p6_bd hp
  have il : i < 6 := by
    rcases Nat.lt_or_ge i 6 with z | z
    · exact z
    · rw [List.drop_eq_nil_of_le (show P6.length ≤ i from z)] at hi; cases hi
  have psl : ps.length = 5 - i := by
    have := congrArg List.length hi
    rw [List.length_drop, List.length_cons, show P6.length = 6 from rfl] at this
    omega
  have pv : p = ((([2, 3, 5, 7, 11, 13] : List Nat).getD i 0 : Nat) : Int) := by
    have h1 : P6[i]? = some p := by
      have := congrArg (fun l : List Int => l[0]?) hi
      simp only [List.getElem?_drop, Nat.add_zero, List.getElem?_cons_zero] at this
      exact this
    have : i = 0 ∨ i = 1 ∨ i = 2 ∨ i = 3 ∨ i = 4 ∨ i = 5 := by omega
    rcases this with rfl | rfl | rfl | rfl | rfl | rfl <;> exact (Option.some.inj h1).symm
  obtain ⟨M, m1, m0, m2, m3⟩ := h0.few
  generalize hP : ([2, 3, 5, 7, 11, 13] : List Nat).getD i 0 = pn at pv
  have pw : p ^ e = ((pn ^ e : Nat) : Int) := by rw [pv, Int.natCast_pow]
  have pn2 : 2 ≤ pn := by omega
  have hpe : ((pn ^ e : Nat) : Int) ∣ n := by rw [← pw]; exact h.pe
  have ple := Int.le_of_dvd (by omega) hpe
  have e60 : e < 60 := by
    rcases Nat.lt_or_ge e 60 with z | z
    · exact z
    · exfalso
      have h1 : 2 ^ 60 ≤ pn ^ e := Nat.le_trans (Nat.pow_le_pow_left pn2 60) (Nat.pow_le_pow_right (by omega) z)
      have h2 : (2 : Nat) ^ 60 = 1152921504606846976 := by decide
      omega
  have hM : ¬ p ∣ (M : Int) := m2 p (List.mem_cons_self ..)
  have co : Int.gcd (M : Int) ((pn ^ e : Nat) : Int) = 1 := by
    have h1 := p6_gcd hp hM
    rw [pv] at h1
    exact Nat.Coprime.pow_right e (show Nat.Coprime M pn from h1)
  refine ⟨M * pn ^ e, ?_, Nat.mul_pos m0 (Nat.pow_pos (by omega)), fun q hq z => ?_, ?_⟩
  · rw [Int.natCast_mul]
    exact mul_dvd_co co m1 hpe
  · have hq6 : q ∈ P6 := List.mem_of_mem_drop (by rw [hi]; exact List.mem_cons_of_mem _ hq)
    rw [Int.natCast_mul, ← pw] at z
    rcases p6_prime hq6 z with y | y
    · exact m2 q (List.mem_cons_of_mem _ hq) y
    · have key : ∀ k : Nat, q ∣ p ^ k → q ∣ p := fun k => by
        induction k with
        | zero =>
          intro z
          rw [Int.pow_zero] at z
          have := p6_bd hq6
          have := Int.le_of_dvd (by decide) z
          omega
        | succ k ih =>
          intro z
          rw [Int.pow_succ] at z
          rcases p6_prime hq6 z with y | y
          · exact ih y
          · exact y
      have eq := p6_dvd hp hq6 (key e y)
      subst eq
      have nd : (P6.drop i).Nodup := (show P6.Nodup by decide).sublist (List.drop_sublist _ _)
      rw [hi] at nd
      exact (List.nodup_cons.mp nd).1 hq
  · rw [h.l1, Nat.mul_pow, psl]
    rw [List.length_cons, psl, show 5 - i + 1 = 6 - i by omega] at m3
    have c := cf_pow i il e e60
    rw [hP] at c
    calc (e + 1) ^ 4 * B.length ^ 4 ≤ (e + 1) ^ 4 * (cfT (6 - i) * M) := Nat.mul_le_mul_left _ m3
      _ = ((e + 1) ^ 4 * cfT (6 - i)) * M := by rw [Nat.mul_assoc]
      _ ≤ (cfT (5 - i) * pn ^ e) * M := Nat.mul_le_mul_right _ c
      _ = cfT (5 - i) * (M * pn ^ e) := by rw [Nat.mul_assoc, Nat.mul_comm (pn ^ e) M]
theorem Dvi.done {n p : Int} {ps B found fresh : List Int} {e i : Nat} (hn : 1 ≤ n) (n9 : n ≤ 1000000000000000000) (hi : P6.drop i = p :: ps) (h0 : Dvs n (p :: ps) B) (h : Dvi n p ps B.length e found fresh) (hd : ¬ p ^ (e + 1) ∣ n) : Dvs n ps found := by
  refine ⟨h.nd1, fun d => ?_, h.few hn n9 hi h0⟩
  rw [h.f1]
  exact ⟨fun z => z.1, fun z => ⟨z, fun y => hd (Int.dvd_trans y z.2.1)⟩⟩
theorem few_lenM {n : Int} {ps ds : List Int} (hn : 1 ≤ n) (n9 : n ≤ 1000000000000000000) (h : ∃ M : Nat, (M : Int) ∣ n ∧ 0 < M ∧ (∀ p ∈ ps, ¬ p ∣ (M : Int)) ∧ ds.length ^ 4 ≤ cfT ps.length * M) : ds.length ≤ 5000000 := by
  obtain ⟨M, m1, m0, _, m3⟩ := h
  have ml := Int.le_of_dvd (by omega) m1
  have c96 : cfT ps.length ≤ 19680 := by unfold cfT; split <;> omega
  have h1 : ds.length ^ 4 ≤ 19680 * 1000000000000000000 := Nat.le_trans m3 (Nat.mul_le_mul c96 (by omega))
  rcases Nat.lt_or_ge 5000000 ds.length with z | z
  · exfalso
    have h2 := Nat.pow_le_pow_left (Nat.le_of_lt z) 4
    have h3 : (5000000 : Nat) ^ 4 = 625000000000000000000000000 := by decide
    omega
  · exact z
/-- a number up to 10 ** 9 has fewer than 3000 divisors -/
theorem few_len9 {n : Int} {ps ds : List Int} (hn : 1 ≤ n) (n9 : n ≤ 1000000000) (h : Dvs n ps ds) : ds.length ≤ 3000 := by
  obtain ⟨M, m1, m0, _, m3⟩ := h.few
  have ml := Int.le_of_dvd (by omega) m1
  have c96 : cfT ps.length ≤ 19680 := by unfold cfT; split <;> omega
  have h1 : ds.length ^ 4 ≤ 19680 * 1000000000 := Nat.le_trans m3 (Nat.mul_le_mul c96 (by omega))
  rcases Nat.lt_or_ge 3000 ds.length with z | z
  · exfalso
    have h2 := Nat.pow_le_pow_left (Nat.le_of_lt z) 4
    have h3 : (3000 : Nat) ^ 4 = 81000000000000 := by decide
    omega
  · exact z
theorem few_len {n : Int} {ps ds : List Int} (hn : 1 ≤ n) (n9 : n ≤ 1000000000000000000) (h : Dvs n ps ds) : ds.length ≤ 5000000 := few_lenM hn n9 h.few
/-- all divisors, ascending -/
structure DivL (n : Int) (ds : List Nat) : Prop where
  asc : ds.Pairwise (· < ·)
  iff : ∀ d : Nat, d ∈ ds ↔ 0 < d ∧ (d : Int) ∣ n
theorem DivL.of {n : Int} {ds ns : List Int} (hn : 1 ≤ n) (h : Dvs n [] ds) (hp : ns.Perm ds) (ho : ns.Pairwise (· ≤ ·)) : ∃ ks : List Nat, ns = ks.map (fun k : Nat => (k : Int)) ∧ DivL n ks := by
  have mem : ∀ d, d ∈ ns ↔ 1 ≤ d ∧ d ∣ n := fun d => by
    rw [hp.mem_iff, h.iff]
    exact ⟨fun z => ⟨z.1, z.2.1⟩, fun z => ⟨z.1, z.2, fun _ h => by cases h⟩⟩
  have lt := lt_of_le_nodup ns ho (hp.nodup_iff.mpr h.nd)
  refine ⟨ns.map Int.toNat, ?_, ?_, fun d => ?_⟩
  · rw [List.map_map]
    exact ((List.map_congr_left fun x hx => by
      have := ((mem x).mp hx).1
      show ((x.toNat : Nat) : Int) = x
      omega).trans (List.map_id ns)).symm
  · rw [List.pairwise_map]
    refine List.Pairwise.imp_of_mem (fun {a b} ha hb l => ?_) lt
    have := ((mem a).mp ha).1
    omega
  · rw [List.mem_map]
    constructor
    · rintro ⟨x, hx, rfl⟩
      obtain ⟨h1, h2⟩ := (mem x).mp hx
      refine ⟨by omega, ?_⟩
      rw [Int.toNat_of_nonneg (by omega)]; exact h2
    · rintro ⟨h1, h2⟩
      exact ⟨(d : Int), (mem _).mpr ⟨by omega, h2⟩, Int.toNat_natCast d⟩
/-- there is such a list -/
theorem dvi_all {n p : Int} {ps B : List Int} (hp : p ∈ P6) (hps : ∀ q ∈ ps, q ∈ P6 ∧ q ≠ p) (hn : 1 ≤ n) : ∀ (k e : Nat) (found fresh : List Int), (n / p ^ e).toNat ≤ k → Dvi n p ps B.length e found fresh → ∃ e' found' fresh', Dvi n p ps B.length e' found' fresh' ∧ ¬ p ^ (e' + 1) ∣ n
  | 0, e, found, fresh, hk, h => by
    have p2 := p6_bd hp
    have pp : 0 < p ^ e := Int.pow_pos (by omega)
    have := Int.le_of_dvd (by omega) h.pe
    have h1 : 1 ≤ n / p ^ e := by
      have := Int.ediv_le_ediv pp this
      rwa [Int.ediv_self (by omega)] at this
    omega
  | k + 1, e, found, fresh, hk, h => by
    have p2 := p6_bd hp
    have pp : 0 < p ^ e := Int.pow_pos (by omega)
    rcases Classical.em (p ^ (e + 1) ∣ n) with c | c
    · refine dvi_all hp hps hn k (e + 1) _ _ ?_ (h.step hp hps c)
      obtain ⟨t, ht⟩ := c
      have e1 : n / p ^ e = p * t := by
        rw [ht, Int.pow_succ, Int.mul_assoc]
        exact Int.mul_ediv_cancel_left _ (by omega)
      have e2 : n / p ^ (e + 1) = t := by
        rw [ht]
        exact Int.mul_ediv_cancel_left _ (Int.pow_ne_zero (by omega))
      rw [e1] at hk
      rw [e2]
      have t0 : 0 < t := by
        rcases Int.lt_or_le 0 t with z | z
        · exact z
        · have := Int.mul_nonpos_of_nonneg_of_nonpos (show 0 ≤ p ^ (e + 1) from Int.le_of_lt (Int.pow_pos (by omega))) z
          omega
      have := Int.mul_le_mul_of_nonneg_right p2.1 (show 0 ≤ t by omega)
      omega
    · exact ⟨e, found, fresh, h, c⟩
theorem dvs_all {n : Int} (hn : 1 ≤ n) (n9 : n ≤ 1000000000000000000) (hs : Sm n) : ∀ i, i ≤ 6 → ∃ ds, Dvs n (P6.drop i) ds
  | 0, _ => ⟨[1], Dvs.first hn hs⟩
  | i + 1, hi => by
    obtain ⟨B, hB⟩ := dvs_all hn n9 hs i (by omega)
    obtain ⟨p, hd⟩ : ∃ p, P6.drop i = p :: P6.drop (i + 1) := by
      have : i < P6.length := by show i < 6; omega
      exact ⟨P6[i], List.drop_eq_getElem_cons this⟩
    have hp6 : p ∈ P6 := List.mem_of_mem_drop (by rw [hd]; exact List.mem_cons_self ..)
    have hps : ∀ q ∈ P6.drop (i + 1), q ∈ P6 ∧ q ≠ p := fun q hq => by
      refine ⟨List.mem_of_mem_drop hq, fun z => ?_⟩
      have nd : (P6.drop i).Nodup := (show P6.Nodup by decide).sublist (List.drop_sublist _ _)
      rw [hd] at nd
      exact (List.nodup_cons.mp nd).1 (z ▸ hq)
    rw [hd] at hB
    obtain ⟨e, found, fresh, h, hno⟩ := dvi_all hp6 hps hn _ 0 B B (Nat.le_refl _) hB.start
    exact ⟨found, Dvi.done hn n9 hd hB h hno⟩
end Vg

set_option Elab.async false
set_option linter.all false
set_option maxRecDepth 100000
set_option maxHeartbeats 4000000
/-! Own layer: sorted over what is gathered (the keys of a dict, a set, any number of ints); loops over the keys of a dict; long lists made by a comprehension. -/
namespace Vg
open PySem PySem.Spec PySem.Calls PyProof.Rows L2
section
variable {prog : Program} {w : World} {A : Around} {E : Value → Shared → Prop} {s : Shared}
/-- sorted(r) where the items of r, gathered, are ints -/
theorem sorted_gath {r : Value} {T : List Int → Prop} {Q : Value → Shared → Prop}
    (gath : ∀ Q' : List Value → Shared → Prop, (∀ (s1 : Shared) (us : List Value) (ns : List Int), (∀ b o, s.heap.get? b = some o → s1.heap.get? b = some o) → s.heap.objs.size ≤ s1.heap.objs.size →
      s1.gens = s.gens → s1.os = s.os → IntsAre us ns → us.length ≤ sizeLine → T ns → Q' us s1) → wpAny (model prog w) A.in1 (collect r) Q' E s)
    (hQ : ∀ (s1 : Shared) (p : Addr) (out : List Value) (c : Nat) (ns ns' : List Int), (∀ b o, s.heap.get? b = some o → s1.heap.get? b = some o) → s.heap.objs.size ≤ p → s1.gens = s.gens → s1.os = s.os →
      s1.heap.get? p = some (seqObj "list" out.toArray c) → IntsAre out ns' → out.length ≤ sizeLine → T ns → ns'.Perm ns → ns'.Pairwise (· ≤ ·) → Q (.ref p) s1) :
    wpAny (model prog w) A (call (.builtin "sorted") [r]) Q E s := by
  refine Calls.call_function_entry kind_sorted plain_sorted entry_sorted (args_sorted1 _) ?_; unfold Builtin.«sorted»
  refine wpAny_bind (m := checkCount "sorted" 1 1 _) (wpAny_pure (wpAny_bind (gath _ fun s1 us ns k1 z1 g1 o1 hI hl hT => ?_)))
  refine wpAny_bind (wpAny_newList ?_ hl)
  have e0 : (s1.heap.push (seqObj "list" us.toArray 0)).get? s1.heap.objs.size = some (seqObj "list" us.toArray 0) := Heap.get?_push_size _ rfl
  have srt := @SrtO.list_sort_ord
  refine wpAny_bind (wpAny_holding (wpAny_call_entry slot_list_sort ⟨_, e0, rfl⟩ entry_list_sort
    (SrtO.list_sort_ord SrtO.swo_int e0 hl (fun two => SrtO.ints_sortable hI two) fun out q1 q2 => ⟨Value.none, rfl, ?_⟩) (args_list_sort _)))
  obtain ⟨i1, i2, i3⟩ := SrtO.ints_out hI q1 q2
  obtain ⟨c, ec⟩ := sortedHeap_at (vs := us) (out := out.toArray) e0
  have ln : out.length = us.length := q2.perm.length_eq
  refine wpAny_pure ⟨.ref s1.heap.objs.size, rfl, hQ _ _ out c ns _ (fun b o e => ?_) z1 g1 o1 ec i1 (by rw [ln]; exact hl) hT i2 i3⟩
  have e1 := k1 b o e
  have lt := Heap.lt_size e1
  refine Eq.trans (sortedHeap_old (Nat.ne_of_lt lt) ?_) (Heap.get?_push_of_some _ e1)
  rw [size_push']; exact Nat.lt_succ_of_lt lt
/-- the keys of a dict, gathered -/
theorem gath_dict {κ : Type} [DecidableEq κ] {knd : KeyKind prog w κ} {d : Addr} {kvs : List (κ × Value)} {ep : Nat} {Q : List Value → Shared → Prop} (hh : A.handled = none) (lo : (d == sysModules) = false)
    (hm : s.heap.DictAt knd d kvs ep) (hz : kvs.length ≤ sizeLine)
    (hQ : ∀ (s1 : Shared) (acc : Array Value), (∀ b o, s.heap.get? b = some o → s1.heap.get? b = some o) → s.heap.objs.size ≤ s1.heap.objs.size → s1.gens = s.gens → s1.os = s.os →
      ItemsOf (fun i v => ∃ k x, kvs[i]? = some (k, x) ∧ knd.is k v = true) acc kvs.length → Q acc.toList s1) :
    wpAny (model prog w) A (collect (.ref d)) Q E s := by
  have dlt := hm.lt_size
  unfold collect
  refine wpAny_bind (wpAny_runValue (codeAny_builtin F.entry_proto_collect ?_)); rw [Around.under_plainId F.plain_proto_collect _]
  show wpAny (model prog w) A.in1 (newList [] >>= fun l => again (.builtin "list.__iadd__" ⟨[l, .ref d], []⟩)) _ _ s
  refine wpAny_bind (wpAny_newObj_type (wpAny_pure ⟨plainId_quiet F.plain_list_iadd _, codeAny_builtin F.entry_list_iadd ?_⟩)); rw [Around.under_plainId F.plain_list_iadd _]
  have eL : (s.heap.push { cls := .type "list", data := .seq ([] : List Value).toArray }).get? s.heap.objs.size = some { cls := .type "list", data := .seq #[] } := Heap.get?_push_size _ rfl
  show wpAny (model prog w) A.in1 (Builtin.List.listExtendWith (.ref s.heap.objs.size) (.ref d) (.ref s.heap.objs.size)) _ _ _
  have fin : ∀ (h' : Heap) (tk : Nat) (acc : Array Value) (c' : Nat), (∀ b o, b ≠ s.heap.objs.size → (s.heap.push { cls := .type "list", data := .seq ([] : List Value).toArray }).get? b = some o → h'.get? b = some o) →
      h'.get? s.heap.objs.size = some { cls := .type "list", dict := none, data := .seq acc c', slots := #[] } → ItemsOf (fun i v => ∃ k x, kvs[i]? = some (k, x) ∧ knd.is k v = true) acc kvs.length →
      wpAny (model prog w) A (load s.heap.objs.size >>= fun o => match o.data with | .seq xs _ => pure xs.toList | _ => unsupported "internal:collect") Q E { s with heap := h', toks := tk } := fun h' tk acc c' kp e2 it => by
    refine wpAny_bind (wpAny_load e2 (wpAny_pure (hQ _ acc (fun b o e => ?_) (Nat.le_of_lt (Heap.lt_size e2)) rfl rfl it)))
    exact kp b o (Nat.ne_of_lt (Heap.lt_size e)) (Heap.get?_push_of_some _ e)
  refine wpAny_mono (PySem.W.kdl_extend (s := { s with heap := s.heap.push { cls := .type "list", data := .seq ([] : List Value).toArray } })
    (R := fun r t => r = .ok (.ret (.ref s.heap.objs.size)) ∧ wpAny (model prog w) A (load s.heap.objs.size >>= fun o => match o.data with | .seq xs _ => pure xs.toList | _ => unsupported "internal:collect") Q E t)
    (PySem.W.kdl_dict lo) hh (hm.push _) s.heap.objs.size (Nat.ne_of_gt dlt) (Nat.ne_of_gt dlt) (.ref s.heap.objs.size) 0 eL (fun h' tk acc c' kp e2 it => ⟨rfl, fin h' tk acc c' kp e2 it⟩) hz) (fun f t z => ?_) fun e t z => ?_
  · cases f with
    | done f =>
      obtain ⟨z1, z2⟩ := z
      cases z1
      exact z2
    | again c' =>
      refine ⟨z.1, codeAny_mono z.2 fun r t z => ?_⟩
      obtain ⟨z1, z2⟩ := z
      subst z1
      exact z2
  · obtain ⟨z1, _⟩ := z
    cases z1
/-- ints, one by one -/
theorem ints_by : ∀ (us : List Value) (ns : List Int), us.length = ns.length → (∀ (i : Nat) (v : Value), us[i]? = some v → ∃ z t, ns[i]? = some z ∧ v = Value.int z t) → IntsAre us ns
  | [], [], _, _ => .nil
  | [], _ :: _, h, _ => by cases h
  | _ :: _, [], h, _ => by cases h
  | u :: us, n :: ns, h, hh => by
    obtain ⟨z, t, e, rfl⟩ := hh 0 u rfl
    cases e
    exact .cons n t (ints_by us ns (Nat.succ.inj h) fun i v hv => hh (i + 1) v hv)
end
section
variable {X : Cx}
/-- sorted(d), d's keys are ints -/
def rSortD : List V → Hp → VK → Prop := fun vs H Q => ∃ (a : Addr) (kvs : List (Key × V)) (ns : List Int), vs = [.ref a] ∧ H a = some (.dK kvs) ∧ kvs.map (·.1) = ns.map Sum.inl ∧
  ∀ (ns' : List Int) (p : Addr), ns'.Perm ns → ns'.Pairwise (· ≤ ·) → H p = none → Q (.ref p) (upd H p (.lst (ns'.map V.int)))
theorem cr_sortD (hc : X.calm = true) : CallR X (.builtin "sorted") rSortD := by
  intro pins s σ H vs us Q I r h
  obtain ⟨a, kvs, ns, rfl, ha, hk, q⟩ := h
  cases Vals.ref1 r
  obtain ⟨hz, hd, xs, rel, dd⟩ := dk_of I.hok ha
  have hl : xs.length ≤ sizeLine := by rw [← rel.length]; exact hz
  obtain ⟨ep, hm⟩ := dd.dictAt
  refine sorted_gath (T := fun zs => zs = ns) (fun Q' hQ' => gath_dict (A := X.A.in1) (I.ok.hd hc) hd hm hl fun s1 acc k1 z1 g1 o1 it => ?_) fun s1 p out c n0 ns' k1 hp g1 o1 e1 hI hl2 e pm so => ?_
  · have hlen : acc.toList.length = xs.length := by rw [Array.length_toList]; exact it.1
    have keys : xs.map (·.1) = ns.map Sum.inl := by rw [← hk]; exact (rel.keys).symm
    have nl : ns.length = xs.length := by
      have := congrArg List.length keys
      rw [List.length_map, List.length_map] at this
      exact this.symm
    have itv : IntsAre acc.toList ns := by
      refine ints_by acc.toList ns (by omega) fun i v hv => ?_
      obtain ⟨k, x, h1, h2⟩ := it.2 i v (by rw [← Array.getElem?_toList]; exact hv)
      have h3 : (xs.map (·.1))[i]? = some k := by rw [List.getElem?_map, h1]; rfl
      rw [keys, List.getElem?_map] at h3
      cases hn : ns[i]? with
      | none => rw [hn] at h3; cases h3
      | some z =>
        rw [hn] at h3
        cases h3
        obtain ⟨t, e⟩ := Value.isInt_shape (k := z) (v := v) h2
        exact ⟨z, t, rfl, e⟩
    exact hQ' s1 _ ns k1 z1 g1 o1 itv (by rw [hlen]; exact hl) rfl
  · subst e
    have hn : H p = none := I.hok.fresh hp
    have J : Inv X pins σ (upd H p (.lst (ns'.map V.int))) { s with heap := s1.heap, gens := s1.gens, drawn := s1.drawn, toks := s1.toks } :=
      I.call (ch := []) (Un.laid k1 hp hn) (I.hok.laid k1 hp ⟨by rw [List.length_map, ← hI.length]; exact hl2, out, c, vals_of_ints hI, e1⟩) (by rw [g1]; exact I.bare) (fun _ z => nomatch z)
    have es : s1 = { s with heap := s1.heap, gens := s1.gens, drawn := s1.drawn, toks := s1.toks } := by
      cases s1; cases s; cases o1; rfl
    rw [es]
    exact ⟨.ref p, _, J, rfl, q ns' p pm so hn⟩
end
end Vg
namespace Vg
open PySem PySem.Spec PySem.Calls PyProof.Rows L2
/-! ### loops over the keys of a dict that is locked -/
theorem for_keys {d : Addr} {o : Obj} {kvs : List (Key × V)} {g : TG} {tb : TS} {D : Ends} {σ : L2.St} {H : Hp} (J : Nat → L2.St → Hp → Prop) (h0 : J 0 σ H)
    (hl : ∀ i σ' H', i ≤ kvs.length → J i σ' H' → H' d = some (.frz o (.dK kvs)))
    (hs : ∀ i k v σ' H', kvs[i]? = some (k, v) → J i σ' H' → g (kV k) σ' H' fun σ2 H2 => tb { D with nx := J (i + 1), ct := J (i + 1), bk := D.nx } σ2 H2)
    (hd : ∀ σ' H', J kvs.length σ' H' → D.nx σ' H') :
    ∃ W : Nat → Nat → L2.St → Hp → Prop, (∃ m, W 0 m σ H) ∧ ∀ i m σ' H', W i m σ' H' →
      ((Itk d o kvs).stop i H' ∧ D.nx σ' H') ∨
      ((Itk d o kvs).go i H' ∧ ∃ N : L2.St → Hp → Prop, (∀ σ2 H2, N σ2 H2 → ∃ m', m' < m ∧ W (i + 1) m' σ2 H2) ∧
        ∀ x H2, (Itk d o kvs).yld i H' x H2 → g x σ' H2 fun σ3 H3 => tb { D with nx := N, ct := N, bk := D.nx } σ3 H3) := by
  refine ⟨fun i m σ' H' => i ≤ kvs.length ∧ m = kvs.length - i ∧ J i σ' H', ⟨_, Nat.zero_le _, rfl, h0⟩, ?_⟩
  rintro i m σ' H' ⟨hi, rfl, j⟩
  have e := hl i σ' H' hi j
  rcases Nat.lt_or_ge i kvs.length with c | c
  · refine .inr ⟨⟨e, c⟩, J (i + 1), fun σ2 H2 q => ⟨_, by omega, c, rfl, q⟩, ?_⟩
    rintro x H2 ⟨rfl, k, v, hk, rfl⟩
    exact hs i k v σ' H2 hk j
  · have : i = kvs.length := by omega
    subst this
    exact .inl ⟨⟨e, Nat.le_refl _⟩, hd σ' H' j⟩
/-- [ .. for k in d if ..], d locked -/
theorem lc_keys {d : Addr} {o : Obj} {kvs : List (Key × V)} {g : TG} {tt : TT} {te : TE} {vs : List Nat} {σ : L2.St} {H1 : Hp} {D : Addr} {Qd : Hp → Prop} (J : Nat → Hp → Prop) (h0 : J 0 (upd H1 D (.lst [])))
    (hl : ∀ i H', i ≤ kvs.length → J i H' → H' d = some (.frz o (.dK kvs)))
    (hs : ∀ i k v H', kvs[i]? = some (k, v) → J i H' → g (kV k) (wipe σ vs) H' fun σ2 H2 => wipe σ2 vs = wipe σ vs ∧ tt σ2 H2 fun b H3 =>
      if b = true then te σ2 H3 fun y H4 => ∃ acc, H4 D = some (.lst acc) ∧ acc.length < sizeLine ∧ J (i + 1) (upd H4 D (.lst (acc ++ [y]))) else J (i + 1) H3)
    (hd : ∀ H', J kvs.length H' → Qd H') :
    ∃ W : Nat → Nat → Hp → Prop, (∃ m, W 0 m (upd H1 D (.lst []))) ∧ ∀ i m H', W i m H' →
      ((Itk d o kvs).stop i H' ∧ Qd H') ∨
      ((Itk d o kvs).go i H' ∧ ∃ Nx : Hp → Prop, (∀ H2, Nx H2 → ∃ m', m' < m ∧ W (i + 1) m' H2) ∧
        ∀ x H2, (Itk d o kvs).yld i H' x H2 → g x (wipe σ vs) H2 fun σ3 H3 => wipe σ3 vs = wipe σ vs ∧ tt σ3 H3 fun b H4 =>
          if b = true then te σ3 H4 fun y H5 => ∃ acc, H5 D = some (.lst acc) ∧ acc.length < sizeLine ∧ Nx (upd H5 D (.lst (acc ++ [y]))) else Nx H4) := by
  refine ⟨fun i m H' => i ≤ kvs.length ∧ m = kvs.length - i ∧ J i H', ⟨_, Nat.zero_le _, rfl, h0⟩, ?_⟩
  rintro i m H' ⟨hi, rfl, j⟩
  have e := hl i H' hi j
  rcases Nat.lt_or_ge i kvs.length with c | c
  · refine .inr ⟨⟨e, c⟩, J (i + 1), fun H2 q => ⟨_, by omega, c, rfl, q⟩, ?_⟩
    rintro x H2 ⟨rfl, k, v, hk, rfl⟩
    exact hs i k v H2 hk j
  · have : i = kvs.length := by omega
    subst this
    exact .inl ⟨⟨e, Nat.le_refl _⟩, hd H' j⟩
/-- [F(x) for x in xs], a long list; F writes nothing that is kept -/
theorem lc_mapF {K : PySem.W.Frag} {a : Addr} {xs : List V} {j : Nat} {te : TE} {vs : List Nat} {σ : L2.St} {H0 : Hp} {D : Addr} {Qd : Hp → Prop} (F : V → V)
    (ha : SqL K H0 a xs) (hD : H0 D = none) (hn : xs.length ≤ 10000000) (hw : ∀ v, wipe ((wipe σ vs).set j (some v)) vs = wipe σ vs)
    (hs : ∀ x H' (R : VK), x ∈ xs → Same H0 H' → (∀ H4, Same H' H4 → R (F x) H4) → te ((wipe σ vs).set j (some x)) H' R)
    (hd : ∀ H', Same H0 H' → H' D = some (.lst (xs.map F)) → Qd H') :
    ∃ W : Nat → Nat → Hp → Prop, (∃ m, W 0 m (upd H0 D (.lst []))) ∧ ∀ i m H', W i m H' →
      ((Itl K a).stop i H' ∧ Qd H') ∨ ((Itl K a).go i H' ∧ ∃ Nx : Hp → Prop, (∀ H2, Nx H2 → ∃ m', m' < m ∧ W (i + 1) m' H2) ∧ ∀ x H2, (Itl K a).yld i H' x H2 → gName j x (wipe σ vs) H2 fun σ2 H2 => wipe σ2 vs = wipe σ vs ∧ tYes σ2 H2 fun b H3 =>
        if b = true then te σ2 H3 fun y H4 => ∃ acc, H4 D = some (.lst acc) ∧ acc.length < sizeLine ∧ Nx (upd H4 D (.lst (acc ++ [y]))) else Nx H3) := by
  refine lc_list (K := K) (a := a) (xs := xs) (fun i H' => Same H0 H' ∧ H' D = some (.lst ((xs.take i).map F))) ?_ ?_ ?_ ?_
  · exact ⟨sm_new hD, upd_same⟩
  · rintro i H' _ ⟨sm, _⟩
    exact sm.seq ha
  · rintro i x H' hi ⟨sm, eD⟩
    have hil := (List.getElem?_eq_some_iff.mp hi).1
    refine ⟨hw _, ?_⟩
    refine w_yes ?_
    rw [if_pos rfl]
    refine hs x H' _ (List.mem_of_getElem? hi) sm fun H4 s4 => ?_
    refine ⟨_, s4 _ _ eD, Nat.lt_of_lt_of_le (show ((xs.take i).map F).length < 10000001 by rw [List.length_map, List.length_take]; omega) (by decide), sm_own (sm.trans s4) hD, ?_⟩
    rw [upd_same, List.take_add_one, hi, List.map_append]
    rfl
  · rintro H' ⟨sm, eD⟩
    rw [List.take_length] at eD
    exact hd H' sm eD
/-- a dict is locked while it is gone through; unlocked, all is as it was but for what the loop did -/
theorem w_lock {t : TS} {D : Ends} {σ : L2.St} {H : Hp} {d : Addr} {kvs : List (Key × V)} (hd : H d = some (.dK kvs))
    (h : ∀ od, t ⟨fun σ' H' => H' d = some (.frz od (.dK kvs)) ∧ D.nx σ' (upd H' d (.dK kvs)), fun v H' => H' d = some (.frz od (.dK kvs)) ∧ D.rt v (upd H' d (.dK kvs)),
      fun σ' H' => H' d = some (.frz od (.dK kvs)) ∧ D.bk σ' (upd H' d (.dK kvs)), fun σ' H' => H' d = some (.frz od (.dK kvs)) ∧ D.ct σ' (upd H' d (.dK kvs))⟩ σ (upd H d (.frz od (.dK kvs)))) :
    tLock t D σ H := ⟨d, _, hd, True.intro, h⟩
theorem w_lockE {t : TE} {σ : L2.St} {H : Hp} {Q : VK} {d : Addr} {kvs : List (Key × V)} (hd : H d = some (.dK kvs))
    (h : ∀ od, t σ (upd H d (.frz od (.dK kvs))) fun v H' => H' d = some (.frz od (.dK kvs)) ∧ Q v (upd H' d (.dK kvs))) : tLockE t σ H Q := ⟨d, _, hd, True.intro, h⟩
theorem w_ikeys {td : TE} {σ : L2.St} {H : Hp} {R : L2.It → Hp → Prop} (h : td σ H fun x H1 => ∃ d o, x = .ref d ∧ ((∃ kvs, H1 d = some (.frz o (.dK kvs)) ∧ R (Itk d o kvs) H1) ∨ ∃ kvs, H1 d = some (.frz o (.dT kvs)) ∧ R (Itkt d o kvs) H1)) : iKeys td σ H R := h
theorem DGet.fk {H : Hp} {a : Addr} {o : Obj} {kvs : List (Key × V)} {k : Key} (e : H a = some (.frz o (.dK kvs))) : DGet H a (kV k) (valV kvs k) := .inl ⟨kvs, k, .inr ⟨o, e⟩, rfl, rfl⟩
theorem upd_back {H H' : Hp} {d : Addr} {u : HO} {od : Obj} (hd : H d = some u) (b : But d (upd H d (.frz od u)) H') : Same H (upd H' d u) := fun a o e => by
  by_cases c : a = d
  · subst c; rw [upd_same]; rw [hd] at e; exact e
  · rw [upd_ne c]; exact b a o c (by rw [upd_ne c]; exact e)
theorem w_catW {a b : Addr} {H : Hp} {Q : VK} {xs ys : List V} (e1 : H a = some (.lst xs)) (e2 : H b = some (.lst ys)) (hl : xs.length + ys.length ≤ 16000000)
    (h : ∀ p H', H p = none → Same H H' → H' p = some (.lst (xs ++ ys)) → Q (.ref p) H') : rCat (.ref a) (.ref b) H Q :=
  ⟨a, b, xs, ys, rfl, rfl, e1, e2, Nat.le_trans hl (by decide), fun p hp => h p _ hp (sm_new hp) upd_same⟩
end Vg

set_option Elab.async false
set_option linter.all false
set_option maxRecDepth 100000
set_option maxHeartbeats 2000000
/-! Own layer: promises of the functions that count cycles. -/
namespace Vg
open PySem PySem.Spec PyProof.Rows L2
def sp_divs : Sp := fun vs H Q _ => ∃ n : Int, vs = [.int n] ∧ 1 ≤ n ∧ n ≤ 1000000000000000000 ∧ Sm n ∧
  ∀ H' l ks, Same H H' → H l = none → H' l = some (.lst (ks.map fun k : Nat => V.int (k : Int))) → DivL n ks → ks.length ≤ 5000000 → Q (.ref l) H'
theorem w_divs {H : Hp} {Q : VK} {E : XK} {n : Int} (h1 : 1 ≤ n) (h9 : n ≤ 1000000000000000000) (hs : Sm n)
    (h : ∀ H' l ks, Same H H' → H l = none → H' l = some (.lst (ks.map fun k : Nat => V.int (k : Int))) → DivL n ks → ks.length ≤ 5000000 → Q (.ref l) H') : sp_divs [.int n] H Q E := ⟨n, rfl, h1, h9, hs, h⟩
/-- the numbers that have a period, as a dict -/
structure CtD (H : Hp) (a : Addr) (g : Nat → Nat) (ks : List Nat) : Prop where
  at_ : H a = some (.dK (tabN ks g))
  nd : ks.Nodup
  iff : ∀ k, k ∈ ks ↔ 0 < g k
def sp_nbp (K : PySem.W.Frag) : Sp := fun vs H Q _ => ∃ (q : Int) (g : Mp) (t : Addr), vs = [.int q, .ref t] ∧ TpAt K H t g ∧ 2 ≤ q ∧ q ≤ 1000000000 ∧ Ok q g ∧ Sm q ∧
  ∀ H' d ks, Same H H' → H d = none → CtD H' d (cntP q g) ks → Q (.ref d) H'
theorem w_nbp {K : PySem.W.Frag} {H : Hp} {Q : VK} {E : XK} {q : Int} {g : Mp} {t : Addr} (ht : TpAt K H t g) (h2 : 2 ≤ q) (h9 : q ≤ 1000000000) (hg : Ok q g) (hs : Sm q)
    (h : ∀ H' d ks, Same H H' → H d = none → CtD H' d (cntP q g) ks → Q (.ref d) H') : sp_nbp K [.int q, .ref t] H Q E := ⟨q, g, t, rfl, ht, h2, h9, hg, hs, h⟩
def sp_join : Sp := fun vs H Q _ => ∃ (m : Int) (f : Mp) (d q : Int) (a b : Addr) (ks ls : List Nat), vs = [.ref a, .ref b] ∧ a ≠ b ∧ 2 ≤ m ∧ m ≤ 1000000000 ∧ Ok m f ∧ 1 ≤ d ∧ 1 ≤ q ∧ d * q ∣ m ∧ Int.gcd d q = 1 ∧
  CtD H a (cntD m f d) ks ∧ CtD H b (cntD m f q) ls ∧ ∀ H' c zs, Same H H' → H c = none → CtD H' c (cntD m f (d * q)) zs → Q (.ref c) H'
theorem w_join {H : Hp} {Q : VK} {E : XK} {m : Int} {f : Mp} {d q : Int} {a b : Addr} {ks ls : List Nat} (hab : a ≠ b) (hm : 2 ≤ m) (h9 : m ≤ 1000000000) (hf : Ok m f) (d1 : 1 ≤ d) (q1 : 1 ≤ q) (hd : d * q ∣ m) (co : Int.gcd d q = 1)
    (ha : CtD H a (cntD m f d) ks) (hb : CtD H b (cntD m f q) ls) (h : ∀ H' c zs, Same H H' → H c = none → CtD H' c (cntD m f (d * q)) zs → Q (.ref c) H') : sp_join [.ref a, .ref b] H Q E :=
  ⟨m, f, d, q, a, b, ks, ls, rfl, hab, hm, h9, hf, d1, q1, hd, co, ha, hb, h⟩
/-- the lengths of the cycles, ascending -/
noncomputable def cyK (m : Int) (f : Mp) : List Nat := (List.range (m.toNat + 1)).filter fun n => decide (0 < cntP m f n)
noncomputable def cyL (m : Int) (f : Mp) : List Mp := (cyK m f).map fun n => (((n : Nat) : Int), ((cntP m f n / n : Nat) : Int))
theorem cyK_mem {m : Int} {f : Mp} (hm : 2 ≤ m) (hf : Ok m f) {n : Nat} : n ∈ cyK m f ↔ 0 < cntP m f n := by
  unfold cyK
  rw [List.mem_filter, List.mem_range]
  constructor
  · intro z; exact of_decide_eq_true z.2
  · intro z
    have h1 := cntP_ge hm hf z
    have h2 := cntP_le (m := m) (f := f) n
    exact ⟨by omega, decide_eq_true z⟩
theorem cyK_asc {m : Int} {f : Mp} : (cyK m f).Pairwise (· < ·) := List.pairwise_lt_range.filter _
theorem asc_ext : ∀ {xs ys : List Nat}, xs.Pairwise (· < ·) → ys.Pairwise (· < ·) → (∀ z, z ∈ xs ↔ z ∈ ys) → xs = ys
  | [], [], _, _, _ => rfl
  | [], y :: ys, _, _, h => by have := (h y).mpr (List.mem_cons_self ..); cases this
  | x :: xs, [], _, _, h => by have := (h x).mp (List.mem_cons_self ..); cases this
  | x :: xs, y :: ys, hx, hy, h => by
    obtain ⟨a1, a2⟩ := List.pairwise_cons.mp hx
    obtain ⟨b1, b2⟩ := List.pairwise_cons.mp hy
    have e : x = y := by
      rcases List.mem_cons.mp ((h x).mp (List.mem_cons_self ..)) with z | z
      · exact z
      · rcases List.mem_cons.mp ((h y).mpr (List.mem_cons_self ..)) with w | w
        · exact w.symm
        · have := b1 x z; have := a1 y w; omega
    subst e
    rw [asc_ext a2 b2 fun z => ?_]
    constructor
    · intro hz
      rcases List.mem_cons.mp ((h z).mp (List.mem_cons_of_mem _ hz)) with w | w
      · have := a1 z hz; omega
      · exact w
    · intro hz
      rcases List.mem_cons.mp ((h z).mpr (List.mem_cons_of_mem _ hz)) with w | w
      · have := b1 z hz; omega
      · exact w
def sp_cycles (K : PySem.W.Frag) : Sp := fun vs H Q _ => ∃ (m : Int) (f : Mp) (t : Addr), vs = [.int m, .ref t] ∧ TpAt K H t f ∧ 2 ≤ m ∧ m ≤ 1000000000 ∧ Ok m f ∧ Sm m ∧
  ∀ H' l rs, Same H H' → H l = none → H' l = some (.lst (rs.map V.ref)) → MsL H' rs (cyL m f) → (cyL m f).length ≤ 64000 → (∀ r ∈ rs, r ≠ l) → Q (.ref l) H'
theorem w_cycles {K : PySem.W.Frag} {H : Hp} {Q : VK} {E : XK} {m : Int} {f : Mp} {t : Addr} (ht : TpAt K H t f) (hm : 2 ≤ m) (h9 : m ≤ 1000000000) (hf : Ok m f) (hs : Sm m)
    (h : ∀ H' l rs, Same H H' → H l = none → H' l = some (.lst (rs.map V.ref)) → MsL H' rs (cyL m f) → (cyL m f).length ≤ 64000 → (∀ r ∈ rs, r ≠ l) → Q (.ref l) H') : sp_cycles K [.int m, .ref t] H Q E := ⟨m, f, t, rfl, ht, hm, h9, hf, hs, h⟩
end Vg
namespace Vg
open PySem PySem.Spec PyProof.Rows L2
theorem ord_sm {m : Int} {f : Mp} (hm : 2 ≤ m) (hf : Ok m f) (hs : Sm m) {n : Nat} (h : Ord m f n) : Sm (n : Int) := by
  obtain ⟨a, ha⟩ := per_ex (x := 0) hm hf
  obtain ⟨b, hb⟩ := per_ex (x := 1) hm hf
  have e := h.alone (ord_lcm hm hf ha hb)
  have s := sm_mul (per_sm hm hf hs (by omega) (Int.dvd_refl m) ha) (per_sm hm hf hs (by omega) (Int.dvd_refl m) hb)
  refine sm_div s (n : Int) (by have := h.pos; omega) ?_
  rw [e, ← Int.natCast_mul]
  exact Int.natCast_dvd_natCast.mpr (Nat.lcm_dvd (Nat.dvd_mul_right a b) (Nat.dvd_mul_left b a))
/-- the keys as far as they are found -/
noncomputable def keyK (q : Int) (g : Mp) (ds : List Nat) (i : Nat) : List Nat := (ds.take i).filter fun n => decide (0 < cntP q g n)
theorem keyK_succ {q : Int} {g : Mp} {ds : List Nat} {i n : Nat} (h : ds[i]? = some n) : keyK q g ds (i + 1) = keyK q g ds i ++ (if 0 < cntP q g n then [n] else []) := by
  unfold keyK
  rw [List.take_add_one, h, List.filter_append]
  congr 1
  by_cases c : 0 < cntP q g n
  · simp [c]
  · simp [c]
theorem key_split {q : Int} {g : Mp} {N : Nat} {ds : List Nat} {i n : Nat} (hq : 2 ≤ q) (hg : Ok q g) (hN : Ord q g N) (dl : DivL (N : Int) ds) (h : ds[i]? = some n) :
    cntN q.toNat (fun j => decide (orb q g (j : Int) n = (j : Int))) = cntP q g n + (((keyK q g ds i).filter fun k => decide (n % k = 0)).map (cntP q g)).sum := by
  have asc := dl.asc
  have hmem : ∀ k, k ∈ ds.take i → k < n := fun k hk => by
    obtain ⟨j, hj, e⟩ := List.mem_iff_getElem.mp hk
    rw [List.length_take] at hj
    rw [List.getElem_take] at e
    have hil := (List.getElem?_eq_some_iff.mp h).1
    have hn := (List.getElem?_eq_some_iff.mp h).2
    have := List.pairwise_iff_getElem.mp asc j i (by omega) hil (by omega)
    omega
  have nd : ds.Nodup := asc.imp fun l => Nat.ne_of_lt l
  refine fix_split hq hg ?_ ?_ fun j hj hd => ?_
  · exact (nd.sublist (List.take_sublist i ds)).filter _
  · intro z
    have := hmem n (List.mem_filter.mp z).1
    omega
  · rcases Classical.em (perK q g j = n) with c | c
    · exact .inl c
    · refine .inr (List.mem_filter.mpr ⟨?_, decide_eq_true (cntN_pos hj (decide_eq_true rfl))⟩)
      have hp := perK_per hq hg j
      have hdN := hN.per hq hg hp
      have mem := (dl.iff (perK q g j)).mpr ⟨hp.pos, Int.natCast_dvd_natCast.mpr hdN⟩
      have n0 : 0 < n := ((dl.iff n).mp (List.mem_of_getElem? h)).1
      have lt : perK q g j < n := by have := Nat.le_of_dvd n0 hd; omega
      obtain ⟨a, ha, e⟩ := List.mem_iff_getElem.mp mem
      have hil := (List.getElem?_eq_some_iff.mp h).1
      have hn := (List.getElem?_eq_some_iff.mp h).2
      have ai : a < i := by
        rcases Nat.lt_trichotomy a i with z | z | z
        · exact z
        · subst z; omega
        · have := List.pairwise_iff_getElem.mp asc i a hil ha z; omega
      rw [List.mem_iff_getElem]
      exact ⟨a, by rw [List.length_take]; omega, by rw [List.getElem_take]; exact e⟩
theorem sum_ints (g : Nat → Nat) : ∀ l : List Nat, (l.map fun k => ((g k : Nat) : Int)).sum = (((l.map g).sum : Nat) : Int)
  | [] => rfl
  | x :: l => by rw [List.map_cons, List.sum_cons, sum_ints g l, List.map_cons, List.sum_cons, Int.natCast_add]
theorem keyK_done {q : Int} {g : Mp} {N : Nat} {ds : List Nat} (hq : 2 ≤ q) (hg : Ok q g) (hN : Ord q g N) (dl : DivL (N : Int) ds) (k : Nat) : k ∈ keyK q g ds ds.length ↔ 0 < cntP q g k := by
  unfold keyK
  rw [List.take_length, List.mem_filter]
  constructor
  · intro z; exact of_decide_eq_true z.2
  · intro z
    obtain ⟨x, _, hp⟩ := cntP_ex hq hg z
    exact ⟨(dl.iff k).mpr ⟨hp.pos, Int.natCast_dvd_natCast.mpr (hN.per hq hg hp)⟩, decide_eq_true z⟩
theorem keyK_nd {q : Int} {g : Mp} {n : Int} {ds : List Nat} (dl : DivL n ds) (i : Nat) : (keyK q g ds i).Nodup :=
  (List.Pairwise.sublist (List.take_sublist i ds) (dl.asc.imp fun l => Nat.ne_of_lt l)).filter _
theorem tabN_snoc {g : Nat → Nat} {ks : List Nat} {n : Nat} (h : n ∉ ks) : putK (tabN ks g) (Sum.inl (n : Int)) (V.int ((g n : Nat) : Int)) = tabN (ks ++ [n]) g := by
  rw [putK_new _ (by rw [tabN_val, if_neg h])]
  unfold tabN
  rw [List.map_append]
  rfl
theorem tabN_at {ks : List Nat} {g : Nat → Nat} {j : Nat} {k : Key} {v : V} (h : (tabN ks g)[j]? = some (k, v)) : ∃ z, ks[j]? = some z ∧ k = Sum.inl ((z : Nat) : Int) ∧ v = V.int ((g z : Nat) : Int) := by
  unfold tabN at h
  rw [List.getElem?_map] at h
  cases hx : ks[j]? with
  | none => rw [hx] at h; cases h
  | some z =>
    rw [hx] at h
    have h' := Option.some.inj h
    exact ⟨z, rfl, (congrArg Prod.fst h').symm, (congrArg Prod.snd h').symm⟩
theorem w_dget {td ty : TE} {σ : L2.St} {H : Hp} {Q : VK} (h : td σ H fun x H1 => ty σ H1 fun y H2 => ∃ a v, x = .ref a ∧ DGet H2 a y (some v) ∧ Q v H2) : tDGet td ty σ H Q := h
theorem w_dput {td ty tv : TE} {D : Ends} {σ : L2.St} {H : Hp} (h : tv σ H fun v H1 => td σ H1 fun x H2 => ty σ H2 fun y H3 => ∃ a H4, x = .ref a ∧ DPut H3 a y v H4 ∧ D.nx σ H4) : sDPut td ty tv D σ H := h
/-! ### joined: all pairs -/
def prG (a b : Nat → Nat) (prs : List (Nat × Nat)) (z : Nat) : Nat := (prs.map fun p => if Nat.lcm p.1 p.2 = z then a p.1 * b p.2 else 0).sum
theorem prG_snoc (a b : Nat → Nat) (prs : List (Nat × Nat)) (n k z : Nat) : prG a b (prs ++ [(n, k)]) z = prG a b prs z + if Nat.lcm n k = z then a n * b k else 0 := by
  unfold prG
  rw [List.map_append, List.sum_append]
  simp
theorem prG_none {a b : Nat → Nat} {z : Nat} : ∀ {prs : List (Nat × Nat)}, (¬ ∃ p ∈ prs, Nat.lcm p.1 p.2 = z) → prG a b prs z = 0
  | [], _ => rfl
  | p :: prs, h => by
    unfold prG
    rw [List.map_cons, List.sum_cons, if_neg fun e => h ⟨p, List.mem_cons_self .., e⟩]
    have := prG_none (a := a) (b := b) (z := z) (prs := prs) fun ⟨q, hq, e⟩ => h ⟨q, List.mem_cons_of_mem _ hq, e⟩
    unfold prG at this
    omega
def allP (ks ls : List Nat) : List (Nat × Nat) := ks.flatMap fun n => ls.map fun k => (n, k)
theorem prG_all (a b : Nat → Nat) (ls : List Nat) (z : Nat) : ∀ ks : List Nat, prG a b (allP ks ls) z = (ks.map fun k => (ls.map fun l => if Nat.lcm k l = z then a k * b l else 0).sum).sum
  | [] => rfl
  | k :: ks => by
    have := prG_all a b ls z ks
    unfold prG allP at this ⊢
    rw [List.flatMap_cons, List.map_append, List.sum_append, this, List.map_cons, List.sum_cons, List.map_map]
    rfl
theorem sum_pos_of {α : Type} {g : α → Nat} : ∀ {l : List α} {x : α}, x ∈ l → 0 < g x → 0 < (l.map g).sum
  | y :: l, x, h, hp => by
    rw [List.map_cons, List.sum_cons]
    rcases List.mem_cons.mp h with z | z
    · subst z; omega
    · have := sum_pos_of z hp; omega
theorem ex_of_sum_pos {α : Type} {g : α → Nat} : ∀ {l : List α}, 0 < (l.map g).sum → ∃ x ∈ l, 0 < g x
  | [], h => by simp at h
  | y :: l, h => by
    rw [List.map_cons, List.sum_cons] at h
    rcases Nat.eq_zero_or_pos (g y) with z | z
    · obtain ⟨x, hx, hp⟩ := ex_of_sum_pos (g := g) (l := l) (by omega)
      exact ⟨x, List.mem_cons_of_mem _ hx, hp⟩
    · exact ⟨y, List.mem_cons_self .., z⟩
theorem tabN_put {zs : List Nat} {g : Nat → Nat} {z v : Nat} (h : z ∈ zs) : putK (tabN zs g) (Sum.inl (z : Int)) (V.int ((v : Nat) : Int)) = tabN zs fun y => if y = z then v else g y := by
  unfold putK
  rw [if_pos (by rw [valV_any, tabN_val, if_pos h]; rfl)]
  unfold tabN
  rw [List.map_map]
  refine List.map_congr_left fun y _ => ?_
  show (if (Sum.inl ((y : Nat) : Int) : Key) = Sum.inl ((z : Nat) : Int) then _ else _) = _
  by_cases c : y = z
  · subst c; rw [if_pos rfl]
    show (Sum.inl ((y : Nat) : Int), V.int ((v : Nat) : Int)) = (Sum.inl ((y : Nat) : Int), V.int (((if y = y then v else g y) : Nat) : Int))
    rw [if_pos rfl]
  · rw [if_neg (fun e => c (by injection e with e; omega))]
    show (Sum.inl ((y : Nat) : Int), V.int ((g y : Nat) : Int)) = (Sum.inl ((y : Nat) : Int), V.int (((if y = z then v else g y) : Nat) : Int))
    rw [if_neg c]
section
variable {m : Int} {f : Mp} {d q : Int}
theorem join_eq (hm : 2 ≤ m) (hf : Ok m f) (d1 : 1 ≤ d) (q1 : 1 ≤ q) (hdq : d * q ∣ m) (co : Int.gcd d q = 1) {ks ls : List Nat} (nk : ks.Nodup) (nl : ls.Nodup)
    (hk : ∀ k, k ∈ ks ↔ 0 < cntD m f d k) (hl : ∀ l, l ∈ ls ↔ 0 < cntD m f q l) (z : Nat) : cntD m f (d * q) z = prG (cntD m f d) (cntD m f q) (allP ks ls) z := by
  have mod : ∀ {e : Int}, 1 ≤ e → e ∣ m → ∀ i, 0 < cntD m f e (perD m f e i) := fun {e} e1 he i => by
    unfold cntD
    refine cntN_pos (i := i % e.toNat) (Nat.mod_lt _ (by omega)) (decide_eq_true (perD_mod hm hf e1 he i))
  rw [prG_all, cntD_mul hm hf d1 q1 hdq co nk nl (fun i => (hk _).mpr (mod d1 (Int.dvd_trans (Int.dvd_mul_right d q) hdq) i)) (fun i => (hl _).mpr (mod q1 (Int.dvd_trans (Int.dvd_mul_left d q) hdq) i))]
theorem allP_mem {ks ls : List Nat} {p : Nat × Nat} : p ∈ allP ks ls ↔ p.1 ∈ ks ∧ p.2 ∈ ls := by
  unfold allP
  rw [List.mem_flatMap]
  constructor
  · rintro ⟨n, hn, h⟩
    obtain ⟨k, hk, rfl⟩ := List.mem_map.mp h
    exact ⟨hn, hk⟩
  · rintro ⟨h1, h2⟩
    exact ⟨p.1, h1, List.mem_map.mpr ⟨p.2, h2, rfl⟩⟩
theorem join_iff (hm : 2 ≤ m) (hf : Ok m f) (d1 : 1 ≤ d) (q1 : 1 ≤ q) (hdq : d * q ∣ m) (co : Int.gcd d q = 1) {ks ls : List Nat} (nk : ks.Nodup) (nl : ls.Nodup)
    (hk : ∀ k, k ∈ ks ↔ 0 < cntD m f d k) (hl : ∀ l, l ∈ ls ↔ 0 < cntD m f q l) (z : Nat) : (∃ p ∈ allP ks ls, Nat.lcm p.1 p.2 = z) ↔ 0 < cntD m f (d * q) z := by
  rw [join_eq hm hf d1 q1 hdq co nk nl hk hl z]
  constructor
  · rintro ⟨p, hp, e⟩
    obtain ⟨h1, h2⟩ := allP_mem.mp hp
    refine sum_pos_of hp ?_
    show 0 < if Nat.lcm p.1 p.2 = z then _ else _
    rw [if_pos e]
    exact Nat.mul_pos ((hk _).mp h1) ((hl _).mp h2)
  · intro h
    obtain ⟨p, hp, h2⟩ := ex_of_sum_pos h
    refine ⟨p, hp, ?_⟩
    split at h2
    · assumption
    · omega
end
/-- as far as the pairs are taken -/
structure JnD (a b : Nat → Nat) (prs : List (Nat × Nat)) (zs : List Nat) : Prop where
  nd : zs.Nodup
  iff : ∀ z, z ∈ zs ↔ ∃ p ∈ prs, Nat.lcm p.1 p.2 = z
theorem JnD.step {a b : Nat → Nat} {prs : List (Nat × Nat)} {zs : List Nat} (h : JnD a b prs zs) (n k : Nat) :
    ∃ zs', JnD a b (prs ++ [(n, k)]) zs' ∧ zs'.length ≤ zs.length + 1 ∧
      putK (tabN zs (prG a b prs)) (Sum.inl ((Nat.lcm n k : Nat) : Int)) (V.int ((((if Nat.lcm n k ∈ zs then prG a b prs (Nat.lcm n k) else 0) + a n * b k : Nat)) : Int)) = tabN zs' (prG a b (prs ++ [(n, k)])) := by
  have mem : ∀ z, (∃ p ∈ prs ++ [(n, k)], Nat.lcm p.1 p.2 = z) ↔ (z ∈ zs ∨ z = Nat.lcm n k) := fun z => by
    rw [h.iff]
    constructor
    · rintro ⟨p, hp, e⟩
      rcases List.mem_append.mp hp with y | y
      · exact .inl ⟨p, y, e⟩
      · rw [List.mem_singleton.mp y] at e; exact .inr e.symm
    · rintro (⟨p, hp, e⟩ | e)
      · exact ⟨p, List.mem_append_left _ hp, e⟩
      · exact ⟨(n, k), List.mem_append_right _ (List.mem_singleton.mpr rfl), e.symm⟩
  by_cases c : Nat.lcm n k ∈ zs
  · refine ⟨zs, ⟨h.nd, fun z => ?_⟩, Nat.le_succ _, ?_⟩
    · rw [mem]
      exact ⟨.inl, fun y => y.elim id fun e => e ▸ c⟩
    · rw [if_pos c, tabN_put c]
      refine tabN_cong fun y _ => ?_
      rw [prG_snoc]
      by_cases e : y = Nat.lcm n k
      · subst e; rw [if_pos rfl, if_pos rfl]
      · rw [if_neg e, if_neg fun z => e z.symm]; omega
  · refine ⟨zs ++ [Nat.lcm n k], ⟨?_, fun z => ?_⟩, by simp, ?_⟩
    · refine List.nodup_append.mpr ⟨h.nd, List.nodup_cons.mpr ⟨by simp, List.nodup_nil⟩, fun x hx y hy e => ?_⟩
      rw [List.mem_singleton.mp hy] at e
      exact c (e ▸ hx)
    · rw [mem, List.mem_append, List.mem_singleton]
    · have e0 : tabN zs (prG a b prs) = tabN zs (prG a b (prs ++ [(n, k)])) := tabN_cong fun y hy => by
        rw [prG_snoc, if_neg fun z => c (by rw [z]; exact hy)]; rfl
      have ev : ((if Nat.lcm n k ∈ zs then prG a b prs (Nat.lcm n k) else 0) + a n * b k) = prG a b (prs ++ [(n, k)]) (Nat.lcm n k) := by
        rw [if_neg c, prG_snoc, if_pos rfl, prG_none fun z => c ((h.iff _).mpr z)]
      rw [ev, e0]
      exact tabN_snoc c
theorem w_dget2 {td ty tx : TE} {σ : L2.St} {H : Hp} {Q : VK} (h : td σ H fun x H1 => ∃ a, x = .ref a ∧ IsD H1 a ∧ ty σ H1 fun y H2 => tx σ H2 fun z H3 => ∃ o, DGet H3 a y o ∧ Q (o.getD z) H3) : tDGet2 td ty tx σ H Q := h
theorem CtD.congr {H : Hp} {a : Addr} {g h : Nat → Nat} {ks : List Nat} (c : CtD H a g ks) (e : ∀ n, g n = h n) : CtD H a h ks :=
  ⟨by rw [c.at_, tabN_cong fun k _ => e k], c.nd, fun k => by rw [c.iff, e]⟩
theorem CtD.same {H H' : Hp} {a : Addr} {g : Nat → Nat} {ks : List Nat} (c : CtD H a g ks) (s : Same H H') : CtD H' a g ks := ⟨s _ _ c.at_, c.nd, c.iff⟩
theorem keys_cyK {m : Int} {f : Mp} {ks : List Nat} {ns : List Int} (hm : 2 ≤ m) (hf : Ok m f) (nd : ks.Nodup) (iff : ∀ k, k ∈ ks ↔ 0 < cntD m f m k) (hp : ns.Perm (ks.map fun k : Nat => (k : Int))) (so : ns.Pairwise (· ≤ ·)) :
    ns = (cyK m f).map fun k : Nat => (k : Int) := by
  have inj : (ks.map fun k : Nat => (k : Int)).Nodup := by
    unfold List.Nodup
    rw [List.pairwise_map]
    exact nd.imp fun ne z => ne (by omega)
  have lt := lt_of_le_nodup ns so (hp.nodup_iff.mpr inj)
  have mem : ∀ z, z ∈ ns ↔ ∃ k ∈ ks, ((k : Nat) : Int) = z := fun z => by rw [hp.mem_iff, List.mem_map]
  have e1 : ns = (ns.map Int.toNat).map fun k : Nat => (k : Int) := by
    rw [List.map_map]
    exact ((List.map_congr_left fun x hx => by
      obtain ⟨k, _, e⟩ := (mem x).mp hx
      show ((x.toNat : Nat) : Int) = x
      omega).trans (List.map_id ns)).symm
  have e2 : ns.map Int.toNat = cyK m f := by
    refine asc_ext ?_ cyK_asc fun z => ?_
    · rw [List.pairwise_map]
      refine List.Pairwise.imp_of_mem (fun {a b} ha hb l => ?_) lt
      obtain ⟨k, _, e⟩ := (mem a).mp ha
      omega
    · rw [cyK_mem hm hf, ← cntD_self hm hf, ← iff, List.mem_map]
      constructor
      · rintro ⟨x, hx, rfl⟩
        obtain ⟨k, hk, e⟩ := (mem x).mp hx
        rw [← e, Int.toNat_natCast]; exact hk
      · intro hz
        exact ⟨(z : Int), (mem _).mpr ⟨z, hz, rfl⟩, Int.toNat_natCast z⟩
  rw [← e2]; exact e1
/-- a list of new pairs -/
def PrAt (D : Addr) (fs : List Mp) (i : Nat) (v : V) (H : Hp) : Prop := ∃ (q : Addr) (p : Mp), v = .ref q ∧ q ≠ D ∧ fs[i]? = some p ∧ H q = some (.tup [.int p.1, .int p.2])
theorem prAt_st {D : Addr} {fs : List Mp} (i : Nat) (v : V) (H H' : Hp) (b : But D H H') (h : PrAt D fs i v H) : PrAt D fs i v H' := by
  obtain ⟨q, p, e1, e2, e3, e4⟩ := h
  exact ⟨q, p, e1, e2, e3, b _ _ e2 e4⟩
theorem msl_of {H : Hp} {D : Addr} : ∀ (fs : List Mp) (done : List V), done.length = fs.length → (∀ i v, done[i]? = some v → PrAt D fs i v H) → ∃ rs : List Addr, done = rs.map V.ref ∧ MsL H rs fs ∧ ∀ r ∈ rs, r ≠ D
  | [], [], _, _ => ⟨[], rfl, .nil, fun _ h => by cases h⟩
  | [], _ :: _, h, _ => by cases h
  | _ :: _, [], h, _ => by cases h
  | f :: fs, v :: done, h, hh => by
    obtain ⟨q, p, e1, e2, e3, e4⟩ := hh 0 v rfl
    cases e3
    obtain ⟨rs, e5, e6, e7⟩ := msl_of fs done (Nat.succ.inj h) fun i v hv => by
      obtain ⟨q, p, a1, a2, a3, a4⟩ := hh (i + 1) v hv
      exact ⟨q, p, a1, a2, a3, a4⟩
    refine ⟨q :: rs, by rw [e1, e5]; rfl, .cons e4 e6, fun r hr => ?_⟩
    rcases List.mem_cons.mp hr with z | z
    · rw [z]; exact e2
    · exact e7 r z
end Vg

set_option Elab.async false
set_option linter.all false
set_option maxRecDepth 100000
set_option maxHeartbeats 4000000
/-! Own layer: set(xs) of a list of ints, sorted of such a set, any number of members. -/
namespace Vg
open PySem PySem.Spec PySem.Calls PyProof.Rows L2
section
variable {P : Program} {w : World} {A : Around} {E : Value → Shared → Prop} {s : Shared}
/-- what stands where the set is made -/
abbrev setObj0 (w : World) : Obj := { cls := .type "set", dict := none, data := .set #[] 0 (.fresh 0 0 (!w.params.followText "set-order")) }
/-- the members of a list go into a fresh set -/
theorem fill_list {S l : Addr} {items : Array Value} (ns : List Int) {R : Result → Shared → Prop} (hh : A.handled = none) (hl : s.heap.IsList l items) (hi : IntsAre items.toList ns) (hb : ns.length + 1 < scanBound)
    (hS : s.heap.get? S = some (setObj0 w)) (hSl : S ≠ l)
    (hR : ∀ (s1 : Shared) (c : Nat), (∀ b o, b ≠ S → s.heap.get? b = some o → s1.heap.get? b = some o) → s1.gens = s.gens → s1.drawn = s.drawn → s1.os = s.os → c ≤ ns.length → SetR w s1.heap S (fun j => decide (j ∈ ns)) c → R (.ok (.ret .none)) s1) :
    wpAny (model P w) A (pyIter (.ref l)) (fun it s1 => codeAny (model P w) A (.builtin "set.update.loop" ⟨[.ref S, it], []⟩) R s1) E s := by
  have sz : items.size = ns.length := by
    have := hi.length
    rwa [Array.length_toList] at this
  have lt : S < s.heap.objs.size := Heap.lt_size hS
  have ll : l < s.heap.objs.size := by obtain ⟨o, ho, _⟩ := hl; exact Heap.lt_size ho
  refine wpAny_pyIter_list hl ?_
  have val : ∀ (i : Nat) (v : Value), items[i]? = some v → ∃ k t, ns[i]? = some k ∧ v = Value.int k t := by
    intro i v hv
    have hlt : i < ns.length := by rw [← sz]; exact (Array.getElem?_eq_some_iff.mp hv).1
    obtain ⟨t, e⟩ := hi.int_at i v (by rw [Array.getElem?_toList]; exact hv)
    rw [List.getD_eq_getElem?_getD, List.getElem?_eq_getElem hlt] at e
    exact ⟨ns[i], t, List.getElem?_eq_getElem hlt, e⟩
  have nf : S ∉ [s.heap.objs.size, l] := by
    intro z
    rcases List.mem_cons.mp z with z | z
    · exact absurd z (Nat.ne_of_lt lt)
    · exact hSl (List.mem_singleton.mp z)
  refine set_update_ints ((Walks.list (A := A.in1) hh s.heap.objs.size l (Nat.ne_of_lt ll) items).toS) S nf ns sz hb val (items.size - 0) 0 _ rfl (Nat.zero_le _) ⟨⟨_, Heap.get?_push_size _ rfl, rfl, rfl⟩, hl.push _⟩
    ⟨0, Nat.le_refl 0, setR_new_at (Heap.get?_push_of_some _ hS)⟩ (fun s1 c mv hc R1 => hR s1 c (fun b o nb e => ?_) mv.gens mv.drawn mv.os (by rw [← sz]; exact hc) R1)
  refine mv.heap b o (fun z => ?_) (Heap.get?_push_of_some _ e)
  rcases List.mem_cons.mp z with z | z
  · exact nb z
  · have := Heap.lt_size e
    rw [List.mem_singleton.mp z] at this
    exact Nat.lt_irrefl _ this
set_option maxRecDepth 100000 in
theorem set_list {l : Addr} {items : Array Value} (ns : List Int) {Q : Value → Shared → Prop} (hh : A.handled = none) (hl : s.heap.IsList l items) (hi : IntsAre items.toList ns) (hb : ns.length + 1 < scanBound)
    (hQ : ∀ (s1 : Shared) (c : Nat), (∀ b o, s.heap.get? b = some o → s1.heap.get? b = some o) → s1.gens = s.gens → s1.drawn = s.drawn → s1.os = s.os → c ≤ ns.length → SetR w s1.heap s.heap.objs.size (fun j => decide (j ∈ ns)) c → Q (.ref s.heap.objs.size) s1) :
    wpAny (model P w) A (call (.type "set") [.ref l]) Q E s := by
  have eS : (s.heap.push (setObj0 w)).get? s.heap.objs.size = some (setObj0 w) := Heap.get?_push_size _ rfl
  have ll : l < s.heap.objs.size := by obtain ⟨o, ho, _⟩ := hl; exact Heap.lt_size ho
  have hl1 := hl.push (setObj0 w)
  have kp : ∀ b o, s.heap.get? b = some o → (s.heap.push (setObj0 w)).get? b = some o := fun b o e => Heap.get?_push_of_some _ e
  generalize hS : s.heap.objs.size = S at *
  obtain ⟨c, tl, m1⟩ := F.called_set.mro
  have m2 := F.called_set.made; have m3 := F.called_set.sub; have m4 := F.called_set.notType; have m5 := F.called_set.canCreate; have m6 := F.typeCall_set_1 (.ref l)
  refine wpAny_call (codeAny_of_tree ?_); show wpAny _ _ (callAny (.type "set") ⟨[.ref l], []⟩) _ _ s
  refine wpAny_pure ⟨Code.quiet_builtin _ (by decide +kernel), codeAny_builtin F.entry_type_call ?_⟩; rw [Around.under_plain (weight_type_call_type "set" [.ref l] []) rfl]
  repeat any_goals first | assumption | wp_step
  refine codeAny_mono (code_set_led1 (.ref l) (E := E) (Q₁ := fun obj t => obj = .ref S ∧ t = { s with heap := s.heap.push (setObj0 w) }) ⟨by rw [hS], rfl⟩) fun r t hr => ?_
  match r, hr with
  | .error e, hr => exact hr
  | .ok .next, hr => exact hr.elim
  | .ok .brk, hr => exact hr.elim
  | .ok .cont, hr => exact hr.elim
  | .ok (.ret obj), hr =>
  obtain ⟨rfl, rfl⟩ := hr
  have tyS : Shared.TypeIs { s with heap := s.heap.push (setObj0 w) } (.ref S) "set" := ⟨_, eS, rfl⟩
  have m7 := F.called_set.init.lookup; have m8 := F.called_set.init.bind (.ref S)
  repeat any_goals first | assumption | wp_step
  refine codeAny_mono (codeAny_call_builtin (R := wants (fun r t => r = .none ∧ Q (.ref S) t) E) F.called_set.init.plain F.entry_set_init (check_set_init_1 tyS ?_)) fun r t hr => ?_
  · obtain ⟨⟨oc, od, dt, sl⟩, g1, rfl, n, rfl⟩ := id hl1
    have f1 := F.sub_list_set; have f2 := F.sub_list_frozenset; have f3 : (Value.type "list" == Value.type "dict") = false := by decide
    unfold Builtin.«set.__init__» noKeywords Builtin.Frozenset.updateFrom; generalize hp : pyIter = pit
    wp_walk
    subst hp
    refine wpAny_mono (fill_list (A := A.in1.in1) (E := fun _ _ => False) (R := fun r t => r = .ok (.ret .none) ∧ Q (.ref S) t) ns (by simp [hh]) hl1 hi hb eS (Nat.ne_of_gt ll) fun s1 c k1 g1 d1 o1 hc R1 => ⟨rfl, ?_⟩) (fun it s1 z => ?_) fun e t z => z.elim
    · exact hQ s1 c (fun b o e => k1 b o (by rw [← hS]; exact Nat.ne_of_lt (Heap.lt_size e)) (kp b o e)) g1 d1 o1 hc R1
    · refine wpAny_bind (wpAny_runValue (codeAny_mono z fun r t y => ?_))
      obtain ⟨rfl, y⟩ := y
      exact wpAny_pure (wpAny_pure ⟨rfl, y⟩)
  · match r, hr with
    | .error e, hr => exact hr
    | .ok .next, hr => exact hr.elim
    | .ok .brk, hr => exact hr.elim
    | .ok .cont, hr => exact hr.elim
    | .ok (.ret v), hr =>
    obtain ⟨rfl, q⟩ := hr
    repeat any_goals first | assumption | wp_step
/-- sorted of such a set -/
theorem sorted_setI {a : Addr} {S : Int → Bool} {n : Nat} {Q : Value → Shared → Prop} (R : SetR w s.heap a S n) (hh : A.handled = none)
    (hQ : ∀ (s1 : Shared) (p : Addr) (out : List Value) (c : Nat) (ns : List Int), (∀ b o, s.heap.get? b = some o → s1.heap.get? b = some o) → s.heap.objs.size ≤ p → s1.gens = s.gens → s1.os = s.os →
      s1.heap.get? p = some (seqObj "list" out.toArray c) → IntsAre out ns → out.length ≤ sizeLine → ns.Pairwise (· < ·) → (∀ k, k ∈ ns ↔ S k = true) → Q (.ref p) s1) :
    wpAny (model P w) A (call (.builtin "sorted") [.ref a]) Q E s := by
  obtain ⟨o, es, ep, t, ho, ex, hd, gd, nd, hm, hb, hf, hn, hr, hl⟩ := R
  refine sorted_gath (T := fun ns => ns.Perm (es.toList.map keyOf)) (fun Q' hQ' => ?_) fun s1 p out c ns ns' k1 hp g1 o1 e1 hI hl2 hT pm so => ?_
  · refine collect_set (A := A.in1) hh ⟨o, ho, ex.1, hd⟩ hf hb hr hl fun s1 vs k1 hz g1 o1 pm => ?_
    have its : IntsAre vs (vs.map Builtin.Re.reRawOf) := L2.ints_of vs fun v hv => by
      obtain ⟨e, he, q⟩ := List.mem_map.mp (pm.mem_iff.mp hv)
      obtain ⟨k, tk, h1, _⟩ := gd e he
      exact ⟨k, tk, q.symm.trans h1⟩
    refine hQ' s1 vs _ k1 hz g1 o1 its ?_ ?_
    · rw [pm.length_eq, List.length_map, Array.length_toList]; exact fits_of_scanBound hb
    · have := pm.map Builtin.Re.reRawOf
      rwa [List.map_map] at this
  · have pn := pm.trans hT
    exact hQ s1 p out c ns' k1 hp g1 o1 e1 hI hl2 (lt_of_le_nodup ns' so (pn.nodup_iff.mpr nd)) fun k => by rw [pn.mem_iff, ← hm k]
end
section
variable {X : Cx}
def rSetL (K : PySem.W.Frag) (w : World) : List V → Hp → VK → Prop := fun vs H Q => ∃ (l : Addr) (ns : List Int), vs = [.ref l] ∧ SqL K H l (ns.map V.int) ∧ ns.length ≤ 4000 ∧
  ∀ p c, H p = none → c ≤ ns.length → Q (.ref p) (upd H p (SetO w p (fun j => decide (j ∈ ns)) c))
theorem cr_setL (hc : X.calm = true) : CallR X (.type "set") (rSetL X.K X.w) := by
  intro pins s σ H vs us Q I r h
  obtain ⟨l, ns, rfl, hs, hn, q⟩ := h
  cases Vals.ref1 r
  obtain ⟨its, rv, hl, hz⟩ := I.list hs
  refine set_list ns (I.ok.hd hc) hl.isList (by simpa using rv.ints) (by show ns.length + 1 < 4096; omega) fun s1 c k1 g1 d1 o1 hc' R1 => ?_
  have hp : H s.heap.objs.size = none := I.hok.fresh (Nat.le_refl _)
  have J : Inv X pins σ (upd H s.heap.objs.size (SetO X.w s.heap.objs.size (fun j => decide (j ∈ ns)) c)) { s with heap := s1.heap, gens := s1.gens, drawn := s1.drawn, toks := s1.toks } :=
    I.call (ch := []) (Un.laid k1 (Nat.le_refl _) hp) (I.hok.laid k1 (Nat.le_refl _) (setO_new R1)) (by rw [g1]; exact I.bare) (fun _ z => nomatch z)
  have es : s1 = { s with heap := s1.heap, gens := s1.gens, drawn := s1.drawn, toks := s1.toks } := by
    cases s1; cases s; cases o1; rfl
  rw [es]
  exact ⟨.ref s.heap.objs.size, _, J, rfl, q _ c hp hc'⟩
def rSortSt (w : World) : List V → Hp → VK → Prop := fun vs H Q => ∃ (a : Addr) (S : Int → Bool) (n : Nat), vs = [.ref a] ∧ H a = some (SetO w a S n) ∧
  ∀ (ns : List Int) (p : Addr), ns.Pairwise (· < ·) → (∀ k, k ∈ ns ↔ S k = true) → H p = none → Q (.ref p) (upd H p (.lst (ns.map V.int)))
theorem cr_sortSt (hc : X.calm = true) : CallR X (.builtin "sorted") (rSortSt X.w) := by
  intro pins s σ H vs us Q I r h
  obtain ⟨a, S, n, rfl, ha, q⟩ := h
  cases Vals.ref1 r
  refine sorted_setI (setO_get I ha) (I.ok.hd hc) fun s1 p out c ns k1 hp g1 o1 e1 hI hl so hm => ?_
  have hn : H p = none := I.hok.fresh hp
  have J : Inv X pins σ (upd H p (.lst (ns.map V.int))) { s with heap := s1.heap, gens := s1.gens, drawn := s1.drawn, toks := s1.toks } :=
    I.call (ch := []) (Un.laid k1 hp hn) (I.hok.laid k1 hp ⟨by rw [List.length_map, ← hI.length]; exact hl, out, c, vals_of_ints hI, e1⟩) (by rw [g1]; exact I.bare) (fun _ z => nomatch z)
  have es : s1 = { s with heap := s1.heap, gens := s1.gens, drawn := s1.drawn, toks := s1.toks } := by
    cases s1; cases s; cases o1; rfl
  rw [es]
  exact ⟨.ref p, _, J, rfl, q ns p so hm hn⟩
end
theorem w_setL {K K' : PySem.W.Frag} {w w' : World} {H : Hp} {Q : VK} {l : Addr} {ns : List Int} (e : SqL K H l (ns.map V.int)) (hn : ns.length ≤ 4000)
    (h : ∀ H' p c, H p = none → Same H H' → H' p = some (SetO w p (fun j => decide (j ∈ ns)) c) → c ≤ ns.length → Q (.ref p) H') (hk : K' = K := by rfl) (hw : w' = w := by rfl) : rSetL K' w' [.ref l] H Q := by
  subst hk
  subst hw
  exact ⟨l, ns, rfl, e, hn, fun p c hp hc => h _ p c hp (sm_new hp) upd_same hc⟩
theorem w_sortSt {w w' : World} {H : Hp} {Q : VK} {a : Addr} {S : Int → Bool} {n : Nat} (e : H a = some (SetO w a S n))
    (h : ∀ H' (ns : List Int) p, H p = none → Same H H' → H' p = some (.lst (ns.map V.int)) → ns.Pairwise (· < ·) → (∀ k, k ∈ ns ↔ S k = true) → Q (.ref p) H') (hw : w' = w := by rfl) : rSortSt w' [.ref a] H Q := by
  subst hw
  exact ⟨a, S, n, rfl, e, fun ns p so hm hp => h _ ns p hp (sm_new hp) upd_same so hm⟩
end Vg

set_option Elab.async false
set_option linter.all false
set_option maxRecDepth 100000
set_option maxHeartbeats 2000000
namespace Vg
open PySem PySem.Spec PyProof.Rows L2
/-! ### lists of pairs: repr, equality -/
theorem msl_its {K : PySem.W.Frag} {H : Hp} {qs : List Addr} {fs : List Mp} (h : MsL H qs fs) (hb : ∀ f ∈ fs, f.1.natAbs < 1000000000000 ∧ f.2.natAbs < 1000000000000) : Its K H (qs.map V.ref) (fs.map mpd) 1 (fs.length * 3) := by
  induction h with
  | nil => exact .nil
  | @cons q f qs fs h r ih =>
    have b := hb f (List.mem_cons_self ..)
    have h1 := Its.cons (it_tup (K := K) h (its_ints [f.1, f.2] fun z hz => by
      rcases List.mem_cons.mp hz with y | y
      · rw [y]; exact b.1
      · rw [List.mem_singleton.mp y]; exact b.2)) (ih fun g hg => hb g (List.mem_cons_of_mem _ hg))
    rw [List.length_cons, show (fs.length + 1) * 3 = [f.1, f.2].length + 1 + fs.length * 3 by simp; omega]
    exact h1
theorem MsL.rp {K : PySem.W.Frag} {H : Hp} {a : Addr} {qs : List Addr} {fs : List Mp} (e : H a = some (.lst (qs.map V.ref))) (h : MsL H qs fs) (hb : ∀ f ∈ fs, f.1.natAbs < 1000000000000 ∧ f.2.natAbs < 1000000000000) (hl : fs.length ≤ 300000) :
    Rp K H (.ref a) (.list (fs.map mpd)) := (it_lst e (msl_its h hb)).rp (by decide) (by omega)
theorem eqvAll_mpds : ∀ fs gs : List Mp, PyData.eqvAll (fs.map mpd) (gs.map mpd) = decide (fs = gs)
  | [], [] => by simp [PyData.eqvAll]
  | [], _ :: _ => by simp [PyData.eqvAll]
  | _ :: _, [] => by simp [PyData.eqvAll]
  | f :: fs, g :: gs => by
    simp only [List.map_cons, PyData.eqvAll, eqv_mpd, eqvAll_mpds fs gs]
    by_cases c : f = g
    · subst c; simp
    · simp [c]
theorem w_eqMs {K K' : PySem.W.Frag} {H : Hp} {Q : VK} {a b : Addr} {qs rs : List Addr} {fs gs : List Mp} (ha : H a = some (.lst (qs.map V.ref))) (h1 : MsL H qs fs) (hb : H b = some (.lst (rs.map V.ref))) (h2 : MsL H rs gs) (h : Q (.bl (decide (fs = gs))) H) (hk : K' = K := by rfl) : rEqD K' (.ref a) (.ref b) H Q := by
  subst hk
  refine ⟨_, _, Dp.lst (SqL.of ha) h1.dp, Dp.lst (SqL.of hb) h2.dp, shaped_mpds fs, shaped_mpds gs, ?_⟩
  rw [show PyData.eqv (.list (fs.map mpd)) (.list (gs.map mpd)) = PyData.eqvAll (fs.map mpd) (gs.map mpd) by simp only [PyData.eqv], eqvAll_mpds]
  exact h
theorem w_neMs {K K' : PySem.W.Frag} {H : Hp} {Q : VK} {a b : Addr} {qs rs : List Addr} {fs gs : List Mp} (ha : H a = some (.lst (qs.map V.ref))) (h1 : MsL H qs fs) (hb : H b = some (.lst (rs.map V.ref))) (h2 : MsL H rs gs) (h : Q (.bl (!decide (fs = gs))) H) (hk : K' = K := by rfl) : rNeD K' (.ref a) (.ref b) H Q := by
  subst hk
  refine ⟨_, _, Dp.lst (SqL.of ha) h1.dp, Dp.lst (SqL.of hb) h2.dp, shaped_mpds fs, shaped_mpds gs, ?_⟩
  rw [show PyData.eqv (.list (fs.map mpd)) (.list (gs.map mpd)) = PyData.eqvAll (fs.map mpd) (gs.map mpd) by simp only [PyData.eqv], eqvAll_mpds]
  exact h
theorem w_eqLI {K K' : PySem.W.Frag} {H : Hp} {Q : VK} {a b : Addr} {ns ms : List Int} (ha : SqL K H a (ns.map V.int)) (hb : SqL K H b (ms.map V.int)) (h : Q (.bl (decide (ns = ms))) H) (hk : K' = K := by rfl) : rEqD K' (.ref a) (.ref b) H Q := by
  subst hk
  refine ⟨_, _, Dp.lst ha (dp_ints ns), Dp.lst hb (dp_ints ms), shaped_ints ns, shaped_ints ms, ?_⟩
  rw [show PyData.eqv (.list (ns.map PyData.int)) (.list (ms.map PyData.int)) = PyData.eqvAll (ns.map PyData.int) (ms.map PyData.int) by simp only [PyData.eqv], eqvAll_ints]
  exact h
theorem w_neLI {K K' : PySem.W.Frag} {H : Hp} {Q : VK} {a b : Addr} {ns ms : List Int} (ha : SqL K H a (ns.map V.int)) (hb : SqL K H b (ms.map V.int)) (h : Q (.bl (!decide (ns = ms))) H) (hk : K' = K := by rfl) : rNeD K' (.ref a) (.ref b) H Q := by
  subst hk
  refine ⟨_, _, Dp.lst ha (dp_ints ns), Dp.lst hb (dp_ints ms), shaped_ints ns, shaped_ints ms, ?_⟩
  rw [show PyData.eqv (.list (ns.map PyData.int)) (.list (ms.map PyData.int)) = PyData.eqvAll (ns.map PyData.int) (ms.map PyData.int) by simp only [PyData.eqv], eqvAll_ints]
  exact h
section
variable {m : Int} {f : Mp}
theorem cyL_bd (hm : 2 ≤ m) (h9 : m ≤ 1000000000) (hf : Ok m f) : ∀ p ∈ cyL m f, p.1.natAbs < 1000000000000 ∧ p.2.natAbs < 1000000000000 := fun p hp => by
  obtain ⟨n, hn, rfl⟩ := List.mem_map.mp hp
  have h1 := cntP_ge hm hf ((cyK_mem hm hf).mp hn)
  have h2 := cntP_le (m := m) (f := f) n
  have h3 := Nat.div_le_self (cntP m f n) n
  show ((n : Nat) : Int).natAbs < _ ∧ ((cntP m f n / n : Nat) : Int).natAbs < _
  generalize cntP m f n / n = d at h3 ⊢
  omega
theorem cyK_of (hm : 2 ≤ m) (hf : Ok m f) {ns : List Int} (lt : ns.Pairwise (· < ·)) (mem : ∀ z, z ∈ ns ↔ ∃ n : Nat, 0 < cntP m f n ∧ (n : Int) = z) : ns = (cyK m f).map fun k : Nat => (k : Int) := by
  have e1 : ns = (ns.map Int.toNat).map fun k : Nat => (k : Int) := by
    rw [List.map_map]
    exact ((List.map_congr_left fun x hx => by
      obtain ⟨k, _, e⟩ := (mem x).mp hx
      show ((x.toNat : Nat) : Int) = x
      omega).trans (List.map_id ns)).symm
  have e2 : ns.map Int.toNat = cyK m f := by
    refine asc_ext ?_ cyK_asc fun z => ?_
    · rw [List.pairwise_map]
      refine List.Pairwise.imp_of_mem (fun {a b} ha hb l => ?_) lt
      obtain ⟨k, _, e⟩ := (mem a).mp ha
      omega
    · rw [cyK_mem hm hf, List.mem_map]
      constructor
      · rintro ⟨x, hx, rfl⟩
        obtain ⟨k, hk, e⟩ := (mem x).mp hx
        rw [← e, Int.toNat_natCast]; exact hk
      · intro hz
        exact ⟨(z : Int), (mem _).mpr ⟨z, hz, rfl⟩, Int.toNat_natCast z⟩
  rw [← e2]; exact e1
/-! ### all cycles, written out -/
theorem cyc_per (hm : 2 ≤ m) (hf : Ok m f) {x y : Int} {k : Nat} (x0 : 0 ≤ x) (x1 : x < m) (h : Per m f x m k) (hy : y ∈ Vg.cyc m f x k) : 0 ≤ y ∧ y < m ∧ Per m f y m k := by
  obtain ⟨i, _, rfl⟩ := cyc_mem.mp hy
  have b := orb_bd (f := f) (x := x) hm i
  exact ⟨b.1, b.2, per_orb hm hf x0 x1 h i⟩
theorem cs_count (hm : 2 ≤ m) (hf : Ok m f) (n : Nat) : ∀ cs : List (List Int), CsP m f cs →
    cntN m.toNat (fun i => decide (perK m f i = n) && cs.any fun c => decide ((i : Int) ∈ c)) = (cs.countP fun c => decide (c.length = n)) * n
  | [], _ => by
    rw [cntN_none fun i _ => by simp]
    simp
  | c :: cs, h => by
    have h' : CsP m f cs := ⟨fun d hd => h.cyc d (List.mem_cons_of_mem _ hd), (List.pairwise_cons.mp h.apart).2⟩
    have ap := (List.pairwise_cons.mp h.apart).1
    have ih := cs_count hm hf n cs h'
    obtain ⟨x, k, x0, x1, hk, ec⟩ := h.cyc c (List.mem_cons_self ..)
    have e1 : cntN m.toNat (fun i => decide (perK m f i = n) && (c :: cs).any fun c => decide ((i : Int) ∈ c)) =
        cntN m.toNat (fun i => (decide (perK m f i = n) && decide ((i : Int) ∈ c)) || (decide (perK m f i = n) && cs.any fun c => decide ((i : Int) ∈ c))) := cntN_cong fun i _ => by
      rw [List.any_cons]
      cases decide (perK m f i = n) <;> simp
    rw [e1, cntN_or (fun i _ z => by
      simp only [Bool.and_eq_true, decide_eq_true_eq] at z
      have : cs.any (fun c => decide ((i : Int) ∈ c)) = false := by
        rw [List.any_eq_false]
        intro d hd y
        exact ap d hd _ z.2 (of_decide_eq_true y)
      rw [this, Bool.and_false]), ih, List.countP_cons, Nat.add_mul]
    have e2 : cntN m.toNat (fun i => decide (perK m f i = n) && decide ((i : Int) ∈ c)) = (if decide (c.length = n) = true then 1 else 0) * n := by
      rw [ec, cyc_len]
      by_cases ck : k = n
      · subst ck
        rw [decide_eq_true rfl, if_pos rfl, Nat.one_mul]
        have nx : ((x.toNat : Nat) : Int) = x := Int.toNat_of_nonneg x0
        have hk' : Per m f ((x.toNat : Nat) : Int) m k := by rw [nx]; exact hk
        have key := cntN_list (q := m.toNat) (cycN_nd hm hf hk') fun y hy => by
          obtain ⟨j, _, e⟩ := (cycN_mem hm).mp hy
          have := orb_bd (f := f) (x := ((x.toNat : Nat) : Int)) hm j
          omega
        rw [cycN_len] at key
        refine Eq.trans ?_ key
        refine cntN_cong fun i hi => ?_
        have iff1 : (i : Int) ∈ Vg.cyc m f x k ↔ i ∈ cycN m f x.toNat k := by rw [cycN_mem hm, cyc_mem, nx]
        by_cases c1 : (i : Int) ∈ Vg.cyc m f x k
        · have p1 := perK_eq hm hf (cyc_per hm hf x0 x1 hk c1).2.2
          simp [c1, p1, iff1.mp c1]
        · have c2 : ¬ i ∈ cycN m f x.toNat k := fun z => c1 (iff1.mpr z)
          simp [c1, c2]
      · rw [decide_eq_false ck, if_neg (by decide), Nat.zero_mul]
        refine cntN_none fun i hi => ?_
        by_cases c1 : (i : Int) ∈ Vg.cyc m f x k
        · have p1 := perK_eq hm hf (cyc_per hm hf x0 x1 hk c1).2.2
          rw [p1, decide_eq_false ck]; rfl
        · rw [decide_eq_false c1, Bool.and_false]
    rw [e2]
    omega
theorem cs_cnt (hm : 2 ≤ m) (hf : Ok m f) {cs : List (List Int)} (h : CsP m f cs) (hall : ∀ x, 0 ≤ x → x < m → ∃ c ∈ cs, x ∈ c) (n : Nat) : cntP m f n = (cs.countP fun c => decide (c.length = n)) * n := by
  rw [← cs_count hm hf n cs h]
  unfold cntP
  refine cntN_cong fun i hi => ?_
  obtain ⟨c, hc, hi'⟩ := hall (i : Int) (by omega) (by omega)
  have : cs.any (fun c => decide ((i : Int) ∈ c)) = true := List.any_eq_true.mpr ⟨c, hc, decide_eq_true hi'⟩
  rw [this, Bool.and_true]
theorem cs_len (hm : 2 ≤ m) (hf : Ok m f) {cs : List (List Int)} (h : CsP m f cs) (hall : ∀ x, 0 ≤ x → x < m → ∃ c ∈ cs, x ∈ c) (n : Nat) : 0 < cntP m f n ↔ ∃ c ∈ cs, c.length = n := by
  rw [cs_cnt hm hf h hall n]
  constructor
  · intro z
    have : 0 < cs.countP fun c => decide (c.length = n) := Nat.pos_of_mul_pos_right z
    obtain ⟨c, hc, e⟩ := List.countP_pos_iff.mp this
    exact ⟨c, hc, of_decide_eq_true e⟩
  · rintro ⟨c, hc, e⟩
    obtain ⟨x, k, _, _, hk, ec⟩ := h.cyc c hc
    have n0 : 0 < n := by rw [← e, ec, cyc_len]; exact hk.pos
    exact Nat.mul_pos (List.countP_pos_iff.mpr ⟨c, hc, decide_eq_true e⟩) n0
/-- one cycle alone: the period of 0 is m -/
theorem cs_one (hm : 2 ≤ m) (hf : Ok m f) {cs : List (List Int)} (h : CsP m f cs) (hall : ∀ x, 0 ≤ x → x < m → ∃ c ∈ cs, x ∈ c) {n : Nat} (hn : Per m f 0 m n) : cs.map (fun c => ((c.length : Nat) : Int)) = [m] ↔ (n : Int) = m := by
  obtain ⟨c, hc, h0⟩ := hall 0 (by decide) (by omega)
  obtain ⟨x, k, x0, x1, hk, ec⟩ := h.cyc c hc
  subst ec
  have hk0 := (cyc_per hm hf x0 x1 hk h0).2.2
  have ek := hk0.alone hm hf (Int.dvd_refl m) hn
  subst ek
  constructor
  · intro e
    have hx : (((Vg.cyc m f x k).length : Nat) : Int) ∈ cs.map (fun c => ((c.length : Nat) : Int)) := List.mem_map.mpr ⟨_, hc, rfl⟩
    rw [e, List.mem_singleton, cyc_len] at hx
    exact hx
  · intro e
    have full : ∀ y : Int, 0 ≤ y → y < m → y ∈ Vg.cyc m f x k := fun y y0 y1 => by
      have nx : ((x.toNat : Nat) : Int) = x := Int.toNat_of_nonneg x0
      have hk' : Per m f ((x.toNat : Nat) : Int) m k := by rw [nx]; exact hk
      have key := cntN_list (q := m.toNat) (cycN_nd hm hf hk') fun y hy => by
        obtain ⟨j, _, e⟩ := (cycN_mem hm).mp hy
        have := orb_bd (f := f) (x := ((x.toNat : Nat) : Int)) hm j
        omega
      rw [cycN_len] at key
      rcases Classical.em (y.toNat ∈ cycN m f x.toNat k) with c1 | c1
      · obtain ⟨j, hj, e2⟩ := (cycN_mem hm).mp c1
        rw [nx] at e2
        exact cyc_mem.mpr ⟨j, hj, by omega⟩
      · exfalso
        have h1 := cntN_split (q := m.toNat) (fun _ => true) (fun i => decide (i ∈ cycN m f x.toNat k))
        rw [cntN_all] at h1
        simp only [Bool.true_and] at h1
        have h2 : 0 < cntN m.toNat (fun i => !decide (i ∈ cycN m f x.toNat k)) := cntN_pos (i := y.toNat) (by omega) (by rw [decide_eq_false c1]; rfl)
        omega
    have none : ∀ d, (d ∈ cs) → (∀ y ∈ d, y ∉ Vg.cyc m f x k) → False := fun d hd hdis => by
      obtain ⟨z, j, z0, z1, hj, ed⟩ := h.cyc d hd
      have hz : z ∈ d := by rw [ed]; exact cyc_mem.mpr ⟨0, hj.pos, orb_zero z0 z1⟩
      exact hdis z hz (full z z0 z1)
    obtain ⟨l1, l2, rfl⟩ := List.append_of_mem hc
    have ap := h.apart
    rw [List.pairwise_append, List.pairwise_cons] at ap
    have e1 : l1 = [] := by
      cases l1 with
      | nil => rfl
      | cons d r => exact (none d (by simp) fun y hy hy2 => ap.2.2 d (List.mem_cons_self ..) _ (List.mem_cons_self ..) y hy hy2).elim
    have e2 : l2 = [] := by
      cases l2 with
      | nil => rfl
      | cons d r => exact (none d (by simp) fun y hy hy2 => ap.2.1.1 d (List.mem_cons_self ..) y hy2 hy).elim
    subst e1 e2
    show [(((Vg.cyc m f x k).length : Nat) : Int)] = [m]
    rw [cyc_len, e]
end
def sp_fullp (K : PySem.W.Frag) : Sp := fun vs H Q _ => ∃ (m : Int) (f : Mp) (t : Addr), vs = [.int m, .ref t] ∧ TpAt K H t f ∧ 2 ≤ m ∧ m ≤ 1000000000 ∧ Ok m f ∧ Sm m ∧
  ∀ H' (n : Nat), Same H H' → Per m f 0 m n → Q (.bl (decide ((n : Int) = m))) H'
theorem w_fullp {K : PySem.W.Frag} {H : Hp} {Q : VK} {E : XK} {m : Int} {f : Mp} {t : Addr} (ht : TpAt K H t f) (hm : 2 ≤ m) (h9 : m ≤ 1000000000) (hf : Ok m f) (hs : Sm m)
    (h : ∀ H' (n : Nat), Same H H' → Per m f 0 m n → Q (.bl (decide ((n : Int) = m))) H') : sp_fullp K [.int m, .ref t] H Q E := ⟨m, f, t, rfl, ht, hm, h9, hf, hs, h⟩
def rLenS (K : PySem.W.Frag) : List V → Hp → VK → Prop := fun xs H Q => ∃ p ys, xs = [.ref p] ∧ (SqL K H p ys ∨ SqT K H p ys) ∧ Q (.int (ys.length : Nat)) H
theorem lenS_ {X : Cx} {K : PySem.W.Frag} (h : X.K = K) : CallR X (.builtin "len") (rLenS K) := h ▸ call_len_seq
theorem w_lenL {K K' : PySem.W.Frag} {H : Hp} {Q : VK} {a : Addr} {ys : List V} (e : SqL K H a ys) (h : Q (.int (ys.length : Nat)) H) (hk : K' = K := by rfl) : rLenS K' [.ref a] H Q := by
  subst hk
  exact ⟨a, ys, rfl, .inl e, h⟩
theorem filter_count {m : Int} {f : Mp} (hm : 2 ≤ m) (hf : Ok m f) {cs : List (List Int)} (h : CsP m f cs) (hall : ∀ x, 0 ≤ x → x < m → ∃ c ∈ cs, x ∈ c) {n : Nat} (hn : 0 < cntP m f n) :
    ((cs.map fun c => ((c.length : Nat) : Int)).filter fun z => decide (z = (n : Int))).length = cntP m f n / n := by
  have n0 : 0 < n := by
    obtain ⟨x, _, hp⟩ := cntP_ex hm hf hn
    exact hp.pos
  rw [cs_cnt hm hf h hall n, Nat.mul_div_cancel _ n0, ← List.countP_eq_length_filter, List.countP_map]
  refine List.countP_congr fun c _ => ?_
  simp only [Function.comp, decide_eq_true_eq]
  omega
/-- [x for x in xs if x == n], ints -/
theorem lc_eqF {K : PySem.W.Frag} {a : Addr} {ns : List Int} {n : Int} {j : Nat} {tt : TT} {te : TE} {vs : List Nat} {σ : L2.St} {H0 : Hp} {D : Addr} {Qd : Hp → Prop} (p : Int → Bool)
    (ha : SqL K H0 a (ns.map V.int)) (hD : H0 D = none) (hn : ns.length ≤ 10000000) (hw : ∀ v, wipe ((wipe σ vs).set j (some v)) vs = wipe σ vs)
    (ht : ∀ z ∈ ns, ∀ H' (R : Bool → Hp → Prop), Same H0 H' → R (p z) H' → tt ((wipe σ vs).set j (some (.int z))) H' R)
    (hs : ∀ z H' (R : VK), R (.int z) H' → te ((wipe σ vs).set j (some (.int z))) H' R)
    (hd : ∀ H', Same H0 H' → H' D = some (.lst ((ns.filter p).map V.int)) → Qd H') :
    ∃ W : Nat → Nat → Hp → Prop, (∃ m, W 0 m (upd H0 D (.lst []))) ∧ ∀ i m H', W i m H' →
      ((Itl K a).stop i H' ∧ Qd H') ∨ ((Itl K a).go i H' ∧ ∃ Nx : Hp → Prop, (∀ H2, Nx H2 → ∃ m', m' < m ∧ W (i + 1) m' H2) ∧ ∀ x H2, (Itl K a).yld i H' x H2 → gName j x (wipe σ vs) H2 fun σ2 H2 => wipe σ2 vs = wipe σ vs ∧ tt σ2 H2 fun b H3 =>
        if b = true then te σ2 H3 fun y H4 => ∃ acc, H4 D = some (.lst acc) ∧ acc.length < sizeLine ∧ Nx (upd H4 D (.lst (acc ++ [y]))) else Nx H3) := by
  refine lc_list (K := K) (a := a) (xs := ns.map V.int) (fun i H' => Same H0 H' ∧ H' D = some (.lst (((ns.take i).filter p).map V.int))) ?_ ?_ ?_ ?_
  · exact ⟨sm_new hD, upd_same⟩
  · rintro i H' _ ⟨sm, _⟩
    exact sm.seq ha
  · rintro i x H' hi ⟨sm, eD⟩
    obtain ⟨z, rfl, hz⟩ : ∃ z, x = V.int z ∧ ns[i]? = some z := by
      rw [List.getElem?_map] at hi
      cases hx : ns[i]? with
      | none => rw [hx] at hi; cases hi
      | some z => rw [hx] at hi; exact ⟨z, (Option.some.inj hi).symm, rfl⟩
    have hil := (List.getElem?_eq_some_iff.mp hz).1
    refine ⟨hw _, ?_⟩
    refine ht z (List.mem_of_getElem? hz) H' _ sm ?_
    have tk : ns.take (i + 1) = ns.take i ++ [z] := by rw [List.take_add_one, hz]; rfl
    cases hp : p z with
    | true =>
      rw [if_pos rfl]
      refine hs z H' _ ⟨_, eD, ?_, sm_own sm hD, ?_⟩
      · rw [List.length_map]
        refine Nat.lt_of_le_of_lt (List.length_filter_le _ _) (Nat.lt_of_lt_of_le (show (ns.take i).length < 10000001 by rw [List.length_take]; omega) (by decide))
      · rw [upd_same, tk, List.filter_append, List.map_append]
        simp [hp]
    | false =>
      rw [if_neg (by decide)]
      refine ⟨sm, ?_⟩
      rw [eD, tk, List.filter_append]
      simp [hp]
  · rintro H' ⟨sm, eD⟩
    rw [List.length_map, List.take_length] at eD
    exact hd H' sm eD
end Vg

set_option Elab.async false
set_option linter.all false
set_option maxRecDepth 100000
set_option maxHeartbeats 2000000
namespace Vg
open PySem PySem.Spec PyProof.Rows L2
/-! ### conjugate maps: who has a conjugator; the same cycles, the same order -/
section
variable {m : Int} {f g u i : Mp}
theorem cj_ex (hm : 2 ≤ m) (hs : Sm m) (hf : Ok m f) (hg : Ok m g) (e1 : f.1 = g.1) (e2 : Int.gcd g.2 (Int.gcd (f.1 - 1) m : Int) = Int.gcd f.2 (Int.gcd (f.1 - 1) m : Int)) : ∃ u, Cj m f g u := by
  have cpos := gcd_posI (a := f.1 - 1) (m := m) (by omega)
  have cm : ((Int.gcd (f.1 - 1) m : Nat) : Int) ∣ m := Int.gcd_dvd_right _ _
  generalize hc : ((Int.gcd (f.1 - 1) m : Nat) : Int) = c at *
  have spos := gcd_posI (a := f.2) (m := c) cpos
  have sdc : ((Int.gcd f.2 c : Nat) : Int) ∣ c := Int.gcd_dvd_right _ _
  have sg : Int.gcd (f.2 / ((Int.gcd f.2 c : Nat) : Int)) (c / ((Int.gcd f.2 c : Nat) : Int)) = 1 := slv_gcd cpos
  have e2' : ((Int.gcd g.2 c : Nat) : Int) = ((Int.gcd f.2 c : Nat) : Int) := by rw [e2]
  generalize hsh : ((Int.gcd f.2 c : Nat) : Int) = sh at *
  have st := div_lt' spos (by omega) sdc cpos
  have stm : c / sh ∣ m := Int.dvd_trans ⟨sh, (Int.ediv_mul_cancel sdc).symm⟩ cm
  have shd : sh ∣ g.2 := by rw [← e2']; exact Int.gcd_dvd_left _ _
  obtain ⟨r, hr⟩ := inv_exG st.1 sg
  have sgc := start_gcd cpos hsh.symm e2' hr st.1
  obtain ⟨x, hx, hU⟩ := unit_ex (m := m) (by omega) hs st.1 stm (Int.emod_nonneg _ (by omega)) (Int.emod_lt_of_pos _ (by omega)) sgc
  obtain ⟨u1, u2⟩ := of_decide_eq_true hU
  have hd := (cj_res (x := (x : Int)) cpos hsh.symm shd hr st.1).mpr u1
  rw [← hc] at hd
  have gm := gcd_posI (a := f.1 - 1) (m := m) (by omega)
  have dm := div_lt' (m := m) gm (by omega) (Int.gcd_dvd_right (f.1 - 1) m) (by omega)
  obtain ⟨r', hr'⟩ := inv_exG (a := (f.1 - 1) / ((Int.gcd (f.1 - 1) m : Nat) : Int)) dm.1 (slv_gcd (by omega))
  have S := slv_some (by omega) hd hr'
  have t1 := S.t1
  have t0 := S.s0
  have t2 := S.s1
  have tm : m / ((Int.gcd (f.1 - 1) m : Nat) : Int) ≤ m := Int.le_of_dvd (by omega) ⟨_, S.dv.symm⟩
  generalize ((x : Int) * f.2 - g.2) / ((Int.gcd (f.1 - 1) m : Nat) : Int) * r' % (m / ((Int.gcd (f.1 - 1) m : Nat) : Int)) = t at *
  have okx : Ok m ((x : Int), t) := ⟨unit_ofG (by omega) (by omega) hx u2, t0, by show t < m; omega⟩
  exact ⟨_, (cj_iff hm hf hg okx).mpr ⟨e1, (S.iff t).mpr (Cg.refl _ _)⟩⟩
theorem cj_alike (hm : 2 ≤ m) (hs : Sm m) (hf : Ok m f) (hg : Ok m g) : (f.1 = g.1 ∧ Int.gcd g.2 (Int.gcd (f.1 - 1) m : Int) = Int.gcd f.2 (Int.gcd (f.1 - 1) m : Int)) ↔ ∃ u, Cj m f g u := by
  constructor
  · rintro ⟨h1, h2⟩; exact cj_ex hm hs hf hg h1 h2
  · rintro ⟨u, hu⟩
    have h := (cj_iff hm hf hg hu.1).mp hu
    exact ⟨h.1, cj_step (by omega) (unit_gcd (by omega) hu.1.u) (cj_dvd h.2)⟩
theorem ord_cnj (hm : 2 ≤ m) (hf : Ok m f) (hu : Ok m u) (hi : IsInv m u i) {n k : Nat} (h : Ord m f n) (h' : Ord m (cnj m i f u) k) : n = k := by
  have one : cnj m i one1 u = one1 := by
    show cmp m (cmp m i one1) u = one1
    rw [cmp_one hm hi.1, hi.2.2]
  have iff_ : ∀ j, npw m (cnj m i f u) j = one1 ↔ npw m f j = one1 := fun j => by
    rw [cnj_npw hm hf hu hi]
    constructor
    · intro z
      exact cnj_inj hm (npw_ok hm hf j) (Ok.one hm) hu hi (z.trans one.symm)
    · intro z
      rw [z, one]
  refine h.alone ⟨h'.pos, fun j => ?_⟩
  rw [← iff_, h'.iff]
theorem cntN_inj {q : Nat} {p : Nat → Bool} {σ : Nat → Nat} (hσ : ∀ i, i < q → σ i < q) (inj : ∀ a b, a < q → b < q → σ a = σ b → a = b) : cntN q (fun i => p (σ i)) ≤ cntN q p := by
  unfold cntN
  rw [List.countP_eq_length_filter, List.countP_eq_length_filter, ← List.length_map σ (as := (List.range q).filter fun i => p (σ i))]
  refine nat_nodup_len _ _ ?_ fun x hx => ?_
  · unfold List.Nodup
    rw [List.pairwise_map]
    refine List.Pairwise.imp_of_mem (fun {a b} ha hb ne z => ne ?_) ((List.nodup_range (n := q)).filter _)
    exact inj a b (List.mem_range.mp (List.mem_filter.mp ha).1) (List.mem_range.mp (List.mem_filter.mp hb).1) z
  · obtain ⟨y, hy, rfl⟩ := List.mem_map.mp hx
    obtain ⟨h1, h2⟩ := List.mem_filter.mp hy
    exact List.mem_filter.mpr ⟨List.mem_range.mpr (hσ y (List.mem_range.mp h1)), h2⟩
theorem cntP_cnj_le (hm : 2 ≤ m) (hf : Ok m f) (hu : Ok m u) (hi : IsInv m u i) (n : Nat) : cntP m f n ≤ cntP m (cnj m i f u) n := by
  have hg := cnj_ok hm hf hu hi
  have bd : ∀ j : Nat, 0 ≤ img m u (j : Int) ∧ img m u (j : Int) < m := fun j => img_bd hm _
  have per : ∀ j, j < m.toNat → perK m (cnj m i f u) (img m u (j : Int)).toNat = perK m f j := fun j hj => by
    have hp := perK_per hm hf j
    refine perK_eq hm hg ?_
    rw [Int.toNat_of_nonneg (bd j).1]
    have o := fun e => cnj_orb hm hf hu hi (x := (j : Int)) (by omega) (by omega) e
    have cg : ∀ e, Cg m (orb m (cnj m i f u) (img m u (j : Int)) e) (orb m (cnj m i f u) (img m u (j : Int)) 0) ↔ Cg m (orb m f (j : Int) e) (orb m f (j : Int) 0) := fun e => by
      rw [o, o]
      constructor
      · intro z
        have b1 := orb_bd (f := f) (x := (j : Int)) hm e
        have b2 := orb_bd (f := f) (x := (j : Int)) hm 0
        exact Cg.of (img_inj' hm hu b1.1 b1.2 b2.1 b2.2 (z.eqS (img_bd hm _).1 (img_bd hm _).2 (img_bd hm _).1 (img_bd hm _).2))
      · intro z
        exact img_cg (Int.dvd_refl m) z
    exact ⟨hp.pos, (cg _).mpr hp.back, fun e e0 e1 z => hp.least e e0 e1 ((cg e).mp z)⟩
  unfold cntP
  rw [show cntN m.toNat (fun j => decide (perK m f j = n)) = cntN m.toNat (fun j => decide (perK m (cnj m i f u) (img m u (j : Int)).toNat = n)) from cntN_cong fun j hj => by rw [per j hj]]
  refine cntN_inj (p := fun x => decide (perK m (cnj m i f u) x = n)) (σ := fun j => (img m u (j : Int)).toNat) (fun j _ => by have := bd j; omega) fun a b ha hb e => ?_
  have b1 := bd a
  have b2 := bd b
  have := img_inj' hm hu (a := (a : Int)) (b := (b : Int)) (by omega) (by omega) (by omega) (by omega) (by omega)
  omega
theorem cntP_cnj (hm : 2 ≤ m) (hf : Ok m f) (hu : Ok m u) (hi : IsInv m u i) (n : Nat) : cntP m (cnj m i f u) n = cntP m f n := by
  refine Nat.le_antisymm ?_ (cntP_cnj_le hm hf hu hi n)
  have hg := cnj_ok hm hf hu hi
  have hi' : IsInv m i u := ⟨hu, hi.2.2, hi.2.1⟩
  have h := cntP_cnj_le hm hg hi.1 hi' n
  have e : cnj m u (cnj m i f u) i = f := by
    show cmp m (cmp m u (cmp m (cmp m i f) u)) i = f
    rw [← cmp_assoc hm hu (hi.1.cmp hm hf) hu, ← cmp_assoc hm hu hi.1 hf, hi.2.1, one_cmp hm hf, cmp_assoc hm hf hu hi.1, hi.2.1, cmp_one hm hf]
  rwa [e] at h
theorem cyL_congr {m' : Int} {f' : Mp} (em : m = m') (h : ∀ n, cntP m f n = cntP m' f' n) : cyL m f = cyL m' f' := by
  subst em
  have e : cyK m f = cyK m f' := by
    unfold cyK
    exact List.filter_congr fun n _ => by rw [h]
  unfold cyL
  rw [e]
  exact List.map_congr_left fun n _ => by rw [h]
theorem cyL_cnj (hm : 2 ≤ m) (hf : Ok m f) (hu : Ok m u) (hi : IsInv m u i) : cyL m (cnj m i f u) = cyL m f := cyL_congr rfl fun n => cntP_cnj hm hf hu hi n
end
/-! ### maps that commute: how many -/
/-- the step of their multipliers -/
def cStep (m : Int) (f : Mp) : Int := ((Int.gcd (f.1 - 1) m : Nat) : Int) / ((Int.gcd ((Int.gcd (f.1 - 1) m : Nat) : Int) f.2 : Nat) : Int)
def cShift (m : Int) (f : Mp) : Int := ((Int.gcd (f.1 - 1) m : Nat) : Int)
theorem cStep_ok {m : Int} {f : Mp} (hm : 1 ≤ m) : 1 ≤ cShift m f ∧ cShift m f ≤ m ∧ cShift m f ∣ m ∧ 1 ≤ cStep m f ∧ cStep m f ∣ m ∧ cStep m f ≤ m := by
  have cpos := gcd_posI (a := f.1 - 1) (m := m) hm
  have cm : ((Int.gcd (f.1 - 1) m : Nat) : Int) ∣ m := Int.gcd_dvd_right _ _
  have cle := gcd_leI (a := f.1 - 1) (m := m) hm
  unfold cStep cShift
  generalize ((Int.gcd (f.1 - 1) m : Nat) : Int) = c at *
  have spos : 1 ≤ ((Int.gcd c f.2 : Nat) : Int) := by rw [Int.gcd_comm]; exact gcd_posI cpos
  have sdc : ((Int.gcd c f.2 : Nat) : Int) ∣ c := Int.gcd_dvd_left _ _
  have st := div_lt' spos (by omega) sdc cpos
  have sd : c / ((Int.gcd c f.2 : Nat) : Int) ∣ m := Int.dvd_trans ⟨_, (Int.ediv_mul_cancel sdc).symm⟩ cm
  exact ⟨cpos, cle, cm, st.1, sd, by omega⟩
def cUn (m : Int) (f : Mp) : Nat → Bool := unU m (1 % cStep m f) (cStep m f)
def cCount (m : Int) (f : Mp) : Int := (cntU (cUn m f) m.toNat : Int) * cShift m f
theorem one_emod_gcd {s : Int} (h : 1 ≤ s) : Int.gcd (1 % s) s = 1 := by
  rcases Int.lt_or_le 1 s with c | c
  · rw [Int.emod_eq_of_lt (by decide) c]
    exact Nat.gcd_one_left _
  · have : s = 1 := by omega
    subst this
    rfl
/-- (terms, shifts) -/
def sp_cfam (K : PySem.W.Frag) : Sp := fun vs H Q _ => ∃ (m : Int) (f : Mp) (t : Addr), vs = [.int m, .ref t] ∧ TpAt K H t f ∧ 2 ≤ m ∧ m ≤ 1000000000 ∧ Ok m f ∧ Sm m ∧
  ∀ H' q l qs ts, Same H H' → H' q = some (.tup [.ref l, .int (cShift m f)]) → H' l = some (.lst (qs.map V.ref)) → TsL H' qs ts → (∀ t ∈ ts, t.ok ∧ t.g ≤ 1000000000 ∧ -1 ≤ t.s ∧ t.s ≤ 1) → ts.length ≤ 1000 → Desc ts (cUn m f) → Q (.ref q) H'
theorem w_cfam {K : PySem.W.Frag} {H : Hp} {Q : VK} {E : XK} {m : Int} {f : Mp} {t : Addr} (ht : TpAt K H t f) (hm : 2 ≤ m) (h9 : m ≤ 1000000000) (hf : Ok m f) (hs : Sm m)
    (h : ∀ H' q l qs ts, Same H H' → H' q = some (.tup [.ref l, .int (cShift m f)]) → H' l = some (.lst (qs.map V.ref)) → TsL H' qs ts → (∀ t ∈ ts, t.ok ∧ t.g ≤ 1000000000 ∧ -1 ≤ t.s ∧ t.s ≤ 1) → ts.length ≤ 1000 → Desc ts (cUn m f) → Q (.ref q) H') :
    sp_cfam K [.int m, .ref t] H Q E := ⟨m, f, t, rfl, ht, hm, h9, hf, hs, h⟩
def sp_ccount (K : PySem.W.Frag) : Sp := fun vs H Q _ => ∃ (m : Int) (f : Mp) (t : Addr), vs = [.int m, .ref t] ∧ TpAt K H t f ∧ 2 ≤ m ∧ m ≤ 1000000000 ∧ Ok m f ∧ Sm m ∧ ∀ H', Same H H' → Q (.int (cCount m f)) H'
theorem w_ccount {K : PySem.W.Frag} {H : Hp} {Q : VK} {E : XK} {m : Int} {f : Mp} {t : Addr} (ht : TpAt K H t f) (hm : 2 ≤ m) (h9 : m ≤ 1000000000) (hf : Ok m f) (hs : Sm m) (h : ∀ H', Same H H' → Q (.int (cCount m f)) H') :
    sp_ccount K [.int m, .ref t] H Q E := ⟨m, f, t, rfl, ht, hm, h9, hf, hs, h⟩
theorem cntU_le (U : Nat → Bool) (n : Nat) : cntU U n ≤ n := by
  unfold cntU
  have := List.length_filter_le U (List.range n)
  rwa [List.length_range] at this
/-- a tuple that is a map is one -/
def sp_lism : Sp := fun vs H Q _ => ∃ (m : Int) (f : Mp) (t : Addr), vs = [.int m, .ref t] ∧ H t = some (.tup [.int f.1, .int f.2]) ∧ 2 ≤ m ∧ m ≤ 1000000000 ∧ Ok m f ∧ ∀ H', Same H H' → Q (.bl true) H'
theorem w_lism {H : Hp} {Q : VK} {E : XK} {m : Int} {f : Mp} {t : Addr} (ht : H t = some (.tup [.int f.1, .int f.2])) (hm : 2 ≤ m) (h9 : m ≤ 1000000000) (hf : Ok m f) (h : ∀ H', Same H H' → Q (.bl true) H') : sp_lism [.int m, .ref t] H Q E :=
  ⟨m, f, t, rfl, ht, hm, h9, hf, h⟩
def sp_lalike (K : PySem.W.Frag) : Sp := fun vs H Q _ => ∃ (m : Int) (f g : Mp) (a b : Addr), vs = [.int m, .ref a, .ref b] ∧ TpAt K H a f ∧ TpAt K H b g ∧ 2 ≤ m ∧ m ≤ 1000000000 ∧ Ok m f ∧ Ok m g ∧ Sm m ∧
  ∀ H' (c : Bool), Same H H' → (c = true ↔ ∃ u, Cj m f g u) → Q (.bl c) H'
theorem w_lalike {K : PySem.W.Frag} {H : Hp} {Q : VK} {E : XK} {m : Int} {f g : Mp} {a b : Addr} (ha : TpAt K H a f) (hb : TpAt K H b g) (hm : 2 ≤ m) (h9 : m ≤ 1000000000) (hf : Ok m f) (hg : Ok m g) (hs : Sm m)
    (h : ∀ H' (c : Bool), Same H H' → (c = true ↔ ∃ u, Cj m f g u) → Q (.bl c) H') : sp_lalike K [.int m, .ref a, .ref b] H Q E := ⟨m, f, g, a, b, rfl, ha, hb, hm, h9, hf, hg, hs, h⟩
theorem gcd_modl {a m : Int} (hm : 1 ≤ m) : gcdI m (a % m) = ((Int.gcd a m : Nat) : Int) := by
  rw [gcdI_eq (by omega) (Int.emod_nonneg _ (by omega)), Int.gcd_comm]
  congr 1
  refine Nat.dvd_antisymm ?_ ?_
  · have g1 : ((Int.gcd (a % m) m : Nat) : Int) ∣ a % m := Int.gcd_dvd_left _ _
    have g2 : ((Int.gcd (a % m) m : Nat) : Int) ∣ m := Int.gcd_dvd_right _ _
    have g3 : ((Int.gcd (a % m) m : Nat) : Int) ∣ a := by
      have := Int.dvd_add g1 (Int.dvd_trans g2 (Int.dvd_mul_right m (a / m)))
      rwa [Int.emod_add_mul_ediv] at this
    exact Int.ofNat_dvd.mp (Int.dvd_coe_gcd g3 g2)
  · have g1 : ((Int.gcd a m : Nat) : Int) ∣ a := Int.gcd_dvd_left _ _
    have g2 : ((Int.gcd a m : Nat) : Int) ∣ m := Int.gcd_dvd_right _ _
    have g3 : ((Int.gcd a m : Nat) : Int) ∣ a % m := by
      have := Int.dvd_sub g1 (Int.dvd_trans g2 (Int.dvd_mul_right m (a / m)))
      have e := Int.emod_add_mul_ediv a m
      rwa [show a - m * (a / m) = a % m by omega] at this
    exact Int.ofNat_dvd.mp (Int.dvd_coe_gcd g3 g2)
end Vg
namespace Vg
open PySem PySem.Spec PyProof.Rows L2
theorem w_unit {H : Hp} {Q : VK} {E : XK} {p L : Addr} {n : Nat} {m : Int} (hp : PenAt H p L n) (hn : n ≤ 90000000) (h2 : 2 ≤ m) (h9 : m ≤ 1000000000)
    (h : ∀ H' u, But p H H' → PenAt H' p L (n + 4) → Unit' m u → Q (.int u) H') : sp_unit [.ref p, .int m] H Q E := ⟨p, L, n, m, rfl, hp, by omega, h2, h9, h⟩
/-- a list of (order, number of maps that commute) -/
def SzAt (m : Int) (D : Addr) (fs : List Mp) (i : Nat) (v : V) (H : Hp) : Prop := ∃ (q : Addr) (n : Nat) (h : Mp), v = .ref q ∧ q ≠ D ∧ fs[i]? = some h ∧ Ord m h n ∧ H q = some (.tup [.int (n : Int), .int (cCount m h)])
theorem szAt_st {m : Int} {D : Addr} {fs : List Mp} (i : Nat) (v : V) (H H' : Hp) (b : But D H H') (h : SzAt m D fs i v H) : SzAt m D fs i v H' := by
  obtain ⟨q, n, h, e1, e2, e3, e4, e5⟩ := h
  exact ⟨q, n, h, e1, e2, e3, e4, b _ _ e2 e5⟩
theorem ccount_eq {m : Int} {f g : Mp} (hm : 1 ≤ m) (h : f.1 = g.1 ∧ Int.gcd g.2 (Int.gcd (f.1 - 1) m : Int) = Int.gcd f.2 (Int.gcd (f.1 - 1) m : Int)) : cCount m f = cCount m g := by
  have e1 : cShift m f = cShift m g := by unfold cShift; rw [h.1]
  have e2 : cStep m f = cStep m g := by
    unfold cStep
    rw [← h.1, Int.gcd_comm _ f.2, Int.gcd_comm _ g.2, h.2]
  unfold cCount cUn
  rw [e1, e2]
end Vg

set_option Elab.async false
set_option linter.all false
set_option maxRecDepth 100000
set_option maxHeartbeats 2000000
namespace Vg
open PySem PySem.Spec PyProof.Rows L2
/-! ### when all numbers are on one cycle -/
theorem pw_dvd {p : Int} {a b : Nat} (h : a ≤ b) : p ^ a ∣ p ^ b := ⟨p ^ (b - a), by rw [← Int.pow_add]; congr 1; omega⟩
def Xp (p : Int) (k : Nat) (z : Int) : Prop := p ^ k ∣ z ∧ ¬ p ^ (k + 1) ∣ z
theorem Xp.mul {p : Int} {k l : Nat} {x y : Int} (hp : p ∈ P6) (hx : Xp p k x) (hy : Xp p l y) : Xp p (k + l) (x * y) := by
  have p0 : p ≠ 0 := by have := p6_bd hp; omega
  obtain ⟨⟨c, hc⟩, h1⟩ := hx
  obtain ⟨⟨d, hd⟩, h2⟩ := hy
  have nc : ¬ p ∣ c := fun ⟨t, ht⟩ => h1 ⟨t, by rw [hc, ht, Int.pow_succ, Int.mul_assoc]⟩
  have nd : ¬ p ∣ d := fun ⟨t, ht⟩ => h2 ⟨t, by rw [hd, ht, Int.pow_succ, Int.mul_assoc]⟩
  have e : x * y = p ^ (k + l) * (c * d) := by
    rw [hc, hd, Int.pow_add]
    simp only [Int.mul_assoc, Int.mul_left_comm]
  refine ⟨⟨_, e⟩, fun ⟨t, ht⟩ => ?_⟩
  rw [e, Int.pow_succ, Int.mul_assoc] at ht
  have := Int.eq_of_mul_eq_mul_left (Int.pow_ne_zero p0) ht
  rcases p6_prime hp (show p ∣ c * d from ⟨t, this⟩) with z | z
  · exact nc z
  · exact nd z
theorem Xp.iff {p : Int} {k : Nat} {z : Int} (h : Xp p k z) (j : Nat) : p ^ j ∣ z ↔ j ≤ k := by
  constructor
  · intro hj
    rcases Nat.lt_or_ge k j with c | c
    · exfalso
      exact h.2 (Int.dvd_trans (pw_dvd c) hj)
    · exact c
  · intro hj
    exact Int.dvd_trans (pw_dvd hj) h.1
theorem xp_ex {p : Int} (hp : p ∈ P6) : ∀ (n : Nat) (z : Int), z.natAbs ≤ n → z ≠ 0 → ∃ k, Xp p k z
  | 0, z, h, h0 => by omega
  | n + 1, z, h, h0 => by
    have p2 := p6_bd hp
    by_cases c : p ∣ z
    · obtain ⟨y, hy⟩ := c
      have y0 : y ≠ 0 := fun e => h0 (by rw [hy, e, Int.mul_zero])
      have lt : y.natAbs ≤ n := by
        have e : z.natAbs = p.natAbs * y.natAbs := by rw [hy, Int.natAbs_mul]
        have : 2 * y.natAbs ≤ p.natAbs * y.natAbs := Nat.mul_le_mul_right _ (by omega)
        omega
      obtain ⟨k, h1, h2⟩ := xp_ex hp n y lt y0
      refine ⟨k + 1, ?_, fun w => h2 ?_⟩
      · rw [hy, Int.pow_succ, Int.mul_comm]; exact Int.mul_dvd_mul_left p h1
      · rw [hy, Int.pow_succ p (k + 1), Int.mul_comm (p ^ (k + 1)) p] at w
        exact Int.dvd_of_mul_dvd_mul_left (by omega) w
    · exact ⟨0, by rw [Int.pow_zero]; exact Int.one_dvd z, by rw [Int.pow_succ, Int.pow_zero, Int.one_mul]; exact c⟩
theorem geo_add (A : Int) (s : Nat) : ∀ t, geo A (s + t) = geo A s + A ^ s * geo A t
  | 0 => by simp [geo]
  | t + 1 => by
    show geo A (s + t) + A ^ (s + t) = geo A s + A ^ s * (geo A t + A ^ t)
    rw [geo_add A s t, Int.mul_add, Int.pow_add]
    omega
theorem geo_mulN (A : Int) (s : Nat) : ∀ t, geo A (s * t) = geo A s * geo (A ^ s) t
  | 0 => by simp [geo]
  | t + 1 => by
    show geo A (s * t + s) = geo A s * (geo (A ^ s) t + (A ^ s) ^ t)
    rw [geo_add, geo_mulN A s t, Int.mul_add, ← Int.pow_mul, Int.mul_comm (A ^ (s * t))]
theorem pow_cg {q A B : Int} (h : Cg q A B) : ∀ t : Nat, Cg q (A ^ t) (B ^ t)
  | 0 => by simp; exact Cg.refl _ _
  | t + 1 => by rw [Int.pow_succ, Int.pow_succ]; exact (pow_cg h t).mul h
theorem geo_cong {q A B : Int} (h : Cg q A B) : ∀ t : Nat, Cg q (geo A t) (geo B t)
  | 0 => Cg.refl _ _
  | t + 1 => (geo_cong h t).add (pow_cg h t)
/-- a multiplier that is 1 modulo p, and modulo 4 if p is 2 -/
def Gm (p A : Int) : Prop := p ∣ A - 1 ∧ (p = 2 → 4 ∣ A - 1)
theorem Gm.pow {p A : Int} (h : Gm p A) (t : Nat) : Gm p (A ^ t) := by
  have h1 : ∀ q : Int, q ∣ A - 1 → q ∣ A ^ t - 1 := fun q hq => by
    have := pow_cg (show Cg q A 1 from hq) t
    rw [Int.one_pow] at this
    exact this
  exact ⟨h1 _ h.1, fun e => h1 _ (h.2 e)⟩
theorem geo_p {p A : Int} (hp : p ∈ P6) (h : Gm p A) : Xp p 1 (geo A p.toNat) := by
  have key : ∀ p ∈ ([2, 3, 5, 7, 11, 13] : List Nat), ∀ u, u < p → (p = 2 → u = 0) → (geo (1 + (p : Int) * (u : Int)) p) % ((p : Int) * (p : Int)) ≠ 0 ∧ (geo (1 + (p : Int) * (u : Int)) p) % (p : Int) = 0 := by decide +kernel
  have p2 := p6_bd hp
  obtain ⟨pn, rfl⟩ : ∃ pn : Nat, p = (pn : Int) := ⟨p.toNat, by omega⟩
  have hpn : pn ∈ ([2, 3, 5, 7, 11, 13] : List Nat) := by unfold P6 at hp; simp at hp ⊢; omega
  rw [Int.toNat_natCast]
  obtain ⟨w, hw⟩ := h.1
  have u0 := Int.emod_nonneg w (show ((pn : Nat) : Int) ≠ 0 by omega)
  have u1 := Int.emod_lt_of_pos w (show 0 < ((pn : Nat) : Int) by omega)
  have eu : ((w % ((pn : Nat) : Int)).toNat : Int) = w % ((pn : Nat) : Int) := Int.toNat_of_nonneg u0
  obtain ⟨k1, k2⟩ := key pn hpn (w % ((pn : Nat) : Int)).toNat (by omega) (fun e => by
    subst e
    have h4 := h.2 rfl
    rw [hw] at h4
    obtain ⟨t, ht⟩ := h4
    omega)
  rw [eu] at k1 k2
  have cg : Cg (((pn : Nat) : Int) * ((pn : Nat) : Int)) A (1 + ((pn : Nat) : Int) * (w % ((pn : Nat) : Int))) := by
    refine ⟨w / ((pn : Nat) : Int), ?_⟩
    have e := Int.emod_add_mul_ediv w ((pn : Nat) : Int)
    have e2 : ((pn : Nat) : Int) * w = ((pn : Nat) : Int) * (w % ((pn : Nat) : Int)) + ((pn : Nat) : Int) * (((pn : Nat) : Int) * (w / ((pn : Nat) : Int))) := by rw [← Int.mul_add, e]
    rw [Int.mul_assoc]
    omega
  have g := geo_cong cg pn
  generalize geo (1 + ((pn : Nat) : Int) * (w % ((pn : Nat) : Int))) pn = G at *
  refine ⟨?_, fun z => k1 ?_⟩
  · rw [Int.pow_succ, Int.pow_zero, Int.one_mul]
    have h1 : ((pn : Nat) : Int) ∣ geo A pn - G := Int.dvd_trans (Int.dvd_mul_right _ _) g
    have h2 := Int.dvd_of_emod_eq_zero k2
    have := Int.dvd_add h1 h2
    rwa [show geo A pn - G + G = geo A pn by omega] at this
  · rw [show (1 : Nat) + 1 = 2 from rfl, Int.pow_succ, Int.pow_succ, Int.pow_zero, Int.one_mul] at z
    have := Int.dvd_sub z g
    rw [show geo A pn - (geo A pn - G) = G by omega] at this
    exact Int.emod_eq_zero_of_dvd this
theorem geo_pk {p A : Int} (hp : p ∈ P6) (h : Gm p A) : ∀ k : Nat, Xp p k (geo A (p.toNat ^ k))
  | 0 => by
    have := p6_bd hp
    refine ⟨by rw [Int.pow_zero]; exact Int.one_dvd _, fun z => ?_⟩
    rw [Int.pow_succ, Int.pow_zero, Int.one_mul, Nat.pow_zero] at z
    have e : geo A 1 = 1 := by show (0 : Int) + A ^ 0 = 1; simp
    rw [e] at z
    have := Int.le_of_dvd (by decide) z
    omega
  | k + 1 => by
    rw [Nat.pow_succ, geo_mulN]
    exact (geo_pk hp h k).mul hp (geo_p hp (h.pow _))
/-- as often as e -/
theorem geo_iff {p A : Int} (hp : p ∈ P6) (h : Gm p A) {e : Nat} (e0 : 0 < e) (j : Nat) : p ^ j ∣ geo A e ↔ p ^ j ∣ (e : Int) := by
  have p2 := p6_bd hp
  obtain ⟨k, hk⟩ := xp_ex hp (e : Int).natAbs (e : Int) (Nat.le_refl _) (by omega)
  rw [hk.iff]
  obtain ⟨⟨r, hr⟩, hn⟩ := hk
  have nr : ¬ p ∣ r := fun ⟨t, ht⟩ => hn ⟨t, by rw [hr, ht, Int.pow_succ, Int.mul_assoc]⟩
  have pp : 0 < p ^ k := Int.pow_pos (by omega)
  have r0 : 0 ≤ r := by
    rcases Int.lt_or_le r 0 with c | c
    · have := Int.mul_neg_of_pos_of_neg pp c; omega
    · exact c
  have en : e = p.toNat ^ k * r.toNat := by
    have h1 : ((p.toNat ^ k * r.toNat : Nat) : Int) = p ^ k * r := by rw [Int.natCast_mul, Int.natCast_pow, Int.toNat_of_nonneg (by omega), Int.toNat_of_nonneg r0]
    omega
  have g2 : Xp p 0 (geo (A ^ (p.toNat ^ k)) r.toNat) := by
    refine ⟨by rw [Int.pow_zero]; exact Int.one_dvd _, fun z => nr ?_⟩
    rw [Int.pow_succ, Int.pow_zero, Int.one_mul] at z
    have c := (geo_cg (show Cg p (A ^ (p.toNat ^ k)) 1 from (h.pow _).1) r.toNat).1
    have := Int.dvd_sub z c
    rw [Int.toNat_of_nonneg r0] at this
    rwa [show geo (A ^ (p.toNat ^ k)) r.toNat - (geo (A ^ (p.toNat ^ k)) r.toNat - r) = r by omega] at this
  have g3 := (geo_pk hp h k).mul hp g2
  rw [Nat.add_zero, ← geo_mulN, ← en] at g3
  exact g3.iff j
/-- by the powers of primes -/
theorem sm_dvd_iff {m : Int} (hs : Sm m) (z : Int) : m ∣ z ↔ ∀ p ∈ P6, ∀ k : Nat, p ^ k ∣ m → p ^ k ∣ z := by
  constructor
  · intro h p _ k hk; exact Int.dvd_trans hk h
  · intro h
    induction hs with
    | one => exact Int.one_dvd z
    | @mul m q hm hq ih =>
      have hq6 : q ∈ P6 := hq
      have q2 := p6_bd hq6
      have m1 := sm_pos hm
      have := ih fun p hp k hk => h p hp k (Int.dvd_trans hk (Int.dvd_mul_right m q))
      obtain ⟨w, hw⟩ := this
      obtain ⟨k, ⟨c, hc⟩, hn⟩ := xp_ex hq6 m.natAbs m (Nat.le_refl _) (by omega)
      have nc : ¬ q ∣ c := fun ⟨t, ht⟩ => hn ⟨t, by rw [hc, ht, Int.pow_succ, Int.mul_assoc]⟩
      have h1 := h q hq6 (k + 1) ⟨c, by rw [hc, Int.pow_succ]; simp only [Int.mul_assoc, Int.mul_comm, Int.mul_left_comm]⟩
      obtain ⟨t, ht⟩ := h1
      have h2 : q ∣ c * w := by
        have pk : q ^ k ≠ 0 := Int.pow_ne_zero (show q ≠ 0 by omega)
        refine ⟨t, Int.eq_of_mul_eq_mul_left pk ?_⟩
        rw [← Int.mul_assoc, ← hc, ← hw, ht, Int.pow_succ, Int.mul_assoc]
      rcases p6_prime hq6 h2 with y | ⟨s, hs⟩
      · exact absurd y nc
      · exact ⟨s, by rw [hw, hs, Int.mul_assoc]⟩
section
variable {m : Int} {f : Mp}
theorem orb0_geo {d : Int} (hm : 2 ≤ m) (hf : Ok m f) (hd : d ∣ m) (e : Nat) : Cg d (orb m f 0 e) (f.2 * geo f.1 e) := by
  refine cg_of_dvd hd ?_
  refine Cg.trans ?_ (npw_geo hm hf e).2
  show Cg m (((npw m f e).1 * 0 + (npw m f e).2) % m) _
  refine (Cg.mod m _).trans (Cg.of ?_)
  omega
/-- all numbers come, one after another -/
theorem full_hits (hm : 2 ≤ m) (hf : Ok m f) {x : Int} (x0 : 0 ≤ x) (x1 : x < m) {n : Nat} (hn : Per m f x m n) (e : (n : Int) = m) (y : Int) (y0 : 0 ≤ y) (y1 : y < m) : ∃ j, j < n ∧ orb m f x j = y := by
  have nx : ((x.toNat : Nat) : Int) = x := Int.toNat_of_nonneg x0
  have hk' : Per m f ((x.toNat : Nat) : Int) m n := by rw [nx]; exact hn
  have key := cntN_list (q := m.toNat) (cycN_nd hm hf hk') fun y hy => by
    obtain ⟨j, _, e⟩ := (cycN_mem hm).mp hy
    have := orb_bd (f := f) (x := ((x.toNat : Nat) : Int)) hm j
    omega
  rw [cycN_len] at key
  rcases Classical.em (y.toNat ∈ cycN m f x.toNat n) with c1 | c1
  · obtain ⟨j, hj, e2⟩ := (cycN_mem hm).mp c1
    rw [nx] at e2
    exact ⟨j, hj, by omega⟩
  · exfalso
    have h1 := cntN_split (q := m.toNat) (fun _ => true) (fun i => decide (i ∈ cycN m f x.toNat n))
    rw [cntN_all] at h1
    simp only [Bool.true_and] at h1
    have h2 : 0 < cntN m.toNat (fun i => !decide (i ∈ cycN m f x.toNat n)) := cntN_pos (i := y.toNat) (by omega) (by rw [decide_eq_false c1]; rfl)
    omega
def FullC (m : Int) (f : Mp) : Prop := Int.gcd f.2 m = 1 ∧ ∀ p ∈ P6, p ∣ m → p ∣ f.1 - 1 ∧ (p = 2 → 4 ∣ m → 4 ∣ f.1 - 1)
theorem full_iff (hm : 2 ≤ m) (hs : Sm m) (hf : Ok m f) {n : Nat} (hn : Per m f 0 m n) : (n : Int) = m ↔ FullC m f := by
  constructor
  · intro e
    have hit := full_hits hm hf (by decide) (by omega) hn e
    have co : Int.gcd f.2 m = 1 := (unit_iff (by omega) hs f.2).mpr fun p hp hpm hpb => by
      have p2 := p6_bd hp
      obtain ⟨j, _, hj⟩ := hit 1 (by decide) (by omega)
      have c := orb0_geo hm hf hpm j
      rw [hj] at c
      have h1 : p ∣ f.2 * geo f.1 j := Int.dvd_trans hpb (Int.dvd_mul_right _ _)
      have := Int.dvd_add c h1
      rw [show 1 - f.2 * geo f.1 j + f.2 * geo f.1 j = 1 by omega] at this
      have := Int.le_of_dvd (by decide) this
      omega
    have ap : ∀ p ∈ P6, p ∣ m → p ∣ f.1 - 1 := fun p hp hpm => by
      have p2 := p6_bd hp
      have pm := Int.le_of_dvd (by omega) hpm
      rcases Classical.em (p ∣ f.1 - 1) with c | c
      · exact c
      · exfalso
        -- a number that is kept modulo p
        obtain ⟨r, hr⟩ := inv_exG (m := p) (a := f.1 - 1) (by omega) (p6_gcd hp c)
        have x0 := Int.emod_nonneg (r * -f.2) (show p ≠ 0 by omega)
        have x1 := Int.emod_lt_of_pos (r * -f.2) (show 0 < p by omega)
        have kx : Cg p ((f.1 - 1) * (r * -f.2 % p)) (-f.2) := by
          have h1 : Cg p (r * -f.2 % p) (r * -f.2) := Cg.mod p _
          have h2 := h1.mulL (f.1 - 1)
          have h3 := hr.mulR (-f.2)
          rw [Int.one_mul] at h3
          exact h2.trans ((Cg.of (by rw [← Int.mul_assoc, Int.mul_comm (f.1 - 1) r])).trans h3)
        generalize r * -f.2 % p = x at x0 x1 kx
        have kp : ∀ z, Cg p z x → Cg p (img m f z) x := fun z hz => by
          have h1 : Cg p (img m f z) (f.1 * z + f.2) := cg_of_dvd hpm (Cg.mod m _)
          refine h1.trans (((hz.mulL f.1).add (Cg.refl p f.2)).trans ?_)
          obtain ⟨t, ht⟩ := kx
          refine ⟨t, ?_⟩
          rw [Int.sub_mul, Int.one_mul] at ht
          omega
        have st : ∀ e, Cg p (orb m f x e) x := fun e => by
          induction e with
          | zero => rw [orb_zero x0 (by omega)]; exact Cg.refl _ _
          | succ e ih => rw [orb_succ]; exact kp _ ih
        obtain ⟨j, hj, hjx⟩ := hit x x0 (by omega)
        -- from x on too, all numbers come
        have hx := per_orb hm hf (by decide) (by omega) hn j
        rw [hjx] at hx
        have y1 : 0 ≤ (if x = 0 then 1 else 0 : Int) ∧ (if x = 0 then 1 else 0 : Int) < m := by split <;> omega
        obtain ⟨i, _, hi⟩ := full_hits hm hf x0 (by omega) hx e _ y1.1 y1.2
        have c := st i
        rw [hi] at c
        obtain ⟨t, ht⟩ := c
        split at ht
        · next h0 =>
          have : p ∣ 1 := ⟨t, by omega⟩
          have := Int.le_of_dvd (by decide) this
          omega
        · next h0 =>
          have : p ∣ x := ⟨-t, by rw [Int.mul_neg]; omega⟩
          have := Int.le_of_dvd (by omega) this
          omega
    refine ⟨co, fun p hp hpm => ⟨ap p hp hpm, fun e2 h4 => ?_⟩⟩
    subst e2
    have a2 := ap 2 (by decide) hpm
    have m4 := Int.le_of_dvd (by omega) h4
    rcases Classical.em (4 ∣ f.1 - 1) with c | c
    · exact c
    · exfalso
      have hb : ¬ (2 : Int) ∣ f.2 := (unit_iff (by omega) hs f.2).mp co 2 (by decide) hpm
      have g4 : ∀ e, 4 ∣ geo f.1 e ∨ 4 ∣ geo f.1 e - 1 := fun e => by
        have a3 : Cg 4 f.1 3 := by
          obtain ⟨t, ht⟩ := a2
          have : t % 2 = 1 := by
            rcases Int.emod_two_eq t with z | z
            · exact absurd ⟨t / 2, by omega⟩ c
            · exact z
          exact ⟨(t - 1) / 2, by omega⟩
        have h1 : ∀ e : Nat, Cg 4 (geo 3 e) ((e % 2 : Nat) : Int) ∧ Cg 4 ((3 : Int) ^ e) (1 + 2 * ((e % 2 : Nat) : Int)) := fun e => by
          induction e with
          | zero => exact ⟨Cg.of rfl, Cg.of rfl⟩
          | succ e ih =>
            obtain ⟨⟨s, hs'⟩, ⟨t, ht⟩⟩ := ih
            refine ⟨?_, ?_⟩
            · show 4 ∣ geo 3 e + 3 ^ e - (((e + 1) % 2 : Nat) : Int)
              rcases Nat.mod_two_eq_zero_or_one e with z | z
              · rw [z] at hs' ht
                rw [show (e + 1) % 2 = 1 by omega]
                exact ⟨s + t, by omega⟩
              · rw [z] at hs' ht
                rw [show (e + 1) % 2 = 0 by omega]
                exact ⟨s + t + 1, by omega⟩
            · show 4 ∣ 3 ^ (e + 1) - _
              rw [Int.pow_succ]
              rcases Nat.mod_two_eq_zero_or_one e with z | z
              · rw [z] at ht
                rw [show (e + 1) % 2 = 1 by omega]
                exact ⟨3 * t, by omega⟩
              · rw [z] at ht
                rw [show (e + 1) % 2 = 0 by omega]
                exact ⟨3 * t + 2, by omega⟩
        obtain ⟨t, ht⟩ := (geo_cong a3 e).trans (h1 e).1
        rcases Nat.mod_two_eq_zero_or_one e with z | z
        · rw [z] at ht; exact .inl ⟨t, by omega⟩
        · rw [z] at ht; exact .inr ⟨t, by omega⟩
      obtain ⟨j, _, hj⟩ := hit 2 (by decide) (by omega)
      have c4 := orb0_geo hm hf h4 j
      rw [hj] at c4
      rcases g4 j with ⟨t, ht⟩ | ⟨t, ht⟩
      · obtain ⟨s, hs'⟩ := c4
        rw [ht, Int.mul_left_comm] at hs'
        omega
      · obtain ⟨s, hs'⟩ := c4
        have eg : geo f.1 j = 1 + 4 * t := by omega
        rw [eg, Int.mul_add, Int.mul_one, Int.mul_left_comm] at hs'
        exact hb ⟨1 - 2 * s - 2 * (f.2 * t), by omega⟩
  · rintro ⟨co, hp⟩
    have gm : ∀ p ∈ P6, ∀ k : Nat, p ^ k ∣ m → ∀ e : Nat, 0 < e → (p ^ k ∣ geo f.1 e ↔ p ^ k ∣ (e : Int)) := fun p hp6 k hk e e0 => by
      have p2 := p6_bd hp6
      rcases Nat.eq_zero_or_pos k with z | z
      · subst z; rw [Int.pow_zero]; exact ⟨fun _ => Int.one_dvd _, fun _ => Int.one_dvd _⟩
      · have pm : p ∣ m := Int.dvd_trans ⟨p ^ (k - 1), by rw [Int.mul_comm, ← Int.pow_succ]; congr 1; omega⟩ hk
        obtain ⟨h1, h2⟩ := hp p hp6 pm
        rcases Classical.em (p = 2 → 4 ∣ f.1 - 1) with c | c
        · exact geo_iff hp6 ⟨h1, c⟩ e0 k
        · -- p is 2, and 4 does not divide m
          have e2 : p = 2 := Classical.byContradiction fun z => c fun y => absurd y z
          subst e2
          have k1 : k = 1 := by
            rcases Nat.lt_or_ge 1 k with y | y
            · exfalso
              refine c fun _ => h2 rfl (Int.dvd_trans ⟨2 ^ (k - 2), ?_⟩ hk)
              rw [show (4 : Int) = 2 ^ 2 by decide, ← Int.pow_add]
              congr 1; omega
            · omega
          subst k1
          rw [show (2 : Int) ^ 1 = 2 by decide]
          have cg := (geo_cg (show Cg 2 f.1 1 from h1) e).1
          constructor
          · intro y
            have := Int.dvd_sub y cg
            rwa [show geo f.1 e - (geo f.1 e - (e : Int)) = (e : Int) by omega] at this
          · intro y
            have := Int.dvd_add y cg
            rwa [show (e : Int) + (geo f.1 e - (e : Int)) = geo f.1 e by omega] at this
    have iff_ : ∀ e : Nat, 0 < e → (Cg m (orb m f 0 e) 0 ↔ m ∣ (e : Int)) := fun e e0 => by
      have c := orb0_geo hm hf (Int.dvd_refl m) e
      have h1 : Cg m (orb m f 0 e) 0 ↔ m ∣ f.2 * geo f.1 e := by
        constructor
        · intro z
          have := c.symm.trans z
          unfold Cg at this
          rwa [Int.sub_zero] at this
        · intro z
          refine c.trans ?_
          unfold Cg
          rwa [Int.sub_zero]
      have h2 : m ∣ f.2 * geo f.1 e ↔ m ∣ geo f.1 e := by
        constructor
        · intro z
          rw [Int.mul_comm] at z
          exact dvd_co (by rw [Int.gcd_comm]; exact co) z
        · intro z; exact Int.dvd_trans z (Int.dvd_mul_left _ _)
      rw [h1, h2, sm_dvd_iff hs, sm_dvd_iff hs]
      constructor
      · intro z p hp6 k hk; exact (gm p hp6 k hk e e0).mp (z p hp6 k hk)
      · intro z p hp6 k hk; exact (gm p hp6 k hk e e0).mpr (z p hp6 k hk)
    have o0 : orb m f 0 0 = 0 := orb_zero (by decide) (by omega)
    have hb := hn.back
    rw [o0] at hb
    have d1 := (iff_ n hn.pos).mp hb
    have d2 := Int.le_of_dvd (by have := hn.pos; omega) d1
    rcases Int.lt_or_le m (n : Int) with c | c
    · exfalso
      refine hn.least m.toNat (by omega) (by omega) ?_
      rw [o0]
      exact (iff_ m.toNat (by omega)).mpr ⟨1, by rw [Int.toNat_of_nonneg (by omega), Int.mul_one]⟩
    · omega
end
end Vg
namespace Vg
open PySem PySem.Spec PyProof.Rows L2
/-! ### the radical, twice it where 4 divides -/
def radI (m : Int) : Int := (1 + (if m % 4 = 0 then 1 else 0)) * prd (pfL m)
theorem pfL_p6 {m : Int} : ∀ q ∈ pfL m, q ∈ P6 := fun q hq => (pfL_mem.mp hq).1
theorem prd_exact {p : Int} (hp : p ∈ P6) : ∀ {l : List Int}, (∀ q ∈ l, q ∈ P6) → l.Nodup → p ∈ l → Xp p 1 (prd l)
  | q :: r, hl, nd, h => by
    obtain ⟨n1, n2⟩ := List.nodup_cons.mp nd
    have hr := fun x hx => hl x (List.mem_cons_of_mem _ hx)
    rcases List.mem_cons.mp h with z | z
    · subst z
      have h1 : Xp p 1 p := ⟨by rw [Int.pow_succ, Int.pow_zero, Int.one_mul]; exact Int.dvd_refl p, fun z => by
        have := p6_bd hp
        rw [show (1 : Nat) + 1 = 2 from rfl, Int.pow_succ, Int.pow_succ, Int.pow_zero, Int.one_mul] at z
        have := Int.le_of_dvd (by omega) z
        have := Int.mul_le_mul_of_nonneg_left (show 2 ≤ p by omega) (show 0 ≤ p by omega)
        omega⟩
      have h2 : Xp p 0 (prd r) := ⟨by rw [Int.pow_zero]; exact Int.one_dvd _, fun z => by
        rw [Int.pow_succ, Int.pow_zero, Int.one_mul] at z
        exact n1 (prd_of hp hr z)⟩
      exact h1.mul hp h2
    · have h1 : Xp p 0 q := ⟨by rw [Int.pow_zero]; exact Int.one_dvd _, fun y => by
        rw [Int.pow_succ, Int.pow_zero, Int.one_mul] at y
        have := p6_dvd (hl q (List.mem_cons_self ..)) hp y
        exact n1 (this ▸ z)⟩
      have := h1.mul hp (prd_exact hp hr n2 z)
      rwa [Nat.zero_add] at this
theorem rad_iff {m : Int} (hm : 1 ≤ m) (z : Int) : radI m ∣ z ↔ ∀ p ∈ P6, p ∣ m → p ∣ z ∧ (p = 2 → 4 ∣ m → 4 ∣ z) := by
  have hP := prd_pos (pfL m) pfL_p6
  have hS := prd_sm (pfL m) pfL_p6
  have nd : (pfL m).Nodup := (show P6.Nodup by decide).filter _
  constructor
  · intro h p hp hpm
    have h1 : p ∣ prd (pfL m) := prd_dvd (pfL_mem.mpr ⟨hp, hpm⟩)
    refine ⟨Int.dvd_trans (Int.dvd_trans h1 (Int.dvd_mul_left _ _)) h, fun e h4 => ?_⟩
    subst e
    refine Int.dvd_trans ?_ h
    unfold radI
    rw [if_pos (Int.emod_eq_zero_of_dvd h4)]
    obtain ⟨t, ht⟩ := h1
    exact ⟨t, by rw [ht]; omega⟩
  · intro h
    have hs : Sm (radI m) := by
      unfold radI
      refine sm_mul ?_ hS
      split
      · exact sm_of (q := 2) (by decide)
      · exact .one
    refine (sm_dvd_iff hs z).mpr fun p hp k hk => ?_
    have p2 := p6_bd hp
    rcases Nat.eq_zero_or_pos k with k0 | k0
    · subst k0; rw [Int.pow_zero]; exact Int.one_dvd z
    · have hpr : p ∣ radI m := Int.dvd_trans ⟨p ^ (k - 1), by rw [Int.mul_comm, ← Int.pow_succ]; congr 1; omega⟩ hk
      have hpm : p ∣ m := by
        rcases p6_prime hp (show p ∣ (1 + (if m % 4 = 0 then 1 else 0)) * prd (pfL m) from hpr) with y | y
        · split at y
          · next h4 =>
            have e2 : p = 2 := p6_dvd (p := 2) (by decide) hp y
            rw [e2]
            exact Int.dvd_trans ⟨2, rfl⟩ (Int.dvd_of_emod_eq_zero h4)
          · have := Int.le_of_dvd (by decide) y; omega
        · exact (pfL_mem.mp (prd_of hp pfL_p6 y)).2
      obtain ⟨h1, h2⟩ := h p hp hpm
      have X := prd_exact hp pfL_p6 nd (pfL_mem.mpr ⟨hp, hpm⟩)
      unfold radI at hk
      split at hk
      · next h4 =>
        by_cases e2 : p = 2
        · subst e2
          have X2 : Xp 2 1 (1 + 1 : Int) := ⟨by decide, by decide⟩
          have k2 := ((X2.mul hp X).iff k).mp hk
          rcases Nat.lt_or_ge 1 k with y | y
          · have : k = 2 := by omega
            subst this
            exact h2 rfl (Int.dvd_of_emod_eq_zero h4)
          · have : k = 1 := by omega
            subst this
            rw [Int.pow_succ, Int.pow_zero, Int.one_mul]; exact h1
        · have X2 : Xp p 0 (1 + 1 : Int) := ⟨by rw [Int.pow_zero]; exact Int.one_dvd _, fun y => by
            rw [Int.pow_succ, Int.pow_zero, Int.one_mul] at y
            exact e2 (p6_dvd (p := 2) (by decide) hp y)⟩
          have k2 := ((X2.mul hp X).iff k).mp hk
          have : k = 1 := by omega
          subst this
          rw [Int.pow_succ, Int.pow_zero, Int.one_mul]; exact h1
      · rw [Int.add_zero, Int.one_mul] at hk
        have k2 := (X.iff k).mp hk
        have : k = 1 := by omega
        subst this
        rw [Int.pow_succ, Int.pow_zero, Int.one_mul]; exact h1
theorem prd_snoc : ∀ (l : List Int) (p : Int), prd (l ++ [p]) = prd l * p
  | [], p => by show p * 1 = 1 * p; omega
  | q :: r, p => by show q * prd (r ++ [p]) = q * prd r * p; rw [prd_snoc r p, Int.mul_assoc]
theorem prd_le13 : ∀ l : List Int, (∀ p ∈ l, p ∈ P6) → prd l ≤ 13 ^ l.length
  | [], _ => by decide
  | q :: r, h => by
    have h1 := prd_le13 r fun x hx => h x (List.mem_cons_of_mem _ hx)
    have h0 := prd_pos r fun x hx => h x (List.mem_cons_of_mem _ hx)
    have h2 := p6_bd (h q (List.mem_cons_self ..))
    show q * prd r ≤ 13 ^ (r.length + 1)
    rw [Int.pow_succ, Int.mul_comm]
    exact Int.mul_le_mul h1 h2.2 (by omega) (by have : (0 : Int) < 13 ^ r.length := Int.pow_pos (by decide); omega)
theorem prd_bd {l : List Int} (h : ∀ p ∈ l, p ∈ P6) (hl : l.length ≤ 6) : prd l ≤ 4826809 := by
  have h1 := prd_le13 l h
  have h2 : (13 : Int) ^ l.length ≤ 13 ^ 6 := by
    have : (13 : Nat) ^ l.length ≤ 13 ^ 6 := Nat.pow_le_pow_right (by decide) hl
    have e : ((13 ^ l.length : Nat) : Int) = 13 ^ l.length := by rw [Int.natCast_pow]; rfl
    have e6 : ((13 ^ 6 : Nat) : Int) = 13 ^ 6 := by decide
    omega
  have e : (13 : Int) ^ 6 = 4826809 := by decide
  omega
theorem radI_bd {m : Int} : 1 ≤ radI m ∧ radI m ≤ 10000000 := by
  have h1 := prd_pos (pfL m) pfL_p6
  have h2 := prd_bd (l := pfL m) pfL_p6 (pfL_len m)
  unfold radI
  split <;> omega
def sp_lrad : Sp := fun vs H Q _ => ∃ m : Int, vs = [.int m] ∧ 1 ≤ m ∧ ∀ H', Same H H' → Q (.int (radI m)) H'
theorem w_lrad {H : Hp} {Q : VK} {E : XK} {m : Int} (hm : 1 ≤ m) (h : ∀ H', Same H H' → Q (.int (radI m)) H') : sp_lrad [.int m] H Q E := ⟨m, rfl, hm, h⟩
theorem cyL_one {m : Int} {f : Mp} (hm : 2 ≤ m) (hf : Ok m f) {n : Nat} (hn : Per m f 0 m n) : cyL m f = [(m, 1)] ↔ (n : Int) = m := by
  have h0 : Per m f ((0 : Nat) : Int) m n := hn
  have pos := cntP_pos hm hf (show 0 < m.toNat by omega) h0
  constructor
  · intro e
    have h1 : n ∈ cyK m f := (cyK_mem hm hf).mpr pos
    have h2 : (((n : Nat) : Int), ((cntP m f n / n : Nat) : Int)) ∈ cyL m f := List.mem_map.mpr ⟨n, h1, rfl⟩
    rw [e, List.mem_singleton] at h2
    exact congrArg Prod.fst h2
  · intro e
    have le := cntP_le (m := m) (f := f) n
    have ge := cntP_ge hm hf pos
    have en : n = m.toNat := by omega
    have all : ∀ k, 0 < cntP m f k → k = n := fun k hk => by
      obtain ⟨x, hx, hp⟩ := cntP_ex hm hf hk
      obtain ⟨j, _, hj⟩ := full_hits hm hf (by decide) (by omega) hn e (x : Int) (by omega) (by omega)
      have h2 := per_orb hm hf (by decide) (by omega) hn j
      rw [hj] at h2
      exact hp.alone hm hf (Int.dvd_refl m) h2
    have ek : cyK m f = [n] := by
      refine asc_ext cyK_asc (List.pairwise_singleton _ _) fun z => ?_
      rw [cyK_mem hm hf, List.mem_singleton]
      exact ⟨all z, fun y => y ▸ pos⟩
    unfold cyL
    rw [ek]
    show [(((n : Nat) : Int), ((cntP m f n / n : Nat) : Int))] = [(m, 1)]
    have ec : cntP m f n = n := by omega
    rw [ec, Nat.div_self hn.pos, e]
    rfl
end Vg

set_option Elab.async false
set_option linter.all false
set_option maxRecDepth 100000
set_option maxHeartbeats 2000000
namespace Vg
open PySem PySem.Spec PyProof.Rows L2
/-! ### no more periods than divisors -/
section
variable {m : Int} {f : Mp}
def dlt (m : Int) (f : Mp) (x : Int) : Nat := Int.gcd ((f.1 - 1) * x + f.2) m
theorem back_geo (hm : 2 ≤ m) (hf : Ok m f) {x : Int} (x0 : 0 ≤ x) (x1 : x < m) (e : Nat) : Cg m (orb m f x e) (orb m f x 0) ↔ m / (dlt m f x : Int) ∣ geo f.1 e := by
  rw [orb_zero x0 x1]
  have h1 : Cg m (orb m f x e - x) (((f.1 - 1) * x + f.2) * geo f.1 e) := by
    have c1 : Cg m (orb m f x e) ((npw m f e).1 * x + (npw m f e).2) := Cg.mod m _
    obtain ⟨a, b⟩ := npw_geo hm hf e
    have c2 := c1.trans ((a.mulR x).add b)
    obtain ⟨t, ht⟩ := c2
    refine ⟨t, ?_⟩
    have g := geo_mul f.1 e
    have e1 : ((f.1 - 1) * x + f.2) * geo f.1 e = (f.1 ^ e - 1) * x + f.2 * geo f.1 e := by
      rw [Int.add_mul, ← g]
      congr 1
      rw [Int.mul_assoc, Int.mul_comm x, ← Int.mul_assoc]
    rw [e1, Int.sub_mul, Int.one_mul]
    omega
  have h2 : Cg m (orb m f x e) x ↔ m ∣ ((f.1 - 1) * x + f.2) * geo f.1 e := by
    constructor
    · intro z
      have := Int.dvd_sub (show m ∣ orb m f x e - x from z) h1
      rwa [show orb m f x e - x - (orb m f x e - x - ((f.1 - 1) * x + f.2) * geo f.1 e) = ((f.1 - 1) * x + f.2) * geo f.1 e by omega] at this
    · intro z
      have := Int.dvd_add h1 z
      rwa [show orb m f x e - x - ((f.1 - 1) * x + f.2) * geo f.1 e + ((f.1 - 1) * x + f.2) * geo f.1 e = orb m f x e - x by omega] at this
  rw [h2]
  unfold dlt
  have g1 := gcd_posI (a := (f.1 - 1) * x + f.2) (m := m) (by omega)
  have gm : ((Int.gcd ((f.1 - 1) * x + f.2) m : Nat) : Int) * (m / ((Int.gcd ((f.1 - 1) * x + f.2) m : Nat) : Int)) = m := Int.mul_ediv_cancel' (Int.gcd_dvd_right _ _)
  have gc : ((Int.gcd ((f.1 - 1) * x + f.2) m : Nat) : Int) * (((f.1 - 1) * x + f.2) / ((Int.gcd ((f.1 - 1) * x + f.2) m : Nat) : Int)) = (f.1 - 1) * x + f.2 := Int.mul_ediv_cancel' (Int.gcd_dvd_left _ _)
  have co := slv_gcd (m := m) (a := (f.1 - 1) * x + f.2) (by omega)
  generalize (f.1 - 1) * x + f.2 = c at *
  generalize hg : ((Int.gcd c m : Nat) : Int) = g at *
  generalize m / g = m' at *
  generalize c / g = c' at *
  constructor
  · intro z
    rw [← gm, ← gc, Int.mul_assoc] at z
    have := Int.dvd_of_mul_dvd_mul_left (show g ≠ 0 by omega) z
    rw [Int.mul_comm] at this
    exact dvd_co (by rw [Int.gcd_comm]; exact co) this
  · intro z
    rw [← gm, ← gc, Int.mul_assoc]
    exact Int.mul_dvd_mul_left g (Int.dvd_trans z (Int.dvd_mul_left _ _))
theorem per_dlt (hm : 2 ≤ m) (hf : Ok m f) {x y : Int} (x0 : 0 ≤ x) (x1 : x < m) (y0 : 0 ≤ y) (y1 : y < m) {n k : Nat} (hn : Per m f x m n) (hk : Per m f y m k) (e : dlt m f x = dlt m f y) : n = k := by
  have key : ∀ j, n ∣ j ↔ k ∣ j := fun j => by
    rw [← hn.dvd hm hf (Int.dvd_refl m), ← hk.dvd hm hf (Int.dvd_refl m), back_geo hm hf x0 x1, back_geo hm hf y0 y1, e]
  exact Nat.dvd_antisymm ((key k).mpr (Nat.dvd_refl k)) ((key n).mp (Nat.dvd_refl n))
theorem cyK_few (hm : 2 ≤ m) (h9 : m ≤ 1000000000) (hf : Ok m f) (hs : Sm m) : (cyK m f).length ≤ 3000 := by
  obtain ⟨ds, hd⟩ := dvs_all (n := m) (by omega) (by omega) hs 6 (Nat.le_refl 6)
  have hl := few_len9 (by omega) h9 hd
  have ch : ∀ n, n ∈ cyK m f → ∃ x : Nat, x < m.toNat ∧ Per m f (x : Int) m n := fun n hn => cntP_ex hm hf ((cyK_mem hm hf).mp hn)
  classical
  let g : Nat → Nat := fun n => if h : n ∈ cyK m f then dlt m f ((Classical.choose (ch n h) : Nat) : Int) else 0
  have gs : ∀ n (h : n ∈ cyK m f), g n = dlt m f ((Classical.choose (ch n h) : Nat) : Int) := fun n h => dif_pos h
  have nd : ((cyK m f).map g).Nodup := by
    unfold List.Nodup
    rw [List.pairwise_map]
    refine List.Pairwise.imp_of_mem (fun {a b} ha hb lt z => ?_) cyK_asc
    rw [gs a ha, gs b hb] at z
    have h1 := Classical.choose_spec (ch a ha)
    have h2 := Classical.choose_spec (ch b hb)
    have := per_dlt hm hf (by omega) (by omega) (by omega) (by omega) h1.2 h2.2 z
    omega
  have h3 := nat_nodup_len ((cyK m f).map g) (ds.map Int.toNat) nd fun x hx => by
    obtain ⟨n, hn, rfl⟩ := List.mem_map.mp hx
    rw [gs n hn]
    generalize ((Classical.choose (ch n hn) : Nat) : Int) = x
    have g1 := gcd_posI (a := (f.1 - 1) * x + f.2) (m := m) (by omega)
    refine List.mem_map.mpr ⟨((dlt m f x : Nat) : Int), (hd.iff _).mpr ⟨g1, Int.gcd_dvd_right _ _, ?_⟩, Int.toNat_natCast _⟩
    intro p hp
    cases hp
  rw [List.length_map, List.length_map] at h3
  omega
end
end Vg

set_option Elab.async false
set_option linter.all false
set_option maxRecDepth 100000
set_option maxHeartbeats 2000000
namespace Vg
open PySem PySem.Spec PyProof.Rows L2
/-! ### sums by keys, as a dict -/
def smG (κ ν : Nat → Nat) (xs : List Nat) (z : Nat) : Nat := (xs.map fun x => if κ x = z then ν x else 0).sum
theorem smG_snoc (κ ν : Nat → Nat) (xs : List Nat) (x z : Nat) : smG κ ν (xs ++ [x]) z = smG κ ν xs z + if κ x = z then ν x else 0 := by
  unfold smG
  rw [List.map_append, List.sum_append]
  simp
theorem smG_none {κ ν : Nat → Nat} {z : Nat} : ∀ {xs : List Nat}, (¬ ∃ x ∈ xs, κ x = z) → smG κ ν xs z = 0
  | [], _ => rfl
  | x :: xs, h => by
    unfold smG
    rw [List.map_cons, List.sum_cons, if_neg fun e => h ⟨x, List.mem_cons_self .., e⟩]
    have := smG_none (κ := κ) (ν := ν) (z := z) (xs := xs) fun ⟨q, hq, e⟩ => h ⟨q, List.mem_cons_of_mem _ hq, e⟩
    unfold smG at this
    omega
structure SmD (κ : Nat → Nat) (xs : List Nat) (zs : List Nat) : Prop where
  nd : zs.Nodup
  iff : ∀ z, z ∈ zs ↔ ∃ x ∈ xs, κ x = z
theorem SmD.step {κ ν : Nat → Nat} {xs zs : List Nat} (h : SmD κ xs zs) (x : Nat) :
    ∃ zs', SmD κ (xs ++ [x]) zs' ∧ zs'.length ≤ zs.length + 1 ∧
      putK (tabN zs (smG κ ν xs)) (Sum.inl ((κ x : Nat) : Int)) (V.int ((((if κ x ∈ zs then smG κ ν xs (κ x) else 0) + ν x : Nat)) : Int)) = tabN zs' (smG κ ν (xs ++ [x])) := by
  have mem : ∀ z, (∃ y ∈ xs ++ [x], κ y = z) ↔ (z ∈ zs ∨ z = κ x) := fun z => by
    rw [h.iff]
    constructor
    · rintro ⟨p, hp, e⟩
      rcases List.mem_append.mp hp with y | y
      · exact .inl ⟨p, y, e⟩
      · rw [List.mem_singleton.mp y] at e; exact .inr e.symm
    · rintro (⟨p, hp, e⟩ | e)
      · exact ⟨p, List.mem_append_left _ hp, e⟩
      · exact ⟨x, List.mem_append_right _ (List.mem_singleton.mpr rfl), e.symm⟩
  by_cases c : κ x ∈ zs
  · refine ⟨zs, ⟨h.nd, fun z => ?_⟩, Nat.le_succ _, ?_⟩
    · rw [mem]
      exact ⟨.inl, fun y => y.elim id fun e => e ▸ c⟩
    · rw [if_pos c, tabN_put c]
      refine tabN_cong fun y _ => ?_
      rw [smG_snoc]
      by_cases e : y = κ x
      · subst e; rw [if_pos rfl, if_pos rfl]
      · rw [if_neg e, if_neg fun z => e z.symm]; omega
  · refine ⟨zs ++ [κ x], ⟨?_, fun z => ?_⟩, by simp, ?_⟩
    · refine List.nodup_append.mpr ⟨h.nd, List.nodup_cons.mpr ⟨by simp, List.nodup_nil⟩, fun y hy w hw e => ?_⟩
      rw [List.mem_singleton.mp hw] at e
      exact c (e ▸ hy)
    · rw [mem, List.mem_append, List.mem_singleton]
    · have e0 : tabN zs (smG κ ν xs) = tabN zs (smG κ ν (xs ++ [x])) := tabN_cong fun y hy => by
        rw [smG_snoc, if_neg fun z => c (by rw [z]; exact hy)]; rfl
      have ev : ((if κ x ∈ zs then smG κ ν xs (κ x) else 0) + ν x) = smG κ ν (xs ++ [x]) (κ x) := by
        rw [if_neg c, smG_snoc, if_pos rfl, smG_none fun z => c ((h.iff _).mpr z)]
      rw [ev, e0]
      exact tabN_snoc c
theorem sum_mul_left {α : Type} (z : Nat) {g h : α → Nat} : ∀ {l : List α}, (∀ x ∈ l, g x = z * h x) → (l.map g).sum = z * (l.map h).sum
  | [], _ => by simp
  | x :: l, hh => by
    rw [List.map_cons, List.sum_cons, List.map_cons, List.sum_cons, sum_mul_left z fun y hy => hh y (List.mem_cons_of_mem _ hy), hh x (List.mem_cons_self ..), Nat.mul_add]
section
variable {m : Int} {f : Mp}
/-- a power: where the cycles go -/
def spK (k n : Nat) : Nat := n / Nat.gcd n k
noncomputable def spN (m : Int) (f : Mp) (k n : Nat) : Nat := cntP m f n / n * Nat.gcd n k
theorem cntP_pow (hm : 2 ≤ m) (hf : Ok m f) {k : Nat} (z : Nat) : cntP m (npw m f k) z = z * smG (spK k) (spN m f k) (cyK m f) z := by
  have hg := npw_ok hm hf k
  have per : ∀ i, perK m (npw m f k) i = spK k (perK m f i) := fun i => per_pow hm hf (perK_per hm hf i) (perK_per hm hg i)
  unfold cntP smG
  rw [cntN_sum (cyK m f) (cyK_asc.imp fun l => Nat.ne_of_lt l) (key := perK m f) fun i hi _ => (cyK_mem hm hf).mpr (cntN_pos hi (decide_eq_true rfl))]
  refine sum_mul_left z fun n hn => ?_
  obtain ⟨x, _, hp⟩ := cntP_ex hm hf ((cyK_mem hm hf).mp hn)
  have n0 := hp.pos
  by_cases c : spK k n = z
  · rw [if_pos c]
    have e1 : cntN m.toNat (fun i => decide (perK m (npw m f k) i = z) && decide (perK m f i = n)) = cntP m f n := by
      unfold cntP
      refine cntN_cong fun i _ => ?_
      rw [per]
      by_cases c2 : perK m f i = n
      · rw [c2, decide_eq_true c]; rfl
      · rw [decide_eq_false c2, Bool.and_false]
    rw [e1]
    have g0 : 0 < Nat.gcd n k := Nat.gcd_pos_of_pos_left k n0
    have h1 : cntP m f n / n * n = cntP m f n := Nat.div_mul_cancel (cntP_dvd hm hf n)
    have h2 : n / Nat.gcd n k * Nat.gcd n k = n := Nat.div_mul_cancel (Nat.gcd_dvd_left n k)
    have c' : n / Nat.gcd n k = z := c
    rw [c'] at h2
    unfold spN
    generalize Nat.gcd n k = g at *
    generalize cntP m f n / n = a at *
    rw [← h1, ← h2]
    simp only [Nat.mul_assoc, Nat.mul_comm, Nat.mul_left_comm]
  · rw [if_neg c, Nat.mul_zero]
    refine cntN_none fun i _ => ?_
    rw [per]
    by_cases c2 : perK m f i = n
    · rw [c2, decide_eq_false c]; rfl
    · rw [decide_eq_false c2, Bool.and_false]
theorem cyL_pow (hm : 2 ≤ m) (hf : Ok m f) (k : Nat) : cyL m (npw m f k) = (cyK m (npw m f k)).map fun n => (((n : Nat) : Int), ((smG (spK k) (spN m f k) (cyK m f) n : Nat) : Int)) := by
  unfold cyL
  refine List.map_congr_left fun n hn => ?_
  obtain ⟨x, _, hp⟩ := cntP_ex hm (npw_ok hm hf k) ((cyK_mem hm (npw_ok hm hf k)).mp hn)
  rw [cntP_pow hm hf, Nat.mul_div_cancel_left _ hp.pos]
theorem spD_iff (hm : 2 ≤ m) (hf : Ok m f) {k : Nat} (hk : 0 < k) {zs : List Nat} (h : SmD (spK k) (cyK m f) zs) (z : Nat) : z ∈ zs ↔ 0 < cntP m (npw m f k) z := by
  have hg := npw_ok hm hf k
  rw [h.iff]
  constructor
  · rintro ⟨n, hn, e⟩
    obtain ⟨x, hx, hp⟩ := cntP_ex hm hf ((cyK_mem hm hf).mp hn)
    have := per_pow hm hf hp (perK_per hm hg x)
    refine cntN_pos hx (decide_eq_true ?_)
    rw [this]; exact e
  · intro hz
    obtain ⟨x, hx, hp⟩ := cntP_ex hm hg hz
    have h1 := perK_per hm hf x
    exact ⟨perK m f x, (cyK_mem hm hf).mpr (cntP_pos hm hf hx h1), (per_pow hm hf h1 hp).symm⟩
/-- the inverse has the same cycles -/
theorem cyL_inv {i : Mp} (hm : 2 ≤ m) (hf : Ok m f) (hi : IsInv m f i) : cyL m i = cyL m f := by
  have back : ∀ {f i : Mp}, Ok m f → IsInv m f i → ∀ (x : Int) (e : Nat), 0 ≤ x → x < m → orb m f x e = x → orb m i x e = x := fun {f i} hf hi x e x0 x1 h => by
    have hv := npw_inv hm hf hi e
    have h1 : img m (npw m i e) (img m (npw m f e) x) = x := by
      rw [← img_cmp, hv.2.1]
      show (1 * x + 0) % m = x
      rw [Int.one_mul, Int.add_zero, Int.emod_eq_of_lt x0 x1]
    have h2 : img m (npw m f e) x = x := h
    rw [h2] at h1
    exact h1
  have hi' : IsInv m i f := ⟨hf, hi.2.2, hi.2.1⟩
  refine cyL_congr rfl fun n => ?_
  unfold cntP
  refine cntN_cong fun x hx => ?_
  have p1 := perK_per hm hi.1 x
  have p2 := perK_per hm hf x
  have x0 : (0 : Int) ≤ (x : Int) := by omega
  have x1 : (x : Int) < m := by omega
  have key : ∀ e, perK m i x ∣ e ↔ perK m f x ∣ e := fun e => by
    rw [← per_ret hm hi.1 x0 x1 p1, ← per_ret hm hf x0 x1 p2]
    exact ⟨back hi.1 hi' x e x0 x1, back hf hi x e x0 x1⟩
  have : perK m i x = perK m f x := Nat.dvd_antisymm ((key _).mpr (Nat.dvd_refl _)) ((key _).mp (Nat.dvd_refl _))
  rw [this]
theorem sum_all (hm : 2 ≤ m) (hf : Ok m f) : ((cyL m f).map fun p => p.1 * p.2).sum = m := by
  have h := cntN_sum (q := m.toNat) (p := fun _ => true) (key := perK m f) (cyK m f) (cyK_asc.imp fun l => Nat.ne_of_lt l) fun i hi _ => (cyK_mem hm hf).mpr (cntN_pos hi (decide_eq_true rfl))
  rw [cntN_all] at h
  have e : (cyL m f).map (fun p => p.1 * p.2) = (cyK m f).map fun n => ((cntP m f n : Nat) : Int) := by
    unfold cyL
    rw [List.map_map]
    refine List.map_congr_left fun n _ => ?_
    show ((n : Nat) : Int) * ((cntP m f n / n : Nat) : Int) = _
    rw [← Int.natCast_mul, Nat.mul_div_cancel' (cntP_dvd hm hf n)]
  rw [e, sum_ints]
  have e2 : ((cyK m f).map (cntP m f)).sum = m.toNat := by
    rw [h]
    refine congrArg List.sum (List.map_congr_left fun n _ => ?_)
    unfold cntP
    exact cntN_cong fun i _ => by simp
  rw [e2]
  omega
/-- the least common multiple of the lengths -/
def lcmK : List Nat → Nat
  | [] => 1
  | n :: r => Nat.lcm n (lcmK r)
theorem lcmK_dvd {n : Nat} : ∀ {ks : List Nat}, (∀ k ∈ ks, k ∣ n) → lcmK ks ∣ n
  | [], _ => Nat.one_dvd n
  | k :: r, h => Nat.lcm_dvd (h k (List.mem_cons_self ..)) (lcmK_dvd fun d hd => h d (List.mem_cons_of_mem _ hd))
theorem dvd_lcmK {k : Nat} : ∀ {ks : List Nat}, k ∈ ks → k ∣ lcmK ks
  | d :: r, h => by
    rcases List.mem_cons.mp h with z | z
    · rw [z]; exact Nat.dvd_lcm_left _ _
    · exact Nat.dvd_trans (dvd_lcmK z) (Nat.dvd_lcm_right _ _)
theorem lcmK_snoc : ∀ (ks : List Nat) (k : Nat), lcmK (ks ++ [k]) = Nat.lcm (lcmK ks) k
  | [], k => by show Nat.lcm k 1 = Nat.lcm 1 k; exact Nat.lcm_comm _ _
  | d :: r, k => by
    show Nat.lcm d (lcmK (r ++ [k])) = Nat.lcm (Nat.lcm d (lcmK r)) k
    rw [lcmK_snoc r k, Nat.lcm_assoc]
theorem ord_cyK (hm : 2 ≤ m) (hf : Ok m f) {n : Nat} (hn : Ord m f n) : lcmK (cyK m f) = n ∧ ∀ j, lcmK ((cyK m f).take j) ∣ n := by
  have each : ∀ k ∈ cyK m f, k ∣ n := fun k hk => by
    obtain ⟨x, _, hp⟩ := cntP_ex hm hf ((cyK_mem hm hf).mp hk)
    exact hn.per hm hf hp
  refine ⟨Nat.dvd_antisymm (lcmK_dvd each) ?_, fun j => lcmK_dvd fun k hk => each k (List.mem_of_mem_take hk)⟩
  have a0 : Per m f ((0 : Nat) : Int) m (perK m f 0) := perK_per hm hf 0
  have a1 : Per m f ((1 : Nat) : Int) m (perK m f 1) := perK_per hm hf 1
  have e := hn.alone (ord_lcm hm hf a0 a1)
  have in_ : ∀ i, i < m.toNat → perK m f i ∈ cyK m f := fun i hi => (cyK_mem hm hf).mpr (cntN_pos hi (decide_eq_true rfl))
  rw [e]
  exact Nat.lcm_dvd (dvd_lcmK (in_ 0 (by omega))) (dvd_lcmK (in_ 1 (by omega)))
theorem cnt_fix (hm : 2 ≤ m) (hf : Ok m f) : cntP m f 1 = cntN m.toNat (fun i => decide (img m f (i : Int) = (i : Int))) := by
  unfold cntP
  refine cntN_cong fun i hi => ?_
  have p := perK_per hm hf i
  have h := per_ret hm hf (x := (i : Int)) (by omega) (by omega) p 1
  have e : orb m f (i : Int) 1 = img m f (i : Int) := by rw [orb_succ, orb_zero (by omega) (by omega)]
  rw [e] at h
  refine decide_eq_decide.mpr ?_
  rw [h]
  exact ⟨fun z => by rw [z]; exact Nat.dvd_refl 1, fun z => Nat.dvd_one.mp z⟩
theorem single_eq (hm : 2 ≤ m) (hf : Ok m f) : ((cyL m f).filter fun p => decide (p.1 = 1)).map (fun p => p.2) = if 0 < cntP m f 1 then [((cntP m f 1 : Nat) : Int)] else [] := by
  have key : ∀ ks : List Nat, ks.Pairwise (· < ·) → ((ks.map fun n => (((n : Nat) : Int), ((cntP m f n / n : Nat) : Int))).filter fun p => decide (p.1 = 1)).map (fun p => p.2) = if 1 ∈ ks then [((cntP m f 1 : Nat) : Int)] else [] := by
    intro ks
    induction ks with
    | nil => intro _; rfl
    | cons n ks ih =>
      intro h
      obtain ⟨h1, h2⟩ := List.pairwise_cons.mp h
      have ih := ih h2
      rw [List.map_cons, List.filter_cons]
      by_cases c : n = 1
      · subst c
        have no : ¬ 1 ∈ ks := fun z => by have := h1 1 z; omega
        rw [if_neg no] at ih
        rw [if_pos (by rfl), List.map_cons, ih, if_pos (List.mem_cons_self ..), Nat.div_one]
      · rw [if_neg (by simp; omega), ih]
        have : 1 ∈ n :: ks ↔ 1 ∈ ks := by
          rw [List.mem_cons]
          exact ⟨fun z => z.elim (fun y => absurd y.symm c) id, .inr⟩
        by_cases c2 : 1 ∈ ks
        · rw [if_pos c2, if_pos (this.mpr c2)]
        · rw [if_neg c2, if_neg fun z => c2 (this.mp z)]
  unfold cyL
  rw [key _ cyK_asc]
  by_cases c : 0 < cntP m f 1
  · rw [if_pos c, if_pos ((cyK_mem hm hf).mpr c)]
  · rw [if_neg c, if_neg fun z => c ((cyK_mem hm hf).mp z)]
end
/-! ### a comprehension over a list of pairs, whose items are ints -/
theorem lc_prs {K : PySem.W.Frag} {l : Addr} {rs : List Addr} {fs : List Mp} {i j : Nat} {tt : TT} {te : TE} {vs : List Nat} {σ : L2.St} {H0 : Hp} {D : Addr} {Qd : Hp → Prop} (p : Mp → Bool) (F : Mp → Int)
    (el : H0 l = some (.lst (rs.map V.ref))) (hm : MsL H0 rs fs) (hD : H0 D = none) (hn : fs.length ≤ 100000)
    (hw : ∀ v w, wipe (((wipe σ vs).set i (some v)).set j (some w)) vs = wipe σ vs)
    (ht : ∀ f ∈ fs, ∀ H' (R : Bool → Hp → Prop), Same H0 H' → R (p f) H' → tt (((wipe σ vs).set i (some (.int f.1))).set j (some (.int f.2))) H' R)
    (hs : ∀ f ∈ fs, ∀ H' (R : VK), Same H0 H' → R (.int (F f)) H' → te (((wipe σ vs).set i (some (.int f.1))).set j (some (.int f.2))) H' R)
    (hd : ∀ H', Same H0 H' → H' D = some (.lst (((fs.filter p).map F).map V.int)) → Qd H') :
    ∃ W : Nat → Nat → Hp → Prop, (∃ m, W 0 m (upd H0 D (.lst []))) ∧ ∀ a m H', W a m H' →
      ((Itl K l).stop a H' ∧ Qd H') ∨ ((Itl K l).go a H' ∧ ∃ Nx : Hp → Prop, (∀ H2, Nx H2 → ∃ m', m' < m ∧ W (a + 1) m' H2) ∧ ∀ x H2, (Itl K l).yld a H' x H2 → gTup K 2 (gCons (gName i) (gCons (gName j) gNil)) x (wipe σ vs) H2 fun σ2 H2 => wipe σ2 vs = wipe σ vs ∧ tt σ2 H2 fun b H3 =>
        if b = true then te σ2 H3 fun y H4 => ∃ acc, H4 D = some (.lst acc) ∧ acc.length < sizeLine ∧ Nx (upd H4 D (.lst (acc ++ [y]))) else Nx H3) := by
  refine lc_list (K := K) (a := l) (xs := rs.map V.ref) (fun a H' => Same H0 H' ∧ H' D = some (.lst ((((fs.take a).filter p).map F).map V.int))) ?_ ?_ ?_ ?_
  · exact ⟨sm_new hD, upd_same⟩
  · rintro a H' _ ⟨sm, _⟩
    exact SqL.of (sm _ _ el)
  · rintro a x H' ha ⟨sm, eD⟩
    obtain ⟨q, rfl, hq⟩ : ∃ q, x = V.ref q ∧ rs[a]? = some q := by
      rw [List.getElem?_map] at ha
      cases hx : rs[a]? with
      | none => rw [hx] at ha; cases ha
      | some z => rw [hx] at ha; exact ⟨z, (Option.some.inj ha).symm, rfl⟩
    obtain ⟨f, hf, ef⟩ := hm.at_ hq
    have hal := (List.getElem?_eq_some_iff.mp hf).1
    have fm := List.mem_of_getElem? hf
    have tk : fs.take (a + 1) = fs.take a ++ [f] := by rw [List.take_add_one, hf]; rfl
    refine ⟨q, _, rfl, SqT.of (sm _ _ ef), rfl, ?_⟩
    refine ⟨_, _, rfl, ?_⟩
    refine ⟨_, _, rfl, ?_⟩
    refine ⟨rfl, ?_⟩
    refine ⟨hw _ _, ?_⟩
    refine ht f fm H' _ sm ?_
    cases hp : p f with
    | true =>
      rw [if_pos rfl]
      refine hs f fm H' _ sm ⟨_, eD, ?_, sm_own sm hD, ?_⟩
      · rw [List.length_map, List.length_map]
        refine Nat.lt_of_le_of_lt (List.length_filter_le _ _) (Nat.lt_of_lt_of_le (show (fs.take a).length < 100001 by rw [List.length_take]; omega) (by decide))
      · rw [upd_same, tk, List.filter_append, List.map_append, List.map_append]
        simp [hp]
    | false =>
      rw [if_neg (by decide)]
      refine ⟨sm, ?_⟩
      rw [eD, tk, List.filter_append]
      simp [hp]
  · rintro H' ⟨sm, eD⟩
    rw [List.length_map, hm.len, List.take_length] at eD
    exact hd H' sm eD
theorem notInS_ {X : Cx} {K : PySem.W.Frag} (h : X.K = K) : OpR X (compareOp .NotIn) (rIn K true) := h ▸ op_notIn_seq
theorem w_notInL {K K' : PySem.W.Frag} {H : Hp} {Q : VK} {y : Int} {a : Addr} {ns : List Int} (e : SqL K H a (ns.map V.int)) (h : Q (.bl (!decide (y ∈ ns))) H) (hk : K' = K := by rfl) : rIn K' true (.int y) (.ref a) H Q := by
  subst hk
  refine ⟨a, _, rfl, .inl e, rfl, flat_ints ns, ?_⟩
  rw [if_pos rfl, inV_int]
  exact h
/-- the told list, taken apart by a power -/
def sp_lsplit : Sp := fun vs H Q _ => ∃ (m : Int) (f : Mp) (k : Nat) (l : Addr) (rs : List Addr), vs = [.ref l, .int (k : Int)] ∧ 2 ≤ m ∧ m ≤ 1000000000 ∧ Ok m f ∧ Sm m ∧ 0 < k ∧ k ≤ 1000000000 ∧ H l = some (.lst (rs.map V.ref)) ∧ MsL H rs (cyL m f) ∧
  ∀ H' q us, Same H H' → H' q = some (.lst (us.map V.ref)) → MsL H' us (cyL m (npw m f k)) → Q (.ref q) H'
theorem w_lsplit {H : Hp} {Q : VK} {E : XK} {m : Int} {f : Mp} {k : Nat} {l : Addr} {rs : List Addr} (hm : 2 ≤ m) (h9 : m ≤ 1000000000) (hf : Ok m f) (hs : Sm m) (k0 : 0 < k) (k9 : k ≤ 1000000000) (el : H l = some (.lst (rs.map V.ref))) (hr : MsL H rs (cyL m f))
    (h : ∀ H' q us, Same H H' → H' q = some (.lst (us.map V.ref)) → MsL H' us (cyL m (npw m f k)) → Q (.ref q) H') : sp_lsplit [.ref l, .int (k : Int)] H Q E := ⟨m, f, k, l, rs, rfl, hm, h9, hf, hs, k0, k9, el, hr, h⟩
/-- what fixed_points gives: None, or a pair from which the number of kept numbers is seen -/
def FxV (m : Int) (f : Mp) (H : Hp) (v : V) : Prop := (v = .non ∧ cntP m f 1 = 0) ∨ ∃ (q : Addr) (s t : Int), v = .ref q ∧ H q = some (.tup [.int s, .int t]) ∧ 1 ≤ t ∧ t ≤ m ∧ m / t = ((cntP m f 1 : Nat) : Int) ∧ 0 < cntP m f 1
theorem FxV.same {m : Int} {f : Mp} {H H' : Hp} {v : V} (h : FxV m f H v) (s : Same H H') : FxV m f H' v := by
  rcases h with h | ⟨q, a, t, e1, e2, e3⟩
  · exact .inl h
  · exact .inr ⟨q, a, t, e1, s _ _ e2, e3⟩
/-- [x for x in xs if ..], ints; the test makes objects of its own -/
theorem lc_fltS {K : PySem.W.Frag} {a : Addr} {ns : List Int} {j : Nat} {tt : TT} {te : TE} {vs : List Nat} {σ : L2.St} {H0 : Hp} {D : Addr} {Qd : Hp → Prop} (p : Int → Bool)
    (ha : SqL K H0 a (ns.map V.int)) (hD : H0 D = none) (hn : ns.length ≤ 10000000) (hw : ∀ v, wipe ((wipe σ vs).set j (some v)) vs = wipe σ vs)
    (ht : ∀ z ∈ ns, ∀ H' (R : Bool → Hp → Prop), Same H0 H' → (∀ H2, Same H' H2 → R (p z) H2) → tt ((wipe σ vs).set j (some (.int z))) H' R)
    (hs : ∀ z H' (R : VK), R (.int z) H' → te ((wipe σ vs).set j (some (.int z))) H' R)
    (hd : ∀ H', Same H0 H' → H' D = some (.lst ((ns.filter p).map V.int)) → Qd H') :
    ∃ W : Nat → Nat → Hp → Prop, (∃ m, W 0 m (upd H0 D (.lst []))) ∧ ∀ i m H', W i m H' →
      ((Itl K a).stop i H' ∧ Qd H') ∨ ((Itl K a).go i H' ∧ ∃ Nx : Hp → Prop, (∀ H2, Nx H2 → ∃ m', m' < m ∧ W (i + 1) m' H2) ∧ ∀ x H2, (Itl K a).yld i H' x H2 → gName j x (wipe σ vs) H2 fun σ2 H2 => wipe σ2 vs = wipe σ vs ∧ tt σ2 H2 fun b H3 =>
        if b = true then te σ2 H3 fun y H4 => ∃ acc, H4 D = some (.lst acc) ∧ acc.length < sizeLine ∧ Nx (upd H4 D (.lst (acc ++ [y]))) else Nx H3) := by
  refine lc_list (K := K) (a := a) (xs := ns.map V.int) (fun i H' => Same H0 H' ∧ H' D = some (.lst (((ns.take i).filter p).map V.int))) ?_ ?_ ?_ ?_
  · exact ⟨sm_new hD, upd_same⟩
  · rintro i H' _ ⟨sm, _⟩
    exact sm.seq ha
  · rintro i x H' hi ⟨sm, eD⟩
    obtain ⟨z, rfl, hz⟩ : ∃ z, x = V.int z ∧ ns[i]? = some z := by
      rw [List.getElem?_map] at hi
      cases hx : ns[i]? with
      | none => rw [hx] at hi; cases hi
      | some z => rw [hx] at hi; exact ⟨z, (Option.some.inj hi).symm, rfl⟩
    have hil := (List.getElem?_eq_some_iff.mp hz).1
    refine ⟨hw _, ?_⟩
    refine ht z (List.mem_of_getElem? hz) H' _ sm fun H2 s2 => ?_
    have tk : ns.take (i + 1) = ns.take i ++ [z] := by rw [List.take_add_one, hz]; rfl
    cases hp : p z with
    | true =>
      rw [if_pos rfl]
      refine hs z H2 _ ⟨_, s2 _ _ eD, ?_, sm_own (sm.trans s2) hD, ?_⟩
      · rw [List.length_map]
        refine Nat.lt_of_le_of_lt (List.length_filter_le _ _) (Nat.lt_of_lt_of_le (show (ns.take i).length < 10000001 by rw [List.length_take]; omega) (by decide))
      · rw [upd_same, tk, List.filter_append, List.map_append]
        simp [hp]
    | false =>
      rw [if_neg (by decide)]
      refine ⟨sm.trans s2, ?_⟩
      rw [s2 _ _ eD, tk, List.filter_append]
      simp [hp]
  · rintro H' ⟨sm, eD⟩
    rw [List.length_map, List.take_length] at eD
    exact hd H' sm eD
end Vg

set_option Elab.async false
set_option linter.all false
set_option maxRecDepth 100000
set_option maxHeartbeats 4000000
/-! Own layer: an error that a suite has caught stays known behind the suite. -/
namespace Vg
open PySem PySem.Spec PyProof.Rows L2
/-- at a: a caught error of the class cls, d its dict -/
def exk (a : Addr) (cls : Value) (d : Option Addr) : HO :=
  .ext fun h => ∃ (ob : Obj) (fv : Array Value), h.get? a = some ob ∧ Zc cls d ob ∧ ob.data = .fields fv
section
variable {X : Cx} {pins : List (Addr × Obj)} {σ : L2.St} {H : Hp} {s : Shared}
theorem exk_ok {P : Program} {w : World} {a : Addr} {cls : Value} {d : Option Addr} {h : Heap} {ob : Obj} {fv : Array Value}
    (he : h.get? a = some ob) (hz : Zc cls d ob) (hd : ob.data = .fields fv) : ObjOk P w H h a (exk a cls d) :=
  ⟨⟨ob, fv, he, hz, hd⟩, ⟨ob, he⟩, fun _ _ ⟨ob, fv, h1, h2, h3⟩ k => ⟨ob, fv, k ob h1, h2, h3⟩⟩
/-- an object that no one wrote down is written down -/
theorem inv_track {a : Addr} {cls : Value} {d : Option Addr} {ob : Obj} {fv : Array Value} (I : Inv X pins σ H s)
    (he : s.heap.get? a = some ob) (hz : Zc cls d ob) (hd : ob.data = .fields fv) (na : H a = none)
    (n0 : ∀ o, X.s_0.heap.get? a = some o → a ∈ X.ex) (nL : a ≠ X.env.locals) (np : ∀ p ∈ X.pn ++ pins, p.1 ≠ a) :
    Inv X pins σ (upd H a (exk a cls d)) s := by
  have up : ∀ b o, H b = some o → upd H a (exk a cls d) b = some o := fun b o e => sm_new na b o e
  have B := I.base
  refine ⟨I.ok, I.os, I.bare, ⟨B.keep, B.slot, ?_, B.there, ?_, ?_, ?_⟩, I.loc, I.cell, ?_, ?_, ?_, ?_, I.len⟩
  · intro b o e n hx
    have nb : b ≠ a := by
      rintro rfl
      exact hx (n0 o e)
    exact (upd_ne nb).trans (B.free b o e n hx)
  · exact fun b xs e => up _ _ (B.tups b xs e)
  · exact fun b o u e => up _ _ (B.frzs b o u e)
  · intro b ps e
    obtain ⟨m, q⟩ := B.tbls b ps e
    exact ⟨m, up _ _ q⟩
  · exact (upd_ne nL.symm).trans I.free
  · intro x c e
    have nc : c ≠ a := by
      rintro rfl
      obtain ⟨v, o, ho, hc⟩ := I.cell x c e
      rw [he] at ho
      cases ho
      rw [hd] at hc
      cases hc
    exact (upd_ne nc).trans (I.freeC x c e)
  · intro p hp
    obtain ⟨q1, q2, q3⟩ := I.pin p hp
    exact ⟨q1, (upd_ne (np p hp)).trans q2, q3⟩
  · intro b u e
    by_cases hb : b = a
    · subst hb
      rw [upd_same] at e
      cases e
      exact exk_ok he hz hd
    · rw [upd_ne hb] at e
      exact (I.hok b u e).stay (fun _ _ _ q => q) (fun c q => up _ _ q) fun c xs q => up _ _ q
/-- into a suite, and out of it -/
theorem inv_suite (I : Inv X pins σ H s) (a : Addr) : Inv (X.suite a (X.pn ++ pins)) [] σ H s :=
  ⟨I.ok.suite _ _, I.os, I.bare, I.base, I.loc, I.cell, I.free, I.freeC, fun p hp => I.pin p (by simpa using hp), I.hok, I.len⟩
theorem inv_unsuite {a : Addr} {pn' : List (Addr × Obj)} (I : Inv (X.suite a (X.pn ++ pins)) pn' σ H s) (ok : X.Ok) : Inv X pins σ H s :=
  ⟨ok, I.os, I.bare, I.base, I.loc, I.cell, I.free, I.freeC, fun p hp => I.pin p (List.mem_append_left _ hp), I.hok, I.len⟩
end
/-! ### try .. except X as n: what is caught stays known -/
/-- the suite's ends: n is gone -/
def endsK (i : Nat) (D : Ends) : Ends :=
  { nx := fun σ H => D.nx (σ.set i none) H, rt := D.rt, bk := fun σ H => D.bk (σ.set i none) H, ct := fun σ H => D.ct (σ.set i none) H }
def wAsK (K : PySem.W.Frag) (c : Value) (i : Nat) (ts : Addr → TS) (Wout : WX) (D : Ends) : WX := fun cls d σ H =>
  ∃ b, PySem.W.exmOne K cls c = some b ∧
    (b = true → ∀ a, H a = none → ts a (endsK i D) (σ.set i (some (.ref a))) (upd H a (exk a cls d))) ∧ (b = false → Wout cls d σ H)
section
variable {X : Cx} {x n : Str} {c : Value} {i : Nat} {body suite : List Stmt} {b₀ : Stmt} {np pos pos' : Pos} {tb : WX → TS} {ts : Addr → TS} {Wout : WX}
theorem ps_try_k (hs : X.stack = X.env :: X.outer) (hf : X.env.frame = some X.env.locals) (hN : X.N.Nodup) (hi : X.N[i]? = some n)
    (hln : X.env.kindOf n = some .local) (hc : Names X x c) (tk : Takes X Wout)
    (hb : ∀ (W : WX) (pn : List (Addr × Obj)) (xe : Value → Shared → Prop), Takes (X.tr pn xe) W →
      PassesOwn (model X.prog X.w) X.A X.env xe → PSs (X.tr pn xe) body (tb W))
    (hsu : ∀ (a : Addr) (pn : List (Addr × Obj)), PSs (X.suite a pn) (b₀ :: suite) (ts a)) :
    PS X (.Try body [.ExceptHandler (some (.Name x np)) (some n) (b₀ :: suite) pos'] [] [] pos)
      (fun D σ H => tb (wAsK X.K c i ts Wout D) D σ H) := by
  constructor
  intro pins s σ H D I h
  have ok := I.ok
  have hst : X.A.frames = some (X.env :: X.outer) := by rw [ok.frames, hs]
  refine wpAny_Try_except ?_
  have run := fun tk2 => (hb (wAsK X.K c i ts Wout D) (X.pn ++ pins)
    (fun e t1 => wpAny (model X.prog X.w) X.A (noteFrame e X.env)
      (fun _ t2 => wpAny (model X.prog X.w) X.A (setFlight e none)
        (fun _ t3 => wpAny (model X.prog X.w) X.A
          (handleBy e X.env [.ExceptHandler (some (.Name x np)) (some n) (b₀ :: suite) pos']) (SP X pins D) X.xe t3) X.xe t2) X.xe t1)
    tk2 PassesOwn.looking).run [] s σ H D (I.toTry _) h
  refine wpAny_mono (run ?cat) (fun fl t1 q => ?_) (fun _ _ z => z)
  · rintro u t ⟨a, B, sI, pins1, σ1, H1, cls, d, rfl, J1, nb, up, sky, na, os, ag, b, hb1, hyes, hno⟩
    have J : Inv X pins σ1 H1 sI := J1.ofTry ok
    rw [show (X.tr (X.pn ++ pins) _).stack = X.env :: X.outer from hs] at sky
    show wpAny (model X.prog X.w) X.A (noteFrame (.ref a) X.env) _ _ _
    refine Sky.land Zc.steady hst hf sky fun h3 fl3 up3 => ?_
    have J3 : Inv X pins σ1 H1 { t with heap := h3 } := J.landed nb fl3.1 (up.trans up3) os ag
    obtain ⟨ob3, fv3, he3, hz3, hd3⟩ := fl3.there
    -- the error is none of the frames, and new
    have nfr : a ∉ frs (X.env :: X.outer) := by
      intro hm
      obtain ⟨_, o', e', hnf⟩ := fl3.2.2.1.mem hm
      rw [he3] at e'
      cases e'
      exact hnf _ hd3
    have nL : a ≠ X.env.locals := by
      intro z
      exact nfr (List.mem_filterMap.mpr ⟨X.env, List.mem_cons_self, by rw [hf, z]⟩)
    have nI : sI.heap.get? a = none := by
      cases e : sI.heap.get? a with
      | none => rfl
      | some o =>
        have z := nb a o e (by rw [show (X.tr (X.pn ++ pins) _).stack = X.env :: X.outer from hs]; exact nfr)
        rw [fl3.2.1] at z
        cases z
    have n0 : ∀ o, X.s_0.heap.get? a = some o → a ∈ X.ex := by
      intro o e
      by_cases hx : a ∈ X.ex
      · exact hx
      · obtain ⟨o', q⟩ := J.base.there a o e hx
        rw [nI] at q
        cases q
    have npin : ∀ p ∈ X.pn ++ pins, p.1 ≠ a := by
      rintro p hp rfl
      have z := (J.pin p hp).1
      rw [nI] at z
      cases z
    have S3 := inv_suite J3 a
    refine wpAny_handleBy_cons (codeAny_handlers_test ?_) (by intro q; cases q)
    have LT : PySem.W.Looks (model X.prog X.w) h3 (typeOf (.ref a)) cls := by
      intro A Q E s k q
      exact wpAny_typeOf_ref (k _ _ he3) (by rw [hz3.1]; exact q)
    have LM := PySem.W.exm_one (M := model X.prog X.w) J3.kIn LT hb1
    have test : ∀ {Q : Value → Shared → Prop} {E : Value → Shared → Prop}, Q c { t with heap := h3 } →
        wpAny (model X.prog X.w) (X.A.mark (some (.ref a))) (eval (.Name x np) X.env) Q E { t with heap := h3 } := by
      intro Q E q
      obtain ⟨hg, hdbg, hm | ⟨hm, hv, hnn⟩⟩ := hc
      · exact ld_glob (X := X.suite a (X.pn ++ pins)) S3 hg hm q hdbg
      · exact ld_blt (X := X.suite a (X.pn ++ pins)) S3 hg hm hv q hnn hdbg
    refine test (LM.here ?_)
    cases b with
    | true =>
      refine codeAny_handlers_suite_as ?_
      refine HandSPX.lands_againZ fl3 fun h4 fl4 up4 => ?_
      have J4 : Inv X pins σ1 H1 { t with heap := h4 } := J.landed nb fl4.1 ((up.trans up3).trans up4) os ag
      obtain ⟨ob4, fv4, he4, hz4, hd4⟩ := fl4.there
      have T4 := inv_suite (inv_track J4 he4 hz4 hd4 na n0 nL npin) a
      refine store_ok (X := X.suite a (X.pn ++ pins)) (v := .ref a) T4 hN hi (.inl hln) rfl (fun s5 S5 => ?_) (.inr hln)
      refine wpAny_mono ((hsu a (X.pn ++ pins)).run [] s5 _ _ _ S5 (hyes rfl a na)) (fun fl s6 q => ?_) (fun _ _ z => False.elim z)
      have fin : ∀ {σ6 : L2.St} {H6 : Hp} {Q : Shared → Prop}, Inv (X.suite a (X.pn ++ pins)) [] σ6 H6 s6 →
          (∀ s7, Inv X pins (σ6.set i none) H6 s7 → Q s7) →
          wpAny (model X.prog X.w) X.A (do bindName X.env n .none; unbindBehindTheSuite X.env n pos') (fun _ s7 => Q s7) X.xe s6 := by
        intro σ6 H6 Q S6 hq
        exact gone_ok (inv_unsuite S6 ok) hN hi hln hq
      cases fl with
      | next =>
        obtain ⟨σ6, H6, S6, q6⟩ := q
        exact fin S6 fun s7 J7 => ⟨_, _, J7, q6⟩
      | ret u =>
        obtain ⟨v6, σ6, H6, S6, r6, q6⟩ := q
        exact fin S6 fun s7 J7 => ⟨_, _, _, J7, r6, q6⟩
      | brk =>
        obtain ⟨σ6, H6, S6, q6⟩ := q
        exact fin S6 fun s7 J7 => ⟨_, _, J7, q6⟩
      | cont =>
        obtain ⟨σ6, H6, S6, q6⟩ := q
        exact fin S6 fun s7 J7 => ⟨_, _, J7, q6⟩
    | false =>
      show wpAny _ X.A (handleBy (.ref a) X.env []) _ _ _
      refine wpAny_handleBy_nil ?_
      obtain ⟨k1, k2, k3, ob, fv, T, oT, tv, he, hz, hd, h1, hr⟩ := id fl3
      unfold PySem.passOn
      refine wpAny_bind (wpAny_field he hd h1 ?_)
      have nT : ¬ ((Value.ref T == Value.none) = true) := by simp
      rw [if_neg nT]
      have out : wpAny (model X.prog X.w) X.A (setFlight (.ref a) X.env.frame)
          (fun _ s4 => wpAny (model X.prog X.w) X.A (throw (.ref a) : Sem Flow) (SP X pins D) X.xe s4) X.xe { t with heap := h3 } := by
        rw [hf]
        refine HandSPX.setFlight_upZ fl3 fun h4 hh4 up4 => ?_
        refine wpAny_throw (tk _ _ ⟨a, B, sI, pins, σ1, H1, cls, d, rfl, J, nb, (up.trans up3).trans up4, .inr (.inr ?_), na, os, ag, hno rfl⟩)
        rw [hs]
        exact hh4
      first
        | exact wpAny_bind (wpAny_pure (wpAny_bind out))
        | exact wpAny_bind out
  · cases fl with
    | next =>
      obtain ⟨σ1, H1, J, q1⟩ := q
      exact wpAny_execs_nil ⟨σ1, H1, J.ofTry ok, q1⟩
    | ret u =>
      obtain ⟨v, σ1, H1, J, r, q1⟩ := q
      exact ⟨v, σ1, H1, J.ofTry ok, r, q1⟩
    | brk =>
      obtain ⟨σ1, H1, J, q1⟩ := q
      exact ⟨σ1, H1, J.ofTry ok, q1⟩
    | cont =>
      obtain ⟨σ1, H1, J, q1⟩ := q
      exact ⟨σ1, H1, J.ofTry ok, q1⟩
end
/-! ### what such an error is asked -/
section
variable {X : Cx}
/-- e.f -/
def tXk (K : PySem.W.Frag) (f : Str) (te : TE) : TE := fun σ H Q => te σ H fun x H1 =>
  ∃ (a C dd : Addr) (fs : List (Str × V)) (v : V), x = .ref a ∧ XfC K C ∧ PySem.W.findIn K (.ref C) f = some none ∧
    H1 a = some (exk a (.ref C) (some dd)) ∧ H1 dd = some (.xd fs) ∧ fs.lookup f = some v ∧ Q v H1
/-- the object, and its dict -/
theorem exk_at {pins : List (Addr × Obj)} {σ : L2.St} {H : Hp} {s : Shared} {a C dd : Addr} {fs : List (Str × V)} (I : Inv X pins σ H s)
    (ha : H a = some (exk a (.ref C) (some dd))) (hd : H dd = some (.xd fs)) :
    ∃ (ob od : Obj), PySem.W.InstAt s.heap a ob C (some od) ∧ ∃ mA, s.heap.Ns1 dd mA ∧ (∀ g, RelO (fs.lookup g) (mA g)) ∧ ∀ g, PySem.W.lookIn g od = some (mA g) := by
  obtain ⟨⟨ob, fv, e1, e2, e3⟩, _⟩ := (show ObjOk X.prog X.w H s.heap a (exk a (.ref C) (some dd)) from I.hok a _ ha)
  obtain ⟨mA, hns, hr⟩ := (show ObjOk X.prog X.w H s.heap dd (.xd fs) from I.hok dd _ hd)
  obtain ⟨od, ho, hl⟩ := lookIn_ns hns
  refine ⟨ob, od, ⟨e1, e2.1, ?_, by rw [e2.2]; exact ho⟩, mA, hns, hr, hl⟩
  unfold PySem.W.notCls
  rw [e3] <;> rfl
theorem pe_xk {e : Expr} {te : TE} {pos : Pos} {n : Str} (he : PE X e te) (hb : attributeBase e n X.env (eval e X.env) = eval e X.env := by rfl) :
    PE X (.Attribute e n pos) (tXk X.K n te) := by
  constructor
  intro pins s σ H Q I h
  have run := he.run pins s σ H _ I h
  refine attr_of hb (thn run ?_)
  rintro u t ⟨x, H1, I1, rx, a, C, dd, fs, v, rfl, T, hno, ea, ed, l, q⟩
  cases rx
  obtain ⟨ob, od, J, mA, hns, hr, hl⟩ := exk_at I1 ea ed
  obtain ⟨u, hu, ru⟩ := RelO.some_of (v := v) (o := mA n) (by rw [← l]; exact hr n)
  have fo := PySem.W.findObj_own T.hdC hno rfl (show PySem.W.lookIn n od = some (some u) by rw [hl, hu])
  refine HandSPX.exc_get I1.kIn J T.ga T.gg T.exC fo (handed_of ru) ?_
  exact ⟨v, H1, I1.tok _, ru, q⟩
/-- isinstance(e, c), c a class -/
def rIsK (K : PySem.W.Frag) : List V → Hp → VK → Prop := fun xs H Q =>
  ∃ (a D dd : Addr) (fs : List (Str × V)) (c : V) (cv : Value) (b : Bool), xs = [.ref a, c] ∧ ExcC K D ∧ H a = some (exk a (.ref D) (some dd)) ∧
    H dd = some (.xd fs) ∧ (∀ u, RelV c u → u = cv) ∧ PySem.W.kitOne K (.ref D) cv = some b ∧ Q (.bl b) H
theorem kit_exk {K : PySem.W.Frag} {a D : Addr} {ob : Obj} {od : Option Obj} (C : ExcC K D) :
    PySem.W.KitX K (.ref a) (.ref D) (fun h => PySem.W.InstAt h a ob D od) := by
  obtain ⟨cd, hc, _⟩ := PySem.W.any_some C.hd
  exact PySem.W.kitx_exc (by rw [hc]; rfl) C.hg C.hk C.hs C.ha C.hn C.ht C.hm
theorem call_isK : CallR X (.builtin "isinstance") (rIsK X.K) := by
  intro pins s σ H xs us Q I r h
  obtain ⟨a, D, dd, fs, c, cv, b, rfl, C, ea, ed, hcv, e, q⟩ := h
  obtain ⟨u1, u2, rfl, r1, r2⟩ := vals2 r
  cases r1
  cases hcv _ r2
  obtain ⟨ob, od, J, _⟩ := exk_at I ea ed
  exact PySem.W.kia_one (kit_exk C) I.kIn J e (fun z => nomatch z) fun tk => ⟨.bl b, H, I.tok tk, rfl, q⟩
/-- isinstance(e, (c, ..)) -/
def rIsKT (K : PySem.W.Frag) : List V → Hp → VK → Prop := fun xs H Q =>
  ∃ (a D dd tp : Addr) (fs : List (Str × V)) (cs : List V) (cvs : List Value) (b : Bool), xs = [.ref a, .ref tp] ∧ ExcC K D ∧ H a = some (exk a (.ref D) (some dd)) ∧
    H dd = some (.xd fs) ∧ H tp = some (.tup cs) ∧ (∀ us, Vals cs us → us = cvs) ∧ PySem.W.kitAny K (.ref D) cvs = some b ∧ Q (.bl b) H
theorem call_isKT : CallR X (.builtin "isinstance") (rIsKT X.K) := by
  intro pins s σ H xs us Q I r h
  obtain ⟨a, D, dd, tp, fs, cs, cvs, b, rfl, C, ea, ed, et, hcv, e, q⟩ := h
  obtain ⟨u1, u2, rfl, r1, r2⟩ := vals2 r
  cases r1
  cases r2
  obtain ⟨ob, od, J, _⟩ := exk_at I ea ed
  have ok := (show ObjOk X.prog X.w H s.heap tp (.tup cs) from I.hok tp _ et)
  obtain ⟨_, its, rv, ⟨oc, odi, dt, sl⟩, h1, h2, n, h3⟩ := ok
  cases hcv _ rv
  simp only at h2 h3
  subst h2 h3
  refine PySem.W.kia_tup (kit_exk C) I.kIn J h1 e (fun z => nomatch z) ?_
  intro tk
  exact ⟨.bl b, H, I.tok tk, rfl, q⟩
end
end Vg

set_option Elab.async false
set_option linter.all false
set_option maxRecDepth 100000
set_option maxHeartbeats 2000000
/-! Own layer: promises of defs that may raise, where no guard runs around. -/
namespace Vg
open PySem PySem.Spec PyProof.Rows L2
structure FnX (P : Program) (w : World) (K : PySem.W.Frag) (mg : Str → Option Value)
    (base : Heap) (k : Nat) (f : Addr) (fd : FuncData) (ps : List Str) (sp : Sp) : Prop where
  len : ∀ vs H Q E, sp vs H Q E → vs.length = ps.length
  run : ∀ (A : Around) (outer : List Env) (s : Shared) (H : Hp) (args : Args)
    (us : List Value) (vs : List V) (Q : VK) (E : XK),
    A.guards = some [] → Room k A → Env0 P w K mg base A outer s H →
    BindsTo s fd args (ps.zip us) → Vals vs us → sp vs H Q E →
    codeAny (model P w) A (.call (.ref f) args) (CR (L2.CX P w) outer P w H s Q E) s
section
variable {P : Program} {w : World} {K : PySem.W.Frag} {mg : Str → Option Value} {base : Heap}
theorem FnX.mono {j k : Nat} {f : Addr} {fd : FuncData} {ps : List Str} {sp : Sp}
    (F : FnX P w K mg base j f fd ps sp) (h : j ≤ k) : FnX P w K mg base k f fd ps sp :=
  ⟨F.len, fun A outer s H args us vs Q E hg hr =>
    F.run A outer s H args us vs Q E hg (hr.mono h)⟩
/-- the context of the body of a def that may raise -/
abbrev Cx_ (P : Program) (w : World) (K : PySem.W.Frag) (mg : Str → Option Value) (base : Heap)
    (N : List Str) (qual : Str) (scope : Scope) (f : Addr) (cdv : Value) (A : Around)
    (outer : List Env) (s : Shared) (H : Hp) (E : XK) : Cx :=
  cxOf (L2.CX P w) P w K mg base N qual scope f cdv A outer s H E
theorem FnX.mk_of {x qual : Str} {params : Arguments} {body : List Stmt} {scope : Scope}
    {kws : List (Str × V)} {dvs : List V} {f : Addr} {fd : FuncData} {N ps : List Str} {k : Nat} {sp : Sp}
    (F : FunD K x qual params body scope dvs kws f fd) (S : FnScope N ps scope)
    (len : ∀ vs H Q E, sp vs H Q E → vs.length = ps.length)
    (hbody : ∀ (cdv : Value) (A : Around) (outer : List Env) (s : Shared) (H : Hp)
      (vs : List V) (Q : VK) (E : XK),
      (Cx_ P w K mg base N qual scope f cdv A outer s H E).A.guards = some [] →
      Room k (Cx_ P w K mg base N qual scope f cdv A outer s H E).A → sp vs H Q E →
      ∃ t, PSs (Cx_ P w K mg base N qual scope f cdv A outer s H E) body t ∧
        t { nx := fun _ H' => Q .non H', rt := Q } (start N vs) H) :
    FnX P w K mg base (k + 1) f fd ps sp := by
  obtain ⟨oc, od, dV, kV, doc, pm, an, cdv, ct, osl, rfl, lk, hcd, _, _⟩ := F.ex
  refine ⟨len, ?_⟩
  intro A outer s H args us vs Q E hgu hr e0 hb r hsp
  have hln := len _ _ _ _ hsp
  have old : ∀ b o, base.get? b = some o → s.heap.get? b = some o :=
    fun b o e => (e0.bs b o e).1
  have KX : K.In s.heap := e0.mod.kin.keeps old
  have lim : s.heap.NoLimit := e0.mod.nolimit.keeps old
  have hk : ∀ y ∈ ps.zip us, scope.names.lookup y.1 = some .local ∨
      (scope.names.lookup y.1 = some .cell ∧
        ((cellsFrom (s.heap.objs.size + 1) scope.names []).lookup y.1).isSome = true) := by
    rintro ⟨n, v⟩ hy
    have hp := S.par n (List.of_mem_zip hy).1
    cases hp with
    | inl q => exact Or.inl q
    | inr q => exact Or.inr ⟨q, PySem.W.cellsFrom_some _ _ _ (Or.inl q)⟩
  have hcr := PySem.W.codeRec_of KX hcd
  refine codeAny_call_function hr.depth (KX _ _ lk)
    rfl S.co S.gen rfl hcr (hb _ _ _ _ ?_)
  refine wpAny_newFunctionEnv_cells S.kind hk ?_
  intro env he s1 x
  subst he
  refine ⟨lim.keeps x.toInCall.keep, codeAny_func ?_⟩
  obtain ⟨t, ht, hq⟩ := hbody cdv A outer s H vs Q E hgu (hr.deeper _) hsp
  have I := inv_start (CX := L2.CX P w) (E := E) S hr.hd e0 hln r x
  have hrun := ht.run [] s1 (start N vs) H _ I hq
  refine wpAny_mono hrun ?_ fun e s' hs => hs
  intro fl s' hs
  cases fl with
  | brk =>
    obtain ⟨_, _, _, q⟩ := hs
    cases q
  | cont =>
    obtain ⟨_, _, _, q⟩ := hs
    cases q
  | next =>
    obtain ⟨σ', H', J, q⟩ := hs
    exact ⟨V.non, H', J.os, J.bare, J.base, J.hok, rfl, q⟩
  | ret u =>
    obtain ⟨v, σ', H', J, rv, q⟩ := hs
    exact ⟨v, H', J.os, J.bare, J.base, J.hok, rv, q⟩
end
/-! ### a call of such a def -/
structure CalX (P : Program) (w : World) (K : PySem.W.Frag) (mg : Str → Option Value)
    (base : Heap) (k : Nat) (x : Str) (ps : List Str) (sp : Sp) : Prop where
  ex : ∃ f fd, FnX P w K mg base k f fd ps sp ∧ mg x = some (.ref f) ∧
    PySem.W.keepIn K (.ref f) = true ∧ Binds K fd ps []
section
variable {X : Cx} {k : Nat} {ps : List Str} {sp : Sp} {x : Str} {p pos : Pos}
  {e : Expr} {es : List Expr} {t : TA} {W : WX}
/-- f(..) where what it lets out is taken by W -/
theorem pe_calX (c : CalX X.prog X.w X.K X.mg X.base k x ps sp) (tk : Takes X W) (hgu : X.A.guards = some [])
    (hr : Room k X.A) (ha : PA X (e :: es) t) (hg : Gl X x := by rfl)
    (hdb : (x == ("__debug__" : Str)) = false := by decide)
    (he : starEach (e :: es) X.env = (false, eval e X.env) :: starEach es X.env := by rfl)
    (hpl : (backTo pos (starEach es X.env)).any (·.1) = false := by rfl) :
    PE X (.Call (.Name x p) (e :: es) [] pos) (tCallS sp (WE W) t) := by
  obtain ⟨f, fd, F, hm, hk, hb⟩ := c.ex
  constructor
  intro pins s σ H Q I h
  refine wpAny_Call_Name_kw (ld_glob I hg hm ?_ hdb)
  refine PySem.W.callWith_K (h₀ := X.base) I.ok.mod.kin hk (thn (ha.run pos pins s σ H _ I h) ?_) he hpl
  intro us s1 hh
  obtain ⟨vs, H1, I1, r, q⟩ := hh
  refine ⟨I1.kIn, ?_⟩
  have hl : us.length = ps.length := r.length.symm.trans (F.len _ _ _ _ q)
  have hbs := hb s1 us I1.kIn (by simpa using hl)
  rw [List.append_nil] at hbs
  refine wpAny_call (codeAny_mono
    (F.run X.A X.stack s1 H1 ⟨us, []⟩ us vs Q _ hgu hr I1.env0 hbs r q) ?_)
  intro res s' hq
  cases res with
  | error e => exact passAt tk σ pins H1 s1 e s' I1 hq
  | ok fl =>
    cases fl with
    | next => cases hq
    | brk => cases hq
    | cont => cases hq
    | ret u => exact I1.after hq
end
section
variable {P : Program} {w : World} {K : PySem.W.Frag} {mg : Str → Option Value} {base : Heap}
theorem cal_mkX {x : Str} {st : Stmt} {N ps : List Str} {k : Nat} {sp : Sp} (D : DefAt K mg x st)
    (S : FnScope N ps (defScope st))
    (hb : ∀ (dV kV doc pm : Value) (an : Option Addr) (cdv ct : Value) (us : List Value), us.length = ps.length →
      bindArgs (PySem.W.fnOf x x (defArgs st) (defBody st) (defScope st) .none kV doc pm an cdv ct) ⟨us, []⟩
        = pure (ps.zip us))
    (len : ∀ vs H Q E, sp vs H Q E → vs.length = ps.length)
    (hbody : ∀ (f : Addr) (cdv : Value) (A : Around) (outer : List Env) (s : Shared) (H : Hp)
      (vs : List V) (Q : VK) (E : XK),
      (Cx_ P w K mg base N x (defScope st) f cdv A outer s H E).A.guards = some [] →
      Room k (Cx_ P w K mg base N x (defScope st) f cdv A outer s H E).A → sp vs H Q E →
      ∃ t, PSs (Cx_ P w K mg base N x (defScope st) f cdv A outer s H E) (defBody st) t ∧
        t { nx := fun _ H' => Q .non H', rt := Q } (start N vs) H) :
    CalX P w K mg base (k + 1) x ps sp := by
  obtain ⟨fd, F, hm⟩ := D
  refine ⟨_, fd, FnX.mk_of F S len (hbody _), hm, F.kp, ?_⟩
  exact F.bindsN fun kV doc pm an cdv ct us hl => hb .none kV doc pm an cdv ct us hl
theorem CalX.mono {x : Str} {ps : List Str} {j k : Nat} {sp : Sp} (c : CalX P w K mg base j x ps sp)
    (h : j ≤ k) : CalX P w K mg base k x ps sp := by
  obtain ⟨f, fd, F, r⟩ := c.ex
  exact ⟨f, fd, F.mono h, r⟩
end
/-! ### an error that is made and not raised -/
section
variable {X : Cx} {e : Expr} {t : L2.St → Hp → XK → Prop}
theorem pe_made (he : PMk X e t) :
    PE X e (fun σ H Q => t σ H fun cls d H' => ∀ a, H' a = none → Q (.ref a) (upd H' a (exk a cls d))) := by
  constructor
  intro pins s σ H Q I h
  refine wpAny_mono (he pins s σ H _ I h) ?_ fun _ _ z => z
  rintro u s' ⟨a, ob, fv, sI, H', cls, d, rfl, J, kp, hn, ha, hz, hd, h1, na, os, ag, _, q⟩
  refine ⟨.ref a, _, ?_, rfl, q a na⟩
  refine J.call' (ch := []) os ?_ ?_ ag ?_
  · exact Un.laidN kp hn na
  · exact J.hok.laidN kp na (exk_ok ha hz hd)
  · exact fun _ z => nomatch z
end
end Vg

set_option Elab.async false
set_option linter.all false
set_option maxRecDepth 100000
set_option maxHeartbeats 2000000
/-! Own layer: decimal words, and texts cut at a separator. -/
namespace Vg
open PySem PySem.Spec PyProof.Rows L2 TL PySem.NumText
/-- the number that a word writes, if it writes one as str does -/
def numW (l : List Nat) : Option Nat := if numL (digitsVal l) = l then some (digitsVal l) else none
theorem numW_num (n : Nat) : numW (numL n) = some n := by
  unfold numW
  rw [numL_val, if_pos rfl]
theorem numW_some {l : List Nat} {n : Nat} (h : numW l = some n) : l = numL n := by
  unfold numW at h
  by_cases c : numL (digitsVal l) = l
  · rw [if_pos c] at h
    cases h
    exact c.symm
  · rw [if_neg c] at h
    cases h
theorem numW_none {l : List Nat} (h : ∀ n, l ≠ numL n) : numW l = none := by
  cases e : numW l with
  | none => rfl
  | some n => exact absurd (numW_some e) (h n)
theorem numW_nil : numW [] = none := numW_none fun n e => numL_ne n e.symm
theorem numW_nodig {l : List Nat} (h : ¬ AllDigits l) : numW l = none := numW_none fun n e => h (e ▸ numL_digits n)
theorem numL_head : ∀ n : Nat, 0 < n → ∃ c r, numL n = c :: r ∧ 49 ≤ c := by
  intro n
  induction n using Nat.strongRecOn with
  | _ n ih =>
    intro h
    by_cases c : n < 10
    · exact ⟨48 + n, [], numL_lt c, by omega⟩
    · obtain ⟨d, r, e, hd⟩ := ih (n / 10) (by omega) (by omega)
      refine ⟨d, r ++ [48 + n % 10], ?_, hd⟩
      rw [numL_step (by omega), e]
      rfl
theorem numL_zero : numL 0 = [48] := numL_lt (by decide)
theorem numW_zero {c : Nat} {r : List Nat} : numW (48 :: c :: r) = none := numW_none fun n e => by
  by_cases h : n = 0
  · subst h
    rw [numL_zero] at e
    cases e
  · obtain ⟨d, q, e1, hd⟩ := numL_head n (by omega)
    rw [e1] at e
    injection e with e2 _
    omega
theorem map_back : ∀ l : List Nat, AllDigits l → (l.map Char.ofNat).map Char.toNat = l
  | [], _ => rfl
  | c :: r, h => by
    have hc := h c List.mem_cons_self
    have hr := map_back r (fun d hd => h d (List.mem_cons_of_mem _ hd))
    rw [List.map_cons, List.map_cons, hr]
    have e : ∀ d : Nat, d < 58 → (Char.ofNat d).toNat = d := by decide
    rw [e c (by omega)]
theorem numW_canon {l : List Nat} (h : AllDigits l) (hz : l = [48] ∨ ∃ c r, l = c :: r ∧ 49 ≤ c) : numW l = some (digitsVal l) := by
  have e : numL (digitsVal l) = l := by
    rcases hz with rfl | ⟨c, r, rfl, hc⟩
    · exact numL_zero
    · have q := toDigits_digitsVal r.length (c :: r) (by simp) h (.inr ⟨c, r, rfl, hc⟩)
      show (Nat.toDigits 10 (digitsVal (c :: r))).map Char.toNat = c :: r
      rw [q]
      exact map_back _ h
  unfold numW
  rw [if_pos e]
theorem numL_mono : ∀ n m : Nat, m ≤ n → (numL m).length ≤ (numL n).length := by
  intro n
  induction n using Nat.strongRecOn with
  | _ n ih =>
    intro m h
    by_cases c : m < 10
    · rw [numL_lt c]
      have := numL_ne n
      cases e : numL n with
      | nil => exact absurd e this
      | cons d r => simp
    · have q := ih (n / 10) (by omega) (m / 10) (Nat.div_le_div_right h)
      rw [numL_step (show 10 ≤ m by omega), numL_step (show 10 ≤ n by omega), List.length_append, List.length_append]
      simpa using q
theorem numW_long {l : List Nat} {n top : Nat} (h : numW l = some n) (hl : (numL top).length < l.length) : top < n := by
  have e := numW_some h
  by_cases c : n ≤ top
  · have := numL_mono top n c
    rw [← e] at this
    omega
  · omega
/-! ### a text cut once, and cut everywhere -/
section
variable {S : List Nat}
theorem par_some (hS : S ≠ []) : ∀ (l acc a b : List Nat), par S acc l = some (a, b) → spl S 0 acc l = a :: spl S 0 [] b ∧ acc ++ l = a ++ S ++ b
  | [], _, _, _, h => by cases h
  | c :: r, acc, a, b, h => by
    cases hp : pre S (c :: r) with
    | true =>
      rw [par_hit hp] at h
      obtain ⟨s, S', rfl⟩ : ∃ s S', S = s :: S' := by
        cases S with
        | nil => exact absurd rfl hS
        | cons s S' => exact ⟨s, S', rfl⟩
      have e1 : acc = a := congrArg Prod.fst (Option.some.inj h)
      have e2 : (c :: r).drop (s :: S').length = b := congrArg Prod.snd (Option.some.inj h)
      have e3 : (c :: r).take (s :: S').length = s :: S' := eq_of_beq hp
      subst e1 e2
      refine ⟨?_, ?_⟩
      · rw [spl_hit hp, spl_pass]
        rfl
      · rw [List.append_assoc]
        congr 1
        have := List.take_append_drop (s :: S').length (c :: r)
        rw [e3] at this
        exact this.symm
    | false =>
      rw [par_miss hp] at h
      obtain ⟨q1, q2⟩ := par_some hS r (acc ++ [c]) a b h
      refine ⟨by rw [spl_miss hp]; exact q1, ?_⟩
      rw [← q2, List.append_assoc]
      rfl
theorem par_nothing : ∀ (l acc : List Nat), par S acc l = none → spl S 0 acc l = [acc ++ l]
  | [], acc, _ => by rw [spl_nil, List.append_nil]
  | c :: r, acc, h => by
    cases hp : pre S (c :: r) with
    | true =>
      rw [par_hit hp] at h
      cases h
    | false =>
      rw [par_miss hp] at h
      rw [spl_miss hp, par_nothing r (acc ++ [c]) h, List.append_assoc]
      rfl
end
/-! ### the map that a text writes -/
/-- «*x + » -/
def sepL : List Nat := tl (Str.ofString "*x + ")
/-- the map modulo m that a text writes -/
def mapT (m : Nat) (l : List Nat) : Option (Nat × Nat) :=
  match par sepL [] l with
  | some (a, b) => match numW a, numW b with
    | some x, some y => if x < m ∧ y < m ∧ Nat.gcd x m = 1 then some (x, y) else none
    | _, _ => none
  | none => none
theorem sepL_eq : sepL = [42, 120, 32, 43, 32] := by unfold sepL; rw [tl_ofString]; decide
theorem sepL_ne : sepL ≠ [] := by rw [sepL_eq]; decide
/-- the parts of a text that writes a map -/
theorem mapT_spl {m x y : Nat} {l : List Nat} (h : mapT m l = some (x, y)) :
    spl sepL 0 [] l = [numL x, numL y] ∧ x < m ∧ y < m ∧ Nat.gcd x m = 1 := by
  unfold mapT at h
  cases e : par sepL [] l with
  | none => rw [e] at h; cases h
  | some ab =>
    obtain ⟨a, b⟩ := ab
    rw [e] at h
    dsimp only at h
    cases ea : numW a with
    | none => rw [ea] at h; cases h
    | some u =>
      cases eb : numW b with
      | none => rw [ea, eb] at h; cases h
      | some v =>
        rw [ea, eb] at h
        dsimp only at h
        by_cases c : u < m ∧ v < m ∧ Nat.gcd u m = 1
        · rw [if_pos c] at h
          cases h
          have q := (par_some sepL_ne l [] a b e).1
          rw [q, numW_some ea, numW_some eb]
          have nf : (42 : Nat) ∉ numL y := numL_free (by decide)
          refine ⟨?_, c⟩
          rw [sepL_eq, spl_last1 nf]
          rfl
        · rw [if_neg c] at h
          cases h
/-- two parts that write numbers are a map's, where the numbers fit -/
theorem spl_mapT {m x y : Nat} {l : List Nat} (h : spl sepL 0 [] l = [numL x, numL y]) (hx : x < m) (hy : y < m) (hg : Nat.gcd x m = 1) :
    mapT m l = some (x, y) := by
  unfold mapT
  cases e : par sepL [] l with
  | none =>
    rw [par_nothing l [] e] at h
    cases h
  | some ab =>
    obtain ⟨a, b⟩ := ab
    have q := (par_some sepL_ne l [] a b e).1
    rw [q] at h
    injection h with h1 h2
    have hb : b = numL y := by
      cases e2 : par sepL [] b with
      | none =>
        rw [par_nothing b [] e2] at h2
        injection h2 with h3 _
      | some cd =>
        obtain ⟨c, d⟩ := cd
        rw [(par_some sepL_ne b [] c d e2).1] at h2
        injection h2 with _ h3
        cases e3 : par sepL [] d with
        | none => rw [par_nothing d [] e3] at h3; cases h3
        | some fg =>
          obtain ⟨f, g⟩ := fg
          rw [(par_some sepL_ne d [] f g e3).1] at h3
          cases h3
    rw [h1, hb]
    show (match numW (numL x), numW (numL y) with
      | some x, some y => if x < m ∧ y < m ∧ Nat.gcd x m = 1 then some (x, y) else none
      | _, _ => none) = some (x, y)
    rw [numW_num, numW_num]
    exact if_pos ⟨hx, hy, hg⟩
end Vg

set_option Elab.async false
set_option linter.all false
set_option maxRecDepth 100000
set_option maxHeartbeats 2000000
/-! Own layer: an error class of the program over ValueError, whose __init__ stores one field. -/
namespace Vg
open PySem PySem.Spec PyProof.Rows L2
/-- the class at C, as what its making and its fields want it -/
def oexB (K : PySem.W.Frag) (C : Addr) : Bool :=
  match K.lookup C with
  | some ⟨.type "type", _, .cls cd, sl⟩ =>
    match cd.mro, sl.toList with
    | .ref D :: bm, [_, _, _, _, some (.builtin n), _] =>
      D == C && (n == "ValueError.__new__" && (!cd.hasDel && (cd.hasDict && PySem.HandSPX.refsVE bm)))
    | _, _ => false
  | _ => false
theorem oexB_cls {K : PySem.W.Frag} {C : Addr} (h : oexB K C = true) :
    ∃ nm q N bs bm sn sub ab col dd k0 k1 k2 k3 k5, K.lookup C = some (excClassObj nm q C N bs bm true sn sub ab col dd k0 k1 k2 k3 k5 "ValueError.__new__") ∧
      PySem.HandSPX.refsVE bm = true := by
  unfold oexB at h
  split at h
  · rename_i dd cd sl ho
    split at h
    · rename_i D bm k0 k1 k2 k3 n k5 hm hs
      obtain ⟨e1, h⟩ := Bool.and_eq_true_iff.mp h
      obtain ⟨e2, h⟩ := Bool.and_eq_true_iff.mp h
      obtain ⟨e3, h⟩ := Bool.and_eq_true_iff.mp h
      obtain ⟨e4, e5⟩ := Bool.and_eq_true_iff.mp h
      have e1' := eq_of_beq e1
      have e2' := eq_of_beq e2
      subst e1' e2'
      obtain ⟨nm, bs, mro, ns, qn, hd, sn, sub, ab, col, del⟩ := cd
      dsimp only at hm e3 e4
      subst hm e4
      have e3' : del = false := by
        cases del with
        | false => rfl
        | true => cases e3
      subst e3'
      obtain ⟨l⟩ := sl
      have hl : l = [k0, k1, k2, k3, some (.builtin "ValueError.__new__"), k5] := hs
      subst hl
      exact ⟨nm, qn, ns, bs, bm, sn, sub, ab, col, dd, k0, k1, k2, k3, k5, ho, e5⟩
    · cases h
  · cases h
/-- an error class at C whose __init__ is the def at fI; fs: its fields -/
structure EcC (K : PySem.W.Frag) (C fI : Addr) (fs : List Str) : Prop where
  oex : OexC K C
  xf : XfC K C
  is_ : ExcC K C
  no : ∀ f ∈ fs, PySem.W.findIn K (.ref C) f = some none
  ini : PySem.W.findIn K (.ref C) "__init__" = some (some (.ref fI))
  tI : PySem.W.typeIn K (.ref fI) = some (.type "function")
  exm : PySem.W.exmOne K (.ref C) (.ref C) = some true
def ecB (K : PySem.W.Frag) (C fI : Addr) (fs : List Str) : Bool :=
  oexB K C && (xfB K C && (decide (PySem.W.findIn K (.ref C) "__setattr__" = some (some (.builtin "object.__setattr__"))) &&
  (decide (PySem.W.typeIn K (.ref C) = some (.type "type")) && (PySem.W.keepIn K (.ref C) &&
  (decide (PySem.W.findIn K (.ref C) "__class__" = some (some (.builtin "object.__class__"))) &&
  (decide (PySem.W.specialIn K (.builtin "object.__class__") "__get__" = some (some (.builtin "getset_descriptor.__get__"))) &&
  (decide (PySem.W.takesIn K (.builtin "object.__class__") = some true) && (decide (PySem.W.mroIn K C (.type "object") = some true) &&
  (fs.all (fun f => decide (PySem.W.findIn K (.ref C) f = some none)) && (decide (PySem.W.findIn K (.ref C) "__init__" = some (some (.ref fI))) &&
  (decide (PySem.W.typeIn K (.ref fI) = some (.type "function")) && decide (PySem.W.exmOne K (.ref C) (.ref C) = some true))))))))))))
theorem ecB_ok {K : PySem.W.Frag} {C fI : Addr} {fs : List Str} (h : ecB K C fI fs = true) : EcC K C fI fs := by
  obtain ⟨e1, h⟩ := Bool.and_eq_true_iff.mp h
  obtain ⟨e2, h⟩ := Bool.and_eq_true_iff.mp h
  obtain ⟨e3, h⟩ := Bool.and_eq_true_iff.mp h
  obtain ⟨e4, h⟩ := Bool.and_eq_true_iff.mp h
  obtain ⟨e5, h⟩ := Bool.and_eq_true_iff.mp h
  obtain ⟨e6, h⟩ := Bool.and_eq_true_iff.mp h
  obtain ⟨e7, h⟩ := Bool.and_eq_true_iff.mp h
  obtain ⟨e8, h⟩ := Bool.and_eq_true_iff.mp h
  obtain ⟨e9, h⟩ := Bool.and_eq_true_iff.mp h
  obtain ⟨e10, h⟩ := Bool.and_eq_true_iff.mp h
  obtain ⟨e11, h⟩ := Bool.and_eq_true_iff.mp h
  obtain ⟨e12, e13⟩ := Bool.and_eq_true_iff.mp h
  have x := xfB_ok e2
  exact ⟨⟨oexB_cls e1, of_decide_eq_true e3, x.exC, of_decide_eq_true e4, e5⟩, x,
    ⟨x.ga, x.gg, x.exC, x.hdC, of_decide_eq_true e6, of_decide_eq_true e7, of_decide_eq_true e8, of_decide_eq_true e9⟩,
    fun f hf => of_decide_eq_true (List.all_eq_true.mp e10 f hf), of_decide_eq_true e11, of_decide_eq_true e12, of_decide_eq_true e13⟩
/-- __init__ stores its one argument as the field f -/
def sp_ini (C : Addr) (f : Str) : Sp := fun vs H Q _ => ∃ (a : Addr) (y : V), vs = [.ref a, y] ∧ H a = some (exo a C none) ∧
  ∀ dx, H dx = none → dx ≠ a → Q .non (upd (upd H dx (exd dx [(f, y)])) a (exo a C (some dx)))
/-- what is asked where such an error is made -/
theorem mk_ini {C : Addr} {f : Str} {y : V} {H : Hp} {Q : XK} {E : XK} (q : ∀ d, H d = none → Q (.ref C) (some d) (upd H d (.xd [(f, y)]))) :
    ∀ a, H a = none → sp_ini C f (.ref a :: ([y] ++ [])) (upd H a (exo a C none))
      (fun v H2 => v = .non ∧ ∃ (d : Addr) (fs : List (Str × V)), H2 a = some (exo a C (some d)) ∧ H2 d = some (exd d fs) ∧ H d = none ∧ Q (.ref C) (some d) (upd (del H2 a) d (.xd fs))) E := by
  intro a ha
  refine ⟨a, y, rfl, upd_same, fun dx hd ne => ⟨rfl, dx, [(f, y)], upd_same, (upd_ne ne).trans upd_same, ?_, ?_⟩⟩
  · rw [upd_ne ne] at hd
    exact hd
  · have hd' : H dx = none := by
      rw [upd_ne ne] at hd
      exact hd
    have e : upd (del (upd (upd (upd H a (exo a C none)) dx (exd dx [(f, y)])) a (exo a C (some dx))) a) dx (.xd [(f, y)]) = upd H dx (.xd [(f, y)]) := by
      funext b
      by_cases h1 : b = dx
      · subst h1
        rw [upd_same, upd_same]
      · rw [upd_ne h1, upd_ne h1]
        by_cases h2 : b = a
        · subst h2
          rw [del_same, ha]
        · rw [del_ne h2, upd_ne h2, upd_ne h1, upd_ne h2]
    rw [e]
    exact q dx hd'
/-- C(e) where it is raised -/
theorem pmk_ini {X : Cx} {x f : Str} {C fI : Addr} {fd : FuncData} {fs : List Str} {k : Nat} {ps : List Str} {e : Expr} {ta : TA} {p pos : Pos}
    (T : EcC X.K C fI fs) (F : FnOk X.prog X.w X.K X.mg X.base CX0 k fI fd ps (sp_ini C f)) (hr : Room (k + 1) X.A) (hb : Binds X.K fd ps [])
    (hm : X.mg x = some (.ref C)) (ha : PA X [e] ta) (hg : Gl X x := by rfl)
    (hdb : (x == ("__debug__" : Str)) = false := by decide) (he : starEach [e] X.env = (false, eval e X.env) :: starEach [] X.env := by rfl)
    (hpl : (backTo pos (starEach [] X.env)).any (·.1) = false := by rfl) :
    PMk X (.Call (.Name x p) [e] [] pos) (tMkO C (sp_ini C f) [] ta) :=
  pmk_oex T.oex T.ini T.tI F hr hb .nil (fun _ _ _ _ _ _ _ h => h.elim) hg hm ha hdb he hpl
end Vg

set_option Elab.async false
set_option linter.all false
set_option maxRecDepth 100000
set_option maxHeartbeats 4000000
/-! Own layer: an error class of the program over any built-in error class, whose __init__ stores one field. -/
namespace Vg
open PySem PySem.Spec PyProof.Rows L2
/-- a built-in error class -/
structure XB where
  nm : String
  new : String
  ini : String
  tl : List Value
structure XBok (b : XB) : Prop where
  F : ExcBaseFacts b.nm b.new b.ini b.tl
  pass : ∀ self, refuseLoop self "__setattr__" b.tl = pure ()
  obj : b.tl.contains (.type "object") = true
  ne : b.tl ≠ []
def xbIx : XB := ⟨"IndexError", "IndexError.__new__", "IndexError.__init__",
  [.type "IndexError", .type "LookupError", .type "Exception", .type "BaseException", .type "object"]⟩
def xbOv : XB := ⟨"OverflowError", "OverflowError.__new__", "OverflowError.__init__",
  [.type "OverflowError", .type "ArithmeticError", .type "Exception", .type "BaseException", .type "object"]⟩
def xbLk : XB := ⟨"LookupError", "LookupError.__new__", "LookupError.__init__",
  [.type "LookupError", .type "Exception", .type "BaseException", .type "object"]⟩
def xbVe : XB := ⟨"ValueError", "ValueError.__new__", "ValueError.__init__",
  [.type "ValueError", .type "Exception", .type "BaseException", .type "object"]⟩
theorem xbIx_ok : XBok xbIx := ⟨F.excBase_IndexError, F.store_IndexError.passes, by decide +kernel, by decide⟩
theorem xbOv_ok : XBok xbOv := ⟨F.excBase_OverflowError, F.store_OverflowError.passes, by decide +kernel, by decide⟩
theorem xbLk_ok : XBok xbLk := ⟨F.excBase_LookupError, F.store_LookupError.passes, by decide +kernel, by decide⟩
theorem xbVe_ok : XBok xbVe := ⟨F.excBase_ValueError, F.store_ValueError.passes, by decide +kernel, by decide⟩
/-- own classes, and then tl -/
def onT (tl : List Value) : List Value → Bool
  | .ref _ :: r => onT tl r
  | l => l == tl
theorem onT_out {tl l : List Value} (h : onT tl l = true) : (∃ c r, l = .ref c :: r ∧ onT tl r = true) ∨ l = tl := by
  unfold onT at h
  split at h
  · exact .inl ⟨_, _, rfl, h⟩
  · exact .inr (eq_of_beq h)
theorem onT_pass {b : XB} (B : XBok b) (self : Value) : ∀ l : List Value, onT b.tl l = true → refuseLoop self "__setattr__" l = pure ()
  | [], h => by
    rcases onT_out h with ⟨c, r, e, _⟩ | e
    · cases e
    · exact absurd e.symm B.ne
  | x :: l, h => by
    rcases onT_out h with ⟨c, r, e, k⟩ | e
    · cases e
      exact (refuseLoop_ref self _ c l).trans (onT_pass B self l k)
    · rw [e]
      exact B.pass self
theorem onT_has {b : XB} (B : XBok b) (y : String) : ∀ l : List Value, onT b.tl l = true → l.contains (.type y) = b.tl.contains (.type y)
  | [], h => by
    rcases onT_out h with ⟨c, r, e, _⟩ | e
    · cases e
    · rw [e]
  | x :: l, h => by
    rcases onT_out h with ⟨c, r, e, k⟩ | e
    · cases e
      rw [List.contains_cons, onT_has B y l k]
      rfl
    · rw [e]
theorem onT_ne {b : XB} (B : XBok b) {l : List Value} (h : onT b.tl l = true) : l.isEmpty = false := by
  cases l with
  | cons _ _ => rfl
  | nil =>
    rcases onT_out h with ⟨c, r, e, _⟩ | e
    · cases e
    · exact absurd e.symm B.ne
def gexB (b : XB) (K : PySem.W.Frag) (C : Addr) : Bool :=
  match K.lookup C with
  | some ⟨.type "type", _, .cls cd, sl⟩ =>
    match cd.mro, sl.toList with
    | .ref D :: bm, [_, _, _, _, some (.builtin n), _] => D == C && (n == b.new && (!cd.hasDel && (cd.hasDict && onT b.tl bm)))
    | _, _ => false
  | _ => false
theorem gexB_cls {b : XB} {K : PySem.W.Frag} {C : Addr} (h : gexB b K C = true) :
    ∃ nm q N bs bm sn sub ab col dd k0 k1 k2 k3 k5, K.lookup C = some (excClassObj nm q C N bs bm true sn sub ab col dd k0 k1 k2 k3 k5 b.new) ∧ onT b.tl bm = true := by
  unfold gexB at h
  split at h
  · rename_i dd cd sl ho
    split at h
    · rename_i D bm k0 k1 k2 k3 n k5 hm hs
      obtain ⟨e1, h⟩ := Bool.and_eq_true_iff.mp h
      obtain ⟨e2, h⟩ := Bool.and_eq_true_iff.mp h
      obtain ⟨e3, h⟩ := Bool.and_eq_true_iff.mp h
      obtain ⟨e4, e5⟩ := Bool.and_eq_true_iff.mp h
      have e1' := eq_of_beq e1
      have e2' := eq_of_beq e2
      subst e1' e2'
      obtain ⟨nm, bs, mro, ns, qn, hd, sn, sub, ab, col, del⟩ := cd
      dsimp only at hm e3 e4
      subst hm e4
      have e3' : del = false := by
        cases del with
        | false => rfl
        | true => cases e3
      subst e3'
      obtain ⟨l⟩ := sl
      have hl : l = [k0, k1, k2, k3, some (.builtin b.new), k5] := hs
      subst hl
      exact ⟨nm, qn, ns, bs, bm, sn, sub, ab, col, dd, k0, k1, k2, k3, k5, ho, e5⟩
    · cases h
  · cases h
/-- the class at C, over b -/
structure GexC (b : XB) (K : PySem.W.Frag) (C : Addr) : Prop where
  B : XBok b
  cls : ∃ nm q N bs bm sn sub ab col dd k0 k1 k2 k3 k5, K.lookup C = some (excClassObj nm q C N bs bm true sn sub ab col dd k0 k1 k2 k3 k5 b.new) ∧ onT b.tl bm = true
  sa : PySem.W.findIn K (.ref C) "__setattr__" = some (some (.builtin "object.__setattr__"))
  exC : PySem.W.subIn K (.ref C) (.type "BaseException") = some true
  tyC : PySem.W.typeIn K (.ref C) = some (.type "type")
  kC : PySem.W.keepIn K (.ref C) = true
section
open Builtin Builtin.ObjectAttr
variable {prog : Program} {w : World} {A : Around} {R : Result → Shared → Prop} {hp : Heap} {g : Array GenState} {d : Drawn} {t : Nat} {os : OsState}
/-- the first field of an error that has no dict yet -/
theorem gex_osa {K : PySem.W.Frag} {b : XB} {f : Str} {tk : Tok} {u : Value} {a C : Addr} {fv : Array Value} {cd : ClassData} (B : XBok b)
    (inK : K.In hp) (ho : hp.get? a = some { cls := .ref C, data := .fields fv }) (hc : PySem.W.clsIn K C = some cd) (on : onT b.tl cd.mro = true) (dct : cd.hasDict = true)
    (no : PySem.W.findIn K (.ref C) f = some none)
    (k : ∀ h' tk' dx, (∀ c o, c ≠ a → hp.get? c = some o → h'.get? c = some o) → hp.objs.size ≤ dx → dx ≠ a → h'.get? a = some { cls := .ref C, dict := some dx, data := .fields fv } →
      h'.Ns1 dx (fun y => if y = f then some u else none) → R (.ok (.ret .none)) ⟨h', g, d, tk', os⟩) :
    codeAny (model prog w) A (.call (.builtin "object.__setattr__") ⟨[.ref a, .str f tk, u], []⟩) R ⟨hp, g, d, t, os⟩ := by
  have at_ : PySem.W.InstAt hp a { cls := .ref C, data := .fields fv } C none := ⟨ho, rfl, rfl, trivial⟩
  have so := F.store_object
  have full := onT_ne B on
  have isO : cd.mro.contains (.type "object") = true := (onT_has B "object" _ on).trans B.obj
  have na : a ≠ hp.objs.size := Nat.ne_of_lt (Heap.lt_size ho)
  have l1 : PySem.W.Looks (model prog w) hp (classData C) cd := PySem.W.looks_clsIn inK hc
  have l2 : PySem.W.Looks (model prog w) hp (mroOf (.ref C)) cd.mro := l1.andThen .now
  have l3 : PySem.W.Looks (model prog w) hp (storeTaker? none) none := .now
  have l4 : PySem.W.Looks (model prog w) hp (isInstance (.ref a) (.type "object")) true := by
    refine at_.type.andThen (PySem.W.looks_mroIn inK ?_)
    unfold PySem.W.mroIn
    rw [hc, Option.bind_some, if_neg (by rw [full]; decide), isO]
  refine codeAny_call_builtin so.slot.plain so.entry ?_
  refine @PySem.W.check_slot (model prog w) _ _ ⟨hp, g, d, t, os⟩ _ "object" "__setattr__" (.ref a) [.str f tk, u] [] _ so.kind so.split l4 (so.args _ _ _) ?_
  rw [PySem.W.osa_eq, refuse_eq]
  refine wpAny_bind (wpAny_bind (at_.type.at (wpAny_bind (l2.at ?_))))
  rw [onT_pass B _ _ on]
  refine wpAny_pure (wpAny_bind (at_.type.at (wpAny_bind ((PySem.W.looks_findIn inK no).at (wpAny_bind (l3.at ?_))))))
  show wpAny _ _ (storeInOwnDict (.ref a) (.ref C) (.str f tk) f u false) _ _ _
  obtain ⟨nm, bs, mro, ns, qn, hd, sn, sb, ab, col, del⟩ := cd
  dsimp only at dct
  subst dct
  unfold storeInOwnDict ownDictForStores
  repeat (first | with_reducible refine PySem.HandSPX.store_in_new ?_ ?_ | with_reducible refine wpAny_loadPart_at ho ?_ | with_reducible refine l1.at ?_ | wp_step)
  · exact ⟨_, #[], _, (Heap.get?_update_ne _ _ _ _ na.symm).trans (Heap.get?_push_at rfl rfl), rfl, fun _ z => absurd z (by simp), fun _ => rfl⟩
  · intro h' tk' n1 same
    have ho' : (hp.push { cls := .type "dict", data := .dict #[] }).get? a = some { cls := .ref C, data := .fields fv } := Heap.get?_push_of_some _ ho
    refine k h' tk' hp.objs.size ?_ (Nat.le_refl _) na.symm ((same.2 a na).trans (Heap.get?_update_self _ ho' rfl)) n1
    intro c o hca z
    have nc : c ≠ hp.objs.size := Nat.ne_of_lt (Heap.lt_size z)
    exact (same.2 c nc).trans ((Heap.get?_update_ne _ _ _ _ hca).trans (Heap.get?_push_of_some _ z))
end
section
variable {X : Cx} {pins : List (Addr × Obj)} {σ : L2.St} {H : Hp} {s : Shared} {a C dx : Addr} {f : Str} {y : V} {u : Value} {Q : Unit → Shared → Prop} {E : Value → Shared → Prop} {A : Around}
theorem gst_new {b : XB} (T : GexC b X.K C) (I : Inv X pins σ H s) (e : H a = some (exo a C none)) (no : PySem.W.findIn X.K (.ref C) f = some none) (ry : RelV y u)
    (k : ∀ dx s', H dx = none → dx ≠ a → Inv X pins σ (upd (upd H dx (exd dx [(f, y)])) a (exo a C (some dx))) s' → Q () s') :
    wpAny (model X.prog X.w) A (setAttr (.ref a) f u) Q E s := by
  obtain ⟨nm, q, N, bs, bm, sn, sub, ab, col, dd, k0, k1, k2, k3, k5, hC, hbm⟩ := T.cls
  have hcl : ∃ cd, PySem.W.clsIn X.K C = some cd ∧ cd.mro = .ref C :: bm ∧ cd.hasDict = true := by
    unfold PySem.W.clsIn
    rw [hC]
    exact ⟨_, rfl, rfl, rfl⟩
  obtain ⟨cd, hc, hm, hdt⟩ := hcl
  have on : onT b.tl cd.mro = true := by
    rw [hm]
    exact hbm
  obtain ⟨t1, ho⟩ := exo_at I.hok e
  obtain ⟨hp, g, d, t, os⟩ := s
  refine PySem.W.set_plain I.kIn (od := none) ⟨ho, rfl, rfl, trivial⟩ T.sa (gex_osa T.B I.kIn ho hc on hdt no fun h' tk' dx kp dn dne hx hn => ?_)
  have hnd : H dx = none := I.hok.fresh dn
  have nd : ∀ {c : Addr} {o : Obj}, hp.get? c = some o → c ≠ dx := fun q => Nat.ne_of_lt (Nat.lt_of_lt_of_le (Heap.lt_size q) dn)
  have na : ∀ {c : Addr}, H c = none → c ≠ a := fun n => by
    rintro rfl
    rw [e] at n
    cases n
  have new_ : ∀ {c : Addr} {o : HO}, H c = some o → o ≠ exo a C none → upd (upd H dx (exd dx [(f, y)])) a (exo a C (some dx)) c = some o := fun {c o} hc ne => by
    have c1 : c ≠ a := by
      rintro rfl
      rw [e] at hc
      exact ne (Option.some.inj hc).symm
    rw [upd_ne c1, upd_ne (ne_of_none hc hnd), hc]
  have un : Un X.fs [] H (upd (upd H dx (exd dx [(f, y)])) a (exo a C (some dx))) hp h' := {
    keep := fun c o z n _ _ => kp c o (na n) z
    slot := fun c o z n _ _ => ⟨o.slots, kp c o (na n) z⟩
    free := fun c o z n _ => (upd_ne (na n)).trans ((upd_ne (nd z)).trans n)
    there := fun c o z _ => by
      by_cases hca : c = a
      · exact ⟨_, hca ▸ hx⟩
      · exact ⟨o, kp c o hca z⟩
    tups := fun c xs z => new_ z (Ne.symm exo_tup)
    frzs := fun c o v z => new_ z (Ne.symm exo_frz)
    tbls := fun c ps z => ⟨#[], (new_ z (Ne.symm exo_tbl)).trans (by simp)⟩ }
  refine k dx _ hnd dne (I.un (t' := tk') un fun c o z => ?_)
  by_cases hca : c = a
  · subst hca
    rw [upd_same] at z
    cases z
    exact exo_ok hx
  rw [upd_ne hca] at z
  by_cases hcd : c = dx
  · subst hcd
    rw [upd_same] at z
    cases z
    exact exd_ok hn (relO_put (fs := []) ry fun _ => True.intro)
  rw [upd_ne hcd] at z
  have old := I.hok c o z
  refine old.stay (fun j v hj q => kp j v ?_ q) (fun j hj => new_ hj (Ne.symm exo_own)) (fun j xs hj => new_ hj (Ne.symm exo_tup))
  rcases hj with rfl | hj
  · exact hca
  · exact at_ne e hj exo_own
end
/-- self.f = e, in the __init__ of such a class -/
def tGst (b : XB) (K : PySem.W.Frag) (f : Str) (to te : TE) : TS := fun D σ H => te σ H fun y H1 => to σ H1 fun x H2 => ∃ a C : Addr, x = .ref a ∧ GexC b K C ∧
  PySem.W.findIn K (.ref C) f = some none ∧ H2 a = some (exo a C none) ∧ ∀ dx, H2 dx = none → dx ≠ a → D.nx σ (upd (upd H2 dx (exd dx [(f, y)])) a (exo a C (some dx)))
section
variable {X : Cx} {o e : Expr} {es : List Expr} {to te : TE} {ta : TA} {f : Str} {p p' pos : Pos} {b : XB}
theorem ps_gst (ho : PE X o to) (he : PE X e te) (hs : swapsWith e (some (.Attribute o f p')) pos.line X.env = pure false := by rfl) :
    PS X (.Assign [.Attribute o f p'] e pos) (tGst b X.K f to te) := by
  constructor
  intro pins s σ H D I h
  refine plainObj_wpAny_Assign_Attribute ?_ hs
  refine thn (he.run pins s σ H _ I h) ?_
  rintro v s1 ⟨y, H1, I1, ry, h1⟩
  refine thn (ho.run pins s1 σ H1 _ I1 h1) ?_
  rintro u s2 ⟨x, H2, I2, rx, a, C, rfl, T, no, ea, k⟩
  obtain rfl : u = Value.ref a := rx
  exact gst_new T I2 ea no ry fun dx s' n ne J => ⟨σ, _, J, k dx n ne⟩
/-- C(e, ..) where it is raised, C over b -/
theorem pmk_gex {CX : CXT} {x : Str} {C fI : Addr} {k : Nat} {fd : FuncData} {ps : List Str} {sp : Sp} (T : GexC b X.K C) (iC : PySem.W.findIn X.K (.ref C) "__init__" = some (some (.ref fI)))
    (tI : PySem.W.typeIn X.K (.ref fI) = some (.type "function")) (F1 : FnOk X.prog X.w X.K X.mg X.base CX k fI fd ps sp) (hr : Room (k + 1) X.A) (hb : Binds X.K fd ps [])
    (hx : Passes CX X (fun _ _ _ => False)) (hg : Gl X x) (hm : X.mg x = some (.ref C)) (ha : PA X (e :: es) ta)
    (hdb : (x == ("__debug__" : Str)) = false := by decide) (he : starEach (e :: es) X.env = (false, eval e X.env) :: starEach es X.env := by rfl)
    (hpl : (backTo pos (starEach es X.env)).any (·.1) = false := by rfl) :
    PMk X (.Call (.Name x p) (e :: es) [] pos) (tMkO C sp [] ta) := by
  intro pins s σ H Q I h
  obtain ⟨nm, q, N, bs, bm, sn, sub, ab, col, dd, k0, k1, k2, k3, k5, hC, hbm⟩ := T.cls
  refine wpAny_Call_Name_kw (ld_glob I hg hm ?_ hdb)
  refine PySem.W.callWith_K (h₀ := X.base) I.ok.mod.kin T.kC (thn (ha.run pos pins s σ H _ I h) ?_) he hpl
  rintro us ⟨hp, g, dr, tk, os⟩ ⟨vs, H1, I1, r1, hz, q1⟩
  refine ⟨I1.kIn, ?_⟩
  show wpAny _ _ (call (.ref C) us) _ _ _
  have big : hp.objs.size ≤ hp.objs.size + 1 := Nat.le_succ _
  have free : H1 (hp.objs.size + 1) = none := I1.hok.fresh big
  have todo := q1 (hp.objs.size + 1) free
  have kp : ∀ c o, hp.get? c = some o → ((hp.push (PySem.W.kdv_tup us)).push (PySem.HandSPX.excO C hp.objs.size)).get? c = some o :=
    fun c o z => Heap.get?_push_of_some _ (Heap.get?_push_of_some _ z)
  have there : ((hp.push (PySem.W.kdv_tup us)).push (PySem.HandSPX.excO C hp.objs.size)).get? (hp.objs.size + 1) = some (PySem.HandSPX.excO C hp.objs.size) := by heap_get
  have J : Inv X pins σ (upd H1 (hp.objs.size + 1) (exo (hp.objs.size + 1) C none))
      ⟨(hp.push (PySem.W.kdv_tup us)).push (PySem.HandSPX.excO C hp.objs.size), g, dr, tk, os⟩ := I1.laid kp big (exo_ok there)
  have rs : Vals (V.ref (hp.objs.size + 1) :: (vs ++ [])) ((Value.ref (hp.objs.size + 1) :: us) ++ []) := .cons rfl (r1.append .nil)
  have len : (Value.ref (hp.objs.size + 1) :: us ++ []).length = ps.length := by
    have z := rs.length
    rw [F1.len _ _ _ _ todo] at z
    exact z.symm
  have fits : us.length ≤ sizeLine := by
    rw [← Paired.length r1, sizeLine_eq]
    omega
  have run := F1.run _ X.stack _ _ ⟨Value.ref (hp.objs.size + 1) :: us, []⟩ ((Value.ref (hp.objs.size + 1) :: us) ++ []) _ _ (fun _ _ _ => False)
    (hr.make C us []) (J.env0.make C us []) (hb _ (Value.ref (hp.objs.size + 1) :: us) J.kIn len) rs todo
  refine wpAny_call (PySem.HandSPX.call_own T.B.F (fun Y => onT_has T.B Y bm hbm) (I1.kIn _ _ hC) (PySem.W.looks_findIn I1.kIn iC) (fun self => PySem.W.bind_fn I1.kIn self tI) fits (codeAny_mono run fun r s' z => ?_))
  match r, z with
  | .error er, z => exact hx pins σ _ _ er s' J z
  | .ok (.ret u), z =>
    obtain ⟨v, H2, os2, bare2, un2, hok2, rv, rfl, d, fs, ea, ed, hd1, q2⟩ := z
    obtain ⟨h2, g2, d2, t2, os'⟩ := s'
    exact ⟨rv, mk_end (raises_own T.exC T.tyC) I1 big kp un2 hok2 os2 bare2 ea ed hd1 q2⟩
  | .ok .next, z => exact False.elim z
  | .ok .brk, z => exact False.elim z
  | .ok .cont, z => exact False.elim z
end
/-- an error class over b at C whose __init__ is the def at fI; fs: its fields -/
structure GcC (b : XB) (K : PySem.W.Frag) (C fI : Addr) (fs : List Str) : Prop where
  gex : GexC b K C
  xf : XfC K C
  is_ : ExcC K C
  no : ∀ f ∈ fs, PySem.W.findIn K (.ref C) f = some none
  ini : PySem.W.findIn K (.ref C) "__init__" = some (some (.ref fI))
  tI : PySem.W.typeIn K (.ref fI) = some (.type "function")
  exm : PySem.W.exmOne K (.ref C) (.ref C) = some true
def gcB (b : XB) (K : PySem.W.Frag) (C fI : Addr) (fs : List Str) : Bool :=
  gexB b K C && (xfB K C && (decide (PySem.W.findIn K (.ref C) "__setattr__" = some (some (.builtin "object.__setattr__"))) &&
  (decide (PySem.W.typeIn K (.ref C) = some (.type "type")) && (PySem.W.keepIn K (.ref C) &&
  (decide (PySem.W.findIn K (.ref C) "__class__" = some (some (.builtin "object.__class__"))) &&
  (decide (PySem.W.specialIn K (.builtin "object.__class__") "__get__" = some (some (.builtin "getset_descriptor.__get__"))) &&
  (decide (PySem.W.takesIn K (.builtin "object.__class__") = some true) && (decide (PySem.W.mroIn K C (.type "object") = some true) &&
  (fs.all (fun f => decide (PySem.W.findIn K (.ref C) f = some none)) && (decide (PySem.W.findIn K (.ref C) "__init__" = some (some (.ref fI))) &&
  (decide (PySem.W.typeIn K (.ref fI) = some (.type "function")) && decide (PySem.W.exmOne K (.ref C) (.ref C) = some true))))))))))))
theorem gcB_ok {b : XB} (B : XBok b) {K : PySem.W.Frag} {C fI : Addr} {fs : List Str} (h : gcB b K C fI fs = true) : GcC b K C fI fs := by
  obtain ⟨e1, h⟩ := Bool.and_eq_true_iff.mp h
  obtain ⟨e2, h⟩ := Bool.and_eq_true_iff.mp h
  obtain ⟨e3, h⟩ := Bool.and_eq_true_iff.mp h
  obtain ⟨e4, h⟩ := Bool.and_eq_true_iff.mp h
  obtain ⟨e5, h⟩ := Bool.and_eq_true_iff.mp h
  obtain ⟨e6, h⟩ := Bool.and_eq_true_iff.mp h
  obtain ⟨e7, h⟩ := Bool.and_eq_true_iff.mp h
  obtain ⟨e8, h⟩ := Bool.and_eq_true_iff.mp h
  obtain ⟨e9, h⟩ := Bool.and_eq_true_iff.mp h
  obtain ⟨e10, h⟩ := Bool.and_eq_true_iff.mp h
  obtain ⟨e11, h⟩ := Bool.and_eq_true_iff.mp h
  obtain ⟨e12, e13⟩ := Bool.and_eq_true_iff.mp h
  have x := xfB_ok e2
  exact ⟨⟨B, gexB_cls e1, of_decide_eq_true e3, x.exC, of_decide_eq_true e4, e5⟩, x,
    ⟨x.ga, x.gg, x.exC, x.hdC, of_decide_eq_true e6, of_decide_eq_true e7, of_decide_eq_true e8, of_decide_eq_true e9⟩,
    fun f hf => of_decide_eq_true (List.all_eq_true.mp e10 f hf), of_decide_eq_true e11, of_decide_eq_true e12, of_decide_eq_true e13⟩
/-- C(e) where it is raised, C over b -/
theorem pmk_gini {X : Cx} {b : XB} {x f : Str} {C fI : Addr} {fd : FuncData} {fs : List Str} {k : Nat} {ps : List Str} {e : Expr} {ta : TA} {p pos : Pos}
    (T : GcC b X.K C fI fs) (F : FnOk X.prog X.w X.K X.mg X.base CX0 k fI fd ps (sp_ini C f)) (hr : Room (k + 1) X.A) (hb : Binds X.K fd ps [])
    (hm : X.mg x = some (.ref C)) (ha : PA X [e] ta) (hg : Gl X x := by rfl)
    (hdb : (x == ("__debug__" : Str)) = false := by decide) (he : starEach [e] X.env = (false, eval e X.env) :: starEach [] X.env := by rfl)
    (hpl : (backTo pos (starEach [] X.env)).any (·.1) = false := by rfl) :
    PMk X (.Call (.Name x p) [e] [] pos) (tMkO C (sp_ini C f) [] ta) :=
  pmk_gex T.gex T.ini T.tI F hr hb (fun _ _ _ _ _ _ _ h => h.elim) hg hm ha hdb he hpl
end Vg

set_option Elab.async false
set_option linter.all false
set_option maxRecDepth 100000
set_option maxHeartbeats 2000000
/-! Own layer: maps that commute, by index. -/
namespace Vg
open PySem PySem.Spec PyProof.Rows L2
theorem emod_cg {a b m : Int} : a % m = b % m ↔ Cg m a b := by
  rw [Int.emod_eq_emod_iff_emod_sub_eq_zero]
  exact ⟨Int.dvd_of_emod_eq_zero, Int.emod_eq_zero_of_dvd⟩
/-- what divides a product -/
theorem dvd_gcd_iff {s b x : Int} (hs : 1 ≤ s) : s ∣ x * b ↔ s / ((Int.gcd s b : Nat) : Int) ∣ x := by
  have hp : 1 ≤ ((Int.gcd s b : Nat) : Int) := by rw [Int.gcd_comm]; exact gcd_posI hs
  have d1 : ((Int.gcd s b : Nat) : Int) ∣ s := Int.gcd_dvd_left _ _
  have d2 : ((Int.gcd s b : Nat) : Int) ∣ b := Int.gcd_dvd_right _ _
  have n0 : 0 < Nat.gcd s.natAbs b.natAbs := by
    show 0 < Int.gcd s b
    omega
  have co : Nat.Coprime (s.natAbs / Nat.gcd s.natAbs b.natAbs) (b.natAbs / Nat.gcd s.natAbs b.natAbs) := Nat.coprime_div_gcd_div_gcd n0
  constructor
  · intro h
    have h1 : s.natAbs ∣ x.natAbs * b.natAbs := by
      have := Int.natAbs_dvd_natAbs.mpr h
      rwa [Int.natAbs_mul] at this
    have e1 : s.natAbs / Nat.gcd s.natAbs b.natAbs * Nat.gcd s.natAbs b.natAbs = s.natAbs := Nat.div_mul_cancel (Nat.gcd_dvd_left _ _)
    have e2 : b.natAbs / Nat.gcd s.natAbs b.natAbs * Nat.gcd s.natAbs b.natAbs = b.natAbs := Nat.div_mul_cancel (Nat.gcd_dvd_right _ _)
    have h2 : s.natAbs / Nat.gcd s.natAbs b.natAbs ∣ x.natAbs * (b.natAbs / Nat.gcd s.natAbs b.natAbs) := by
      refine Nat.dvd_of_mul_dvd_mul_right n0 ?_
      rw [e1, Nat.mul_assoc, e2]
      exact h1
    have h3 := co.dvd_of_dvd_mul_right h2
    have h4 : (s / ((Int.gcd s b : Nat) : Int)).natAbs = s.natAbs / Nat.gcd s.natAbs b.natAbs := by
      rw [Int.natAbs_ediv_of_dvd d1]
      rfl
    rw [← Int.natAbs_dvd_natAbs, h4]
    exact h3
  · rintro ⟨k, e⟩
    obtain ⟨j, ej⟩ := d2
    have e1 : s / ((Int.gcd s b : Nat) : Int) * ((Int.gcd s b : Nat) : Int) = s := Int.ediv_mul_cancel d1
    refine ⟨k * j, ?_⟩
    calc x * b = (s / ((Int.gcd s b : Nat) : Int) * k) * (((Int.gcd s b : Nat) : Int) * j) := by rw [← e, ← ej]
      _ = (s / ((Int.gcd s b : Nat) : Int) * ((Int.gcd s b : Nat) : Int)) * (k * j) := by
        simp only [Int.mul_assoc, Int.mul_left_comm]
      _ = s * (k * j) := by rw [e1]
def Cmt (m : Int) (f g : Mp) : Prop := cmp m f g = cmp m g f
theorem cmt_iff {m : Int} {f g : Mp} : Cmt m f g ↔ Cg m ((f.1 - 1) * g.2) ((g.1 - 1) * f.2) := by
  have e : (f.1 - 1) * g.2 - (g.1 - 1) * f.2 = (f.1 * g.2 + f.2) - (g.1 * f.2 + g.2) := by
    rw [Int.sub_mul, Int.sub_mul]
    omega
  have q : Cg m ((f.1 - 1) * g.2) ((g.1 - 1) * f.2) ↔ Cg m (f.1 * g.2 + f.2) (g.1 * f.2 + g.2) := by
    unfold Cg
    rw [e]
  rw [q, ← emod_cg]
  unfold Cmt cmp
  rw [Prod.mk.injEq, Int.mul_comm g.1 f.1]
  exact ⟨fun h => h.2.symm, fun h => ⟨rfl, h.symm⟩⟩
section
variable {m : Int} {f g h : Mp}
theorem cStep_eq (hm : 1 ≤ m) : cStep m f = cShift m f / ((Int.gcd (cShift m f) f.2 : Nat) : Int) := rfl
/-- the multipliers for which a shift is found -/
theorem cStep_iff (hm : 1 ≤ m) {x : Int} : cShift m f ∣ (x - 1) * f.2 ↔ cStep m f ∣ x - 1 := dvd_gcd_iff (cStep_ok (f := f) hm).1
theorem cmt_un (hm : 2 ≤ m) (og : Ok m g) (c : Cmt m f g) : cUn m f g.1.toNat = true := by
  have d := cmt_iff.mp c
  obtain ⟨c1, c2, c3, c4, c5, c6⟩ := cStep_ok (m := m) (f := f) (by omega)
  have cf : cShift m f ∣ f.1 - 1 := Int.gcd_dvd_left _ _
  have d2 : cShift m f ∣ (f.1 - 1) * g.2 - (g.1 - 1) * f.2 := Int.dvd_trans c3 d
  have d3 : cShift m f ∣ (g.1 - 1) * f.2 := by
    have := Int.dvd_sub (Int.dvd_trans cf (Int.dvd_mul_right _ g.2)) d2
    rwa [show (f.1 - 1) * g.2 - ((f.1 - 1) * g.2 - (g.1 - 1) * f.2) = (g.1 - 1) * f.2 by omega] at this
  have d4 := (cStep_iff (by omega)).mp d3
  have b := og.bd
  unfold cUn unU
  refine decide_eq_true ⟨?_, ?_⟩
  · rw [Int.toNat_of_nonneg b.1]
    exact emod_cg.mpr d4
  · rw [Int.toNat_of_nonneg b.1]
    have := og.u.2.2
    rw [gcdI_eq b.1 (by omega)] at this
    omega
theorem un_step {x : Nat} (h : cUn m f x = true) : cStep m f ∣ (x : Int) - 1 ∧ Int.gcd (x : Int) m = 1 := by
  have := of_decide_eq_true h
  exact ⟨emod_cg.mp this.1, this.2⟩
theorem cntU_mono {U : Nat → Bool} {a b : Nat} (h : a ≤ b) : cntU U a ≤ cntU U b := by
  induction b with
  | zero =>
    have : a = 0 := by omega
    rw [this]
    exact Nat.le_refl _
  | succ b ih =>
    rcases Nat.lt_or_ge a (b + 1) with c | c
    · have := ih (by omega)
      unfold cntU at *
      rw [List.range_succ, List.filter_append, List.length_append]
      omega
    · have : a = b + 1 := by omega
      rw [this]
      exact Nat.le_refl _
theorem cntU_lt {U : Nat → Bool} {a b : Nat} (h : a < b) (u : U a = true) : cntU U a < cntU U b := by
  have := cntU_mono (U := U) (show a + 1 ≤ b from h)
  have e : cntU U (a + 1) = cntU U a + 1 := by
    unfold cntU
    rw [List.range_succ, List.filter_append, List.length_append, List.filter_cons, if_pos u]
    rfl
  omega
/-- the index of a map that commutes with f -/
def cIx (m : Int) (f g : Mp) : Int := (cntU (cUn m f) g.1.toNat : Int) * cShift m f + g.2 / (m / cShift m f)
theorem cWid (hm : 2 ≤ m) : 1 ≤ m / cShift m f ∧ m / cShift m f ≤ m ∧ m / cShift m f * cShift m f = m := by
  obtain ⟨c1, c2, c3, c4, c5, c6⟩ := cStep_ok (m := m) (f := f) (by omega)
  have e := Int.ediv_mul_cancel c3
  refine ⟨?_, ?_, e⟩
  · have := Int.ediv_le_ediv (show 0 < cShift m f by omega) c2
    rwa [Int.ediv_self (by omega)] at this
  · exact Int.ediv_le_self _ (by omega)
theorem cQ (hm : 2 ≤ m) (og : Ok m g) : 0 ≤ g.2 / (m / cShift m f) ∧ g.2 / (m / cShift m f) < cShift m f := by
  obtain ⟨w1, w2, w3⟩ := cWid (m := m) (f := f) hm
  have b := og.bd
  refine ⟨Int.ediv_nonneg b.2.2.1 (by omega), ?_⟩
  refine Int.ediv_lt_of_lt_mul (by omega) ?_
  rw [Int.mul_comm, w3]
  exact b.2.2.2
theorem cIx_lt (hm : 2 ≤ m) (og : Ok m g) (c : Cmt m f g) : 0 ≤ cIx m f g ∧ cIx m f g < cCount m f := by
  obtain ⟨c1, c2, c3, c4, c5, c6⟩ := cStep_ok (m := m) (f := f) (by omega)
  have q := cQ (f := f) hm og
  have b := og.bd
  have l := cntU_lt (show g.1.toNat < m.toNat by omega) (cmt_un hm og c)
  have l2 : ((cntU (cUn m f) g.1.toNat : Int) + 1) * cShift m f ≤ (cntU (cUn m f) m.toNat : Int) * cShift m f := Int.mul_le_mul_of_nonneg_right (by omega) (by omega)
  have l3 : 0 ≤ (cntU (cUn m f) g.1.toNat : Int) * cShift m f := Int.mul_nonneg (by omega) (by omega)
  rw [Int.add_mul] at l2
  unfold cIx cCount
  omega
/-- g before h -/
def lexM (g h : Mp) : Prop := g.1 < h.1 ∨ g.1 = h.1 ∧ g.2 < h.2
theorem lex_tri (g h : Mp) : lexM g h ∨ g = h ∨ lexM h g := by
  unfold lexM
  rcases Int.lt_trichotomy g.1 h.1 with c | c | c
  · exact .inl (.inl c)
  · rcases Int.lt_trichotomy g.2 h.2 with k | k | k
    · exact .inl (.inr ⟨c, k⟩)
    · exact .inr (.inl (Prod.ext c k))
    · exact .inr (.inr (.inr ⟨c.symm, k⟩))
  · exact .inr (.inr (.inl c))
theorem cIx_lex (hm : 2 ≤ m) (og : Ok m g) (oh : Ok m h) (cg : Cmt m f g) (ch : Cmt m f h) (l : lexM g h) : cIx m f g < cIx m f h := by
  obtain ⟨c1, c2, c3, c4, c5, c6⟩ := cStep_ok (m := m) (f := f) (by omega)
  obtain ⟨w1, w2, w3⟩ := cWid (m := m) (f := f) hm
  have q := cQ (f := f) hm og
  have q' := cQ (f := f) hm oh
  have b := og.bd
  have b' := oh.bd
  rcases l with l | ⟨l1, l2⟩
  · have l0 := cntU_lt (show g.1.toNat < h.1.toNat by omega) (cmt_un hm og cg)
    have l2 : ((cntU (cUn m f) g.1.toNat : Int) + 1) * cShift m f ≤ (cntU (cUn m f) h.1.toNat : Int) * cShift m f := Int.mul_le_mul_of_nonneg_right (by omega) (by omega)
    rw [Int.add_mul] at l2
    unfold cIx
    omega
  · have d : Cg m ((f.1 - 1) * h.2) ((f.1 - 1) * g.2) := (cmt_iff.mp ch).trans (by rw [← l1]; exact (cmt_iff.mp cg).symm)
    have d2 : m ∣ (h.2 - g.2) * (f.1 - 1) := by
      rw [Int.mul_comm, Int.mul_sub]
      exact d
    have d3 := (dvd_gcd_iff (show 1 ≤ m by omega)).mp d2
    rw [Int.gcd_comm] at d3
    change m / cShift m f ∣ h.2 - g.2 at d3
    have ge : m / cShift m f ≤ h.2 - g.2 := Int.le_of_dvd (by omega) d3
    have st : g.2 / (m / cShift m f) + 1 ≤ h.2 / (m / cShift m f) := by
      have := Int.ediv_le_ediv (show 0 < m / cShift m f by omega) (show g.2 + 1 * (m / cShift m f) ≤ h.2 by omega)
      rwa [Int.add_mul_ediv_right _ _ (by omega)] at this
    unfold cIx
    rw [l1]
    omega
theorem cIx_inj (hm : 2 ≤ m) (og : Ok m g) (oh : Ok m h) (cg : Cmt m f g) (ch : Cmt m f h) (e : cIx m f g = cIx m f h) : g = h := by
  rcases lex_tri g h with l | l | l
  · have := cIx_lex hm og oh cg ch l
    omega
  · exact l
  · have := cIx_lex hm oh og ch cg l
    omega
theorem cIx_mono (hm : 2 ≤ m) (og : Ok m g) (oh : Ok m h) (cg : Cmt m f g) (ch : Cmt m f h) (e : cIx m f g < cIx m f h) : lexM g h := by
  rcases lex_tri g h with l | l | l
  · exact l
  · rw [l] at e
    omega
  · have := cIx_lex hm oh og ch cg l
    omega
/-- the map at an index -/
theorem cAt {x : Nat} {st r : Int} {tt : Int} (hm : 2 ≤ m) (hx : (x : Int) < m) (hu : cUn m f x = true) (S : Slv m (f.1 - 1) (((x : Int) - 1) * f.2) st tt) (r0 : 0 ≤ r) (r1 : r < cShift m f) :
    Ok m ((x : Int), st + r * tt) ∧ Cmt m f ((x : Int), st + r * tt) ∧ cIx m f ((x : Int), st + r * tt) = (cntU (cUn m f) x : Int) * cShift m f + r := by
  obtain ⟨c1, c2, c3, c4, c5, c6⟩ := cStep_ok (m := m) (f := f) (by omega)
  obtain ⟨w1, w2, w3⟩ := cWid (m := m) (f := f) hm
  have s0 := S.s0
  have s1 := S.s1
  have t1 := S.t1
  have dv : tt * cShift m f = m := S.dv
  have et : m / cShift m f = tt := Int.ediv_eq_of_eq_mul_left (by omega) dv.symm
  have rt : (r + 1) * tt ≤ cShift m f * tt := Int.mul_le_mul_of_nonneg_right (by omega) (by omega)
  have r2 : 0 ≤ r * tt := Int.mul_nonneg r0 (by omega)
  rw [Int.add_mul, Int.one_mul, Int.mul_comm (cShift m f), dv] at rt
  have un := un_step hu
  refine ⟨⟨⟨by show 0 ≤ (x : Int); omega, hx, ?_⟩, by show 0 ≤ st + r * tt; omega, by show st + r * tt < m; omega⟩, ?_, ?_⟩
  · show gcdI (x : Int) m = 1
    rw [gcdI_eq (by omega) (by omega), un.2]
    rfl
  · refine cmt_iff.mpr ((S.iff _).mpr ?_)
    show tt ∣ st + r * tt - st
    exact ⟨r, by rw [Int.mul_comm]; omega⟩
  · unfold cIx
    show (cntU (cUn m f) ((x : Int)).toNat : Int) * cShift m f + (st + r * tt) / (m / cShift m f) = _
    rw [et, Int.toNat_natCast, Int.add_mul_ediv_right _ _ (by omega), Int.ediv_eq_zero_of_lt s0 s1, Int.zero_add]
end
theorem same_none {H H' : Hp} {a : Addr} (s : Same H H') (h : H' a = none) : H a = none := by
  cases e : H a with
  | none => rfl
  | some o => rw [s _ _ e] at h; cases h
/-! ### promises -/
def sp_comat (K : PySem.W.Frag) : Sp := fun vs H Q _ => ∃ (m : Int) (f : Mp) (t : Addr) (i : Int), vs = [.int m, .ref t, .int i] ∧ TpAt K H t f ∧ 2 ≤ m ∧ m ≤ 1000000000 ∧ Ok m f ∧ Sm m ∧ 0 ≤ i ∧ i < cCount m f ∧
  ∀ H' q g, Same H H' → H q = none → H' q = some (.tup [.int g.1, .int g.2]) → Ok m g → Cmt m f g → cIx m f g = i → Q (.ref q) H'
theorem w_comat {K : PySem.W.Frag} {H : Hp} {Q : VK} {E : XK} {m : Int} {f : Mp} {t : Addr} {i : Int} (ht : TpAt K H t f) (hm : 2 ≤ m) (h9 : m ≤ 1000000000) (hf : Ok m f) (hs : Sm m) (i0 : 0 ≤ i) (i1 : i < cCount m f)
    (h : ∀ H' q g, Same H H' → H q = none → H' q = some (.tup [.int g.1, .int g.2]) → Ok m g → Cmt m f g → cIx m f g = i → Q (.ref q) H') : sp_comat K [.int m, .ref t, .int i] H Q E :=
  ⟨m, f, t, i, rfl, ht, hm, h9, hf, hs, i0, i1, h⟩
/-- an index that is none: the error, x its value -/
def sp_comatX (K : PySem.W.Frag) (C : Addr) : Sp := fun vs H _ E => ∃ (m : Int) (f : Mp) (t : Addr) (x : V), vs = [.int m, .ref t, x] ∧ TpAt K H t f ∧ 2 ≤ m ∧ m ≤ 1000000000 ∧ Ok m f ∧ Sm m ∧ Kd K H x ∧
  betw x 0 (cCount m f - 1) = false ∧ ∀ H', Same H H' → ∀ d, H' d = none → E (.ref C) (some d) (upd H' d (.xd [("value", x)]))
def sp_comix (K : PySem.W.Frag) : Sp := fun vs H Q _ => ∃ (m : Int) (f : Mp) (t : Addr) (v : V) (b : Bool), vs = [.int m, .ref t, v] ∧ TpAt K H t f ∧ 2 ≤ m ∧ m ≤ 1000000000 ∧ Ok m f ∧ Sm m ∧ IsMp K H m v b ∧
  (b = false → ∀ H', Same H H' → Q .non H') ∧
  (b = true → ∃ (p : Addr) (g : Mp), v = .ref p ∧ TpAt K H p g ∧ Ok m g ∧ ∀ H', Same H H' → (Cmt m f g → Q (.int (cIx m f g)) H') ∧ (¬ Cmt m f g → Q .non H'))
theorem mapXY_ok {m : Int} {g : Mp} (h : Ok m g) : mapXY m (.int g.1) (.int g.2) = true := by
  have b := h.bd
  show ((decide (0 ≤ g.1) && decide (g.1 ≤ m - 1)) && ((decide (0 ≤ g.2) && decide (g.2 ≤ m - 1)) && decide (gcdI g.1 m = 1))) = true
  rw [decide_eq_true b.1, decide_eq_true (show g.1 ≤ m - 1 by omega), decide_eq_true b.2.2.1, decide_eq_true (show g.2 ≤ m - 1 by omega), decide_eq_true h.u.2.2]
  rfl
theorem isMp_ok {K : PySem.W.Frag} {H : Hp} {m : Int} {g : Mp} {p : Addr} (e : H p = some (.tup [.int g.1, .int g.2])) (h : Ok m g) : IsMp K H m (.ref p) true := by
  have z := IsMp.two (K := K) (m := m) e (kd_int _) (kd_int _)
  rwa [mapXY_ok h] at z
theorem w_comix {K : PySem.W.Frag} {H : Hp} {Q : VK} {E : XK} {m : Int} {f g : Mp} {t p : Addr} (ht : TpAt K H t f) (hm : 2 ≤ m) (h9 : m ≤ 1000000000) (hf : Ok m f) (hs : Sm m) (ep : H p = some (.tup [.int g.1, .int g.2])) (og : Ok m g) (c : Cmt m f g)
    (h : ∀ H', Same H H' → Q (.int (cIx m f g)) H') : sp_comix K [.int m, .ref t, .ref p] H Q E :=
  ⟨m, f, t, .ref p, true, rfl, ht, hm, h9, hf, hs, isMp_ok ep og, (fun z => nomatch z), fun _ => ⟨p, g, rfl, TpAt.of ep, og, fun H' s => ⟨fun _ => h H' s, fun n => absurd c n⟩⟩⟩
end Vg

set_option Elab.async false
set_option linter.all false
set_option maxRecDepth 100000
set_option maxHeartbeats 2000000
/-! Own layer: how many units stand in a class. -/
namespace Vg
open PySem PySem.Spec PyProof.Rows L2
/-- a count over whole periods -/
theorem cntN_per {T : Nat} {A : Nat → Bool} (h : ∀ i, A i = A (i % T)) : ∀ s, cntN (s * T) A = s * cntN T A
  | 0 => by rw [Nat.zero_mul, Nat.zero_mul]; rfl
  | s + 1 => by
    have ih := cntN_per h s
    have e : (List.range T).countP (A ∘ fun j => s * T + j) = cntN T A := by
      unfold cntN
      refine List.countP_congr fun i hi => ?_
      have := List.mem_range.mp hi
      simp only [Function.comp]
      rw [h (s * T + i), Nat.mul_add_mod_self_right, Nat.mod_eq_of_lt this]
    unfold cntN at ih e ⊢
    rw [Nat.add_mul, Nat.one_mul, List.range_add, List.countP_append, List.countP_map, ih, e, Nat.add_mul, Nat.one_mul]
/-- the class of start, without the multiples of the primes in done -/
def uD (start step : Int) (done : List Int) (x : Nat) : Bool := decide ((x : Int) % step = start ∧ ∀ p ∈ done, ¬ p ∣ step → ¬ p ∣ (x : Int))
def cD (m start step : Int) (done : List Int) : Nat := cntN m.toNat (uD start step done)
/-- its period -/
def tD (step : Int) : List Int → Int
  | [] => step
  | q :: qs => (if q ∣ step then 1 else q) * tD step qs
section
variable {m start step : Int}
theorem cD_nil (m1 : 1 ≤ m) (t1 : 1 ≤ step) (td : step ∣ m) (s0 : 0 ≤ start) (s1 : start < step) : (cD m start step [] : Int) = m / step := by
  obtain ⟨k, e⟩ := td
  have k0 : 0 ≤ k := by
    rcases Int.lt_or_le k 0 with c | c
    · have := Int.mul_le_mul_of_nonneg_left (show k ≤ -1 by omega) (show 0 ≤ step by omega)
      omega
    · exact c
  have e2 : m / step = k := by
    rw [e, Int.mul_comm]
    exact Int.mul_ediv_cancel _ (by omega)
  have e3 : m.toNat = k.toNat * step.toNat := by
    rw [e, Int.mul_comm, Int.toNat_mul k0 (by omega)]
  unfold cD
  rw [e2, e3]
  have h := cntN_mod (t := step.toNat) (r := start.toNat) (by omega) k.toNat
  have c : cntN (k.toNat * step.toNat) (uD start step []) = cntN (k.toNat * step.toNat) (fun i => decide (i % step.toNat = start.toNat)) := by
    refine cntN_cong fun i _ => ?_
    unfold uD
    have h1 : ((i % step.toNat : Nat) : Int) = (i : Int) % step := by
      rw [Int.natCast_emod, Int.toNat_of_nonneg (by omega)]
    rw [← h1]
    generalize i % step.toNat = y
    refine decide_eq_decide.mpr ⟨fun z => ?_, fun z => ⟨?_, (fun p hp => by cases hp)⟩⟩
    · have := z.1
      omega
    · omega
  rw [c, h]
  omega
theorem cD_same {done : List Int} {p : Int} (h : p ∣ step) : cD m start step (done ++ [p]) = cD m start step done := by
  unfold cD
  refine cntN_cong fun i _ => ?_
  unfold uD
  refine decide_eq_decide.mpr ⟨fun z => ⟨z.1, fun q hq => z.2 q (List.mem_append_left _ hq)⟩, fun z => ⟨z.1, fun q hq n => ?_⟩⟩
  rcases List.mem_append.mp hq with hq | hq
  · exact z.2 q hq n
  · rw [List.mem_singleton.mp hq] at n
    exact absurd h n
theorem tD_ok (m1 : 1 ≤ m) (t1 : 1 ≤ step) (td : step ∣ m) : ∀ done : List Int, done.Nodup → (∀ q ∈ done, q ∈ P6 ∧ q ∣ m) →
    1 ≤ tD step done ∧ tD step done ∣ m ∧ step ∣ tD step done ∧ (∀ q ∈ done, ¬ q ∣ step → q ∣ tD step done) ∧ ∀ p ∈ P6, p ∉ done → ¬ p ∣ step → ¬ p ∣ tD step done
  | [], _, _ => ⟨t1, td, Int.dvd_refl _, (fun q hq => by cases hq), fun p _ _ h => h⟩
  | q :: qs, nd, hq => by
    obtain ⟨n1, n2⟩ := List.nodup_cons.mp nd
    obtain ⟨i1, i2, i3, i4, i5⟩ := tD_ok m1 t1 td qs n2 fun r hr => hq r (List.mem_cons_of_mem _ hr)
    have q6 := hq q (List.mem_cons_self ..)
    have qb := p6_bd q6.1
    by_cases c : q ∣ step
    · have e : tD step (q :: qs) = tD step qs := by
        show (if q ∣ step then 1 else q) * tD step qs = _
        rw [if_pos c, Int.one_mul]
      rw [e]
      refine ⟨i1, i2, i3, fun r hr n => ?_, fun p hp hn => i5 p hp fun z => hn (List.mem_cons_of_mem _ z)⟩
      rcases List.mem_cons.mp hr with z | z
      · rw [z] at n
        exact absurd c n
      · exact i4 r z n
    · have e : tD step (q :: qs) = q * tD step qs := by
        show (if q ∣ step then 1 else q) * tD step qs = _
        rw [if_neg c]
      rw [e]
      have co := p6_gcd q6.1 (i5 q q6.1 n1 c)
      refine ⟨?_, ?_, Int.dvd_trans i3 (Int.dvd_mul_left _ _), fun r hr n => ?_, fun p hp hn n hd => ?_⟩
      · have := Int.mul_le_mul_of_nonneg_right (show 1 ≤ q by omega) (show 0 ≤ tD step qs by omega)
        omega
      · rw [Int.mul_comm]
        exact mul_dvd_co co i2 q6.2
      · rcases List.mem_cons.mp hr with z | z
        · rw [z]
          exact Int.dvd_mul_right _ _
        · exact Int.dvd_trans (i4 r z n) (Int.dvd_mul_left _ _)
      · rcases p6_prime hp hd with z | z
        · have := p6_dvd q6.1 hp z
          exact hn (by rw [this]; exact List.mem_cons_self ..)
        · exact i5 p hp (fun y => hn (List.mem_cons_of_mem _ y)) n z
theorem cD_next {done : List Int} {p : Int} (m1 : 1 ≤ m) (t1 : 1 ≤ step) (td : step ∣ m) (nd : done.Nodup) (hd : ∀ q ∈ done, q ∈ P6 ∧ q ∣ m) (hp : p ∈ P6) (pm : p ∣ m) (hn : p ∉ done) (hs : ¬ p ∣ step) :
    (cD m start step (done ++ [p]) : Int) = (cD m start step done : Int) / p * (p - 1) := by
  obtain ⟨i1, i2, i3, i4, i5⟩ := tD_ok m1 t1 td done nd hd
  have pb := p6_bd hp
  have co := p6_gcd hp (i5 p hp hn hs)
  obtain ⟨k, ek⟩ := mul_dvd_co co i2 pm
  generalize hT : tD step done = T at *
  obtain ⟨t, rfl⟩ : ∃ t : Nat, T = (t : Int) := ⟨T.toNat, by omega⟩
  obtain ⟨q, rfl⟩ : ∃ q : Nat, p = (q : Int) := ⟨p.toNat, by omega⟩
  have tq : 1 ≤ (t : Int) * (q : Int) := by
    have := Int.mul_le_mul_of_nonneg_right (show 1 ≤ (t : Int) by omega) (show 0 ≤ (q : Int) by omega)
    omega
  have k0 : 0 ≤ k := by
    rcases Int.lt_or_le k 0 with c | c
    · have := Int.mul_le_mul_of_nonneg_left (show k ≤ -1 by omega) (show 0 ≤ (t : Int) * (q : Int) by omega)
      omega
    · exact c
  obtain ⟨k, rfl⟩ : ∃ j : Nat, k = (j : Int) := ⟨k.toNat, by omega⟩
  have em : m.toNat = k * (t * q) := by
    rw [ek, Int.mul_comm]
    rw [← Int.natCast_mul, ← Int.natCast_mul]
    exact Int.toNat_natCast _
  have per : ∀ i : Nat, uD start step done i = uD start step done (i % t) := fun i => by
    have h1 : ((i % t : Nat) : Int) = (i : Int) % (t : Int) := Int.natCast_emod _ _
    unfold uD
    rw [h1, Int.emod_emod_of_dvd _ i3]
    refine decide_eq_decide.mpr ⟨fun z => ⟨z.1, fun r hr n y => z.2 r hr n ?_⟩, fun z => ⟨z.1, fun r hr n y => z.2 r hr n ?_⟩⟩
    · have := Int.emod_eq_zero_of_dvd y
      rw [Int.emod_emod_of_dvd _ (i4 r hr n)] at this
      exact Int.dvd_of_emod_eq_zero this
    · refine Int.dvd_of_emod_eq_zero ?_
      rw [Int.emod_emod_of_dvd _ (i4 r hr n)]
      exact Int.emod_eq_zero_of_dvd y
  have c1 : cD m start step done = k * q * cntN t (uD start step done) := by
    unfold cD
    rw [em, Nat.mul_comm t q, ← Nat.mul_assoc]
    exact cntN_per per _
  have co' : Nat.Coprime t q := co
  have c2 : cntN (k * (t * q)) (fun i => uD start step done (i % t) && decide (i % q = 0)) = k * cntN t (uD start step done) := by
    rw [cntN_per (T := t * q) (A := fun i => uD start step done (i % t) && decide (i % q = 0)) (fun i => by
      show (_ && _) = (_ && _)
      rw [Nat.mod_mul_right_mod, Nat.mod_mul_left_mod])]
    rw [cntN_mul co' (uD start step done) (fun j => decide (j = 0)), cntN_one (show 0 < q by omega), Nat.mul_one]
  have c3 : cD m start step done = cD m start step (done ++ [(q : Int)]) + k * cntN t (uD start step done) := by
    rw [← c2]
    unfold cD
    rw [em, ← cntN_or]
    · refine cntN_cong fun i _ => ?_
      rw [← per i]
      have e : uD start step (done ++ [(q : Int)]) i = (uD start step done i && !decide (i % q = 0)) := by
        unfold uD
        rw [← decide_not, ← Bool.decide_and]
        refine decide_eq_decide.mpr ⟨fun z => ⟨⟨z.1, fun r hr => z.2 r (List.mem_append_left _ hr)⟩, fun y => ?_⟩, fun z => ⟨z.1.1, fun r hr n => ?_⟩⟩
        · exact z.2 q (List.mem_append_right _ (List.mem_singleton.mpr rfl)) hs (Int.natCast_dvd_natCast.mpr (Nat.dvd_of_mod_eq_zero y))
        · rcases List.mem_append.mp hr with hr | hr
          · exact z.1.2 r hr n
          · rw [List.mem_singleton.mp hr]
            exact fun y => z.2 (Nat.mod_eq_zero_of_dvd (Int.natCast_dvd_natCast.mp y))
      rw [e]
      cases uD start step done i <;> cases decide (i % q = 0) <;> rfl
    · intro i _ z
      unfold uD at z
      have z' := of_decide_eq_true z
      have : ¬ i % q = 0 := fun y => z'.2 q (List.mem_append_right _ (List.mem_singleton.mpr rfl)) hs (Int.natCast_dvd_natCast.mpr (Nat.dvd_of_mod_eq_zero y))
      rw [decide_eq_false this, Bool.and_false]
  generalize cntN t (uD start step done) = c at *
  have q0 : (q : Int) ≠ 0 := by omega
  have e1 : (cD m start step done : Int) = (k : Int) * c * q := by
    rw [c1, Int.natCast_mul, Int.natCast_mul, Int.mul_assoc, Int.mul_assoc, Int.mul_comm (q : Int)]
  have e2 : (cD m start step done : Int) / q = (k : Int) * c := by rw [e1]; exact Int.mul_ediv_cancel _ q0
  rw [e2, Int.mul_sub, Int.mul_one, ← e1]
  have := congrArg (Nat.cast (R := Int)) c3
  rw [Int.natCast_add, Int.natCast_mul] at this
  omega
/-- at the end: the units -/
theorem cD_end (m1 : 1 ≤ m) (hs : Sm m) (t1 : 1 ≤ step) (td : step ∣ m) (hg : Int.gcd start step = 1) : cD m start step (P6.filter fun p => decide (m % p = 0)) = cntU (unU m start step) m.toNat := by
  unfold cD cntU
  rw [← List.countP_eq_length_filter]
  refine cntN_cong fun i _ => ?_
  unfold uD unU
  refine decide_eq_decide.mpr ⟨fun z => ⟨z.1, (unit_iff m1 hs _).mpr fun p hp pm px => ?_⟩, fun z => ⟨z.1, fun p hp _ => (unit_iff m1 hs _).mp z.2 p (List.mem_filter.mp hp).1 (Int.dvd_of_emod_eq_zero (of_decide_eq_true (List.mem_filter.mp hp).2))⟩⟩
  by_cases c : p ∣ step
  · have h1 : p ∣ start := by
      rw [← z.1]
      refine Int.dvd_of_emod_eq_zero ?_
      rw [Int.emod_emod_of_dvd _ c]
      exact Int.emod_eq_zero_of_dvd px
    have h2 : p ∣ ((Int.gcd start step : Nat) : Int) := Int.dvd_coe_gcd h1 c
    rw [hg] at h2
    have := p6_bd hp
    have := Int.le_of_dvd (by decide) h2
    omega
  · exact z.2 p (List.mem_filter.mpr ⟨hp, decide_eq_true (Int.emod_eq_zero_of_dvd pm)⟩) c px
end
theorem cD_le {m start step : Int} {done : List Int} : cD m start step done ≤ m.toNat := by
  unfold cD cntN
  have := List.countP_le_length (p := uD start step done) (l := List.range m.toNat)
  rwa [List.length_range] at this
/-- how many units below m stand in the class of start -/
def sp_lucnt : Sp := fun vs H Q _ => ∃ m step start : Int, vs = [.int m, .int step] ∧ 1 ≤ m ∧ m ≤ 1000000000 ∧ Sm m ∧ 1 ≤ step ∧ step ∣ m ∧ 0 ≤ start ∧ start < step ∧ Int.gcd start step = 1 ∧
  ∀ H', Same H H' → Q (.int (cntU (unU m start step) m.toNat : Int)) H'
theorem w_lucnt {H : Hp} {Q : VK} {E : XK} {m step : Int} (start : Int) (m1 : 1 ≤ m) (m9 : m ≤ 1000000000) (hs : Sm m) (t1 : 1 ≤ step) (td : step ∣ m) (s0 : 0 ≤ start) (s1 : start < step) (hg : Int.gcd start step = 1)
    (h : ∀ H', Same H H' → Q (.int (cntU (unU m start step) m.toNat : Int)) H') : sp_lucnt [.int m, .int step] H Q E := ⟨m, step, start, rfl, m1, m9, hs, t1, td, s0, s1, hg, h⟩
/-- a large int and its repr -/
theorem rp_intB {K : PySem.W.Frag} {H : Hp} {a : Int} (ha : a.natAbs < 100000000000000000000000000000000000000000000000000) : Rp K H (.int a) (.int a) := by
  have h2 : a.natAbs < 2 ^ 200 := Nat.lt_of_lt_of_le ha (by decide)
  have h3 : a.natAbs.log2 < 1920 := Nat.lt_of_lt_of_le (PySem.Flt.log2_lt_of (by decide) h2) (by decide)
  refine ⟨Dp.int a, ?_, by simp [PyData.depth], ?_⟩
  · simp only [PyData.showable]
    exact decide_eq_true h3
  · have e := int_text_length_le10 (a := a) (k := 50) (by decide) (Nat.lt_of_lt_of_le ha (by decide))
    show (Str.ofString (toString a)).length ≤ _
    rw [PySem.ofString_length]
    exact Nat.le_trans e (by decide)
def sp_isout (K : PySem.W.Frag) : Sp := fun vs H Q _ => ∃ (m : Int) (f : Mp) (t : Addr) (i : Int), vs = [.int m, .ref t, .int i] ∧ TpAt K H t f ∧ 2 ≤ m ∧ m ≤ 1000000000 ∧ Ok m f ∧ Sm m ∧ (i < 0 ∨ cCount m f ≤ i) ∧
  i.natAbs < 100000000000000000000000000000000000000000000000000 ∧ ∀ H', Same H H' → Q (.bl true) H'
theorem w_isout {K : PySem.W.Frag} {H : Hp} {Q : VK} {E : XK} {m : Int} {f : Mp} {t : Addr} {i : Int} (ht : TpAt K H t f) (hm : 2 ≤ m) (h9 : m ≤ 1000000000) (hf : Ok m f) (hs : Sm m) (io : i < 0 ∨ cCount m f ≤ i)
    (i9 : i.natAbs < 100000000000000000000000000000000000000000000000000) (h : ∀ H', Same H H' → Q (.bl true) H') : sp_isout K [.int m, .ref t, .int i] H Q E := ⟨m, f, t, i, rfl, ht, hm, h9, hf, hs, io, i9, h⟩
end Vg

set_option Elab.async false
set_option linter.all false
set_option maxRecDepth 100000
set_option maxHeartbeats 2000000
/-! Own layer: sorted lists and sets of maps. -/
namespace Vg
open PySem PySem.Spec PyProof.Rows L2
def kOf (H : Hp) : V → Int × Int
  | .ref t => match H t with
    | some (.tup [.int a, .int b]) => (a, b)
    | _ => (0, 0)
  | _ => (0, 0)
theorem kOf_ms {H : Hp} {t : Addr} {f : Mp} (h : H t = some (.tup [.int f.1, .int f.2])) : kOf H (.ref t) = f := by
  unfold kOf
  simp only [h]
theorem MsL.mem {H : Hp} {qs : List Addr} {fs : List Mp} (h : MsL H qs fs) : ∀ q ∈ qs, ∃ f ∈ fs, H q = some (.tup [.int f.1, .int f.2]) := by
  induction h with
  | nil => intro q hq; cases hq
  | cons e r ih =>
    intro q hq
    rcases List.mem_cons.mp hq with z | z
    · exact ⟨_, List.mem_cons_self .., by rw [z]; exact e⟩
    · obtain ⟨f, hf, e2⟩ := ih q z
      exact ⟨f, List.mem_cons_of_mem _ hf, e2⟩
theorem ms_srtd {H : Hp} {qs : List Addr} {fs : List Mp} (h : MsL H qs fs) (so : fs.Pairwise lexM) : SrtO.Srtd (ltP (kOf H)) (qs.map V.ref) := by
  induction h with
  | nil => exact List.Pairwise.nil
  | cons e r ih =>
    obtain ⟨p1, p2⟩ := List.pairwise_cons.mp so
    rw [List.map_cons]
    refine List.pairwise_cons.mpr ⟨fun y hy => ?_, ih p2⟩
    obtain ⟨q, hq, rfl⟩ := List.mem_map.mp hy
    obtain ⟨f, hf, e2⟩ := r.mem q hq
    show SrtO.lexB (kOf H (.ref q)) (kOf H (.ref _)) = false
    rw [kOf_ms e2, kOf_ms e]
    refine SrtO.lexB_no.mpr ?_
    have := p1 f hf
    unfold lexM at this
    omega
theorem w_sortMs {K K' : PySem.W.Frag} {H : Hp} {Q : VK} {l : Addr} {qs : List Addr} {fs : List Mp} (e : SqL K H l (qs.map V.ref)) (hm : MsL H qs fs) (so : fs.Pairwise lexM)
    (h : ∀ H' p, H p = none → Same H H' → H' p = some (.lst (qs.map V.ref)) → Q (.ref p) H') (hk : K' = K := by rfl) : rSortedPO K' [.ref l] H Q := by
  subst hk
  refine ⟨l, qs.map V.ref, kOf H, rfl, e, fun x hx => ?_, fun ys p s1 s2 hp => ?_⟩
  · obtain ⟨q, hq, rfl⟩ := List.mem_map.mp hx
    obtain ⟨f, _, e2⟩ := hm.mem q hq
    exact ⟨q, rfl, by rw [kOf_ms e2]; exact e2⟩
  · rw [SrtO.stb_uniq (ltP_swo _) s1 (ms_srtd hm so) s2]
    exact h _ p hp (sm_new hp) upd_same
/-! ### len(set(maps)) -/
theorem nodup_len {α : Type} [DecidableEq α] : ∀ {l m : List α}, l.Nodup → (∀ x ∈ l, x ∈ m) → l.length ≤ m.length
  | [], _, _, _ => Nat.zero_le _
  | x :: l, m, nd, h => by
    obtain ⟨n1, n2⟩ := List.nodup_cons.mp nd
    have hx := h x (List.mem_cons_self ..)
    have ih := nodup_len (l := l) (m := m.erase x) n2 fun y hy => by
      refine (List.mem_erase_of_ne ?_).mpr (h y (List.mem_cons_of_mem _ hy))
      rintro rfl
      exact n1 hy
    have := List.length_erase_of_mem hx
    have := List.length_pos_of_mem hx
    rw [List.length_cons]
    omega
theorem ms_ks {H : Hp} {qs : List Addr} {fs : List Mp} (h : MsL H qs fs) :
    ∃ ks : List (Addr × List Int), ks.map (·.1) = qs ∧ ks.map (·.2) = fs.map (fun f => [f.1, f.2]) ∧ ∀ p ∈ ks, H p.1 = some (.tup (p.2.map V.int)) := by
  induction h with
  | nil => exact ⟨[], rfl, rfl, fun p hp => by cases hp⟩
  | @cons q f qs fs e r ih =>
    obtain ⟨ks, h1, h2, h3⟩ := ih
    refine ⟨(q, [f.1, f.2]) :: ks, by rw [List.map_cons, h1], by rw [List.map_cons, List.map_cons, h2], fun p hp => ?_⟩
    rcases List.mem_cons.mp hp with z | z
    · rw [z]
      exact e
    · exact h3 p z
def tLenMs (K : PySem.W.Frag) (ta : TE) : TE := fun σ H Q => ta σ H fun x H1 => ∃ (l : Addr) (qs : List Addr) (fs : List Mp), x = .ref l ∧ SqL K H1 l (qs.map V.ref) ∧ MsL H1 qs fs ∧ qs.length < 64 ∧ fs.Nodup ∧
  Q (.int (qs.length : Nat)) H1
section
variable {X : Cx}
theorem pe_lenMs {a : Expr} {ta : TE} {p p2 q pos : Pos} (hc : X.calm = true) (hu : X.A.units + 64 < cLine) (hg : Gl X "len") (hm : X.mg "len" = none) (hg2 : Gl X "set") (hm2 : X.mg "set" = none) (ha : PE X a ta)
    (na : starEach [a] X.env = (false, eval a X.env) :: starEach [] X.env := by rfl) : PE X (.Call (.Name "len" p) [.Call (.Name "set" p2) [a] [] q] [] pos) (tLenMs X.K ta) := by
  constructor
  intro pins s σ H Q I h
  refine Call_ (ld_blt I hg hm PySem.boot_len ?_)
  refine PyProof.Rows.callWith_builtin1 (PyProof.Rows.args_cons ?_ rfl) rfl rfl
  refine Call_ (ld_blt I hg2 hm2 PyProof.Rows.boot_set ?_)
  refine PyProof.Rows.callWith_type1 (PyProof.Rows.args_cons (thn (ha.run pins s σ H _ I h) ?_) na) na rfl
  rintro v s1 ⟨x, H1, I1, r1, l, qs, fs, rfl, hq, hms, few, nd, q1⟩
  refine PyProof.Rows.args_nil ?_
  cases r1
  obtain ⟨its, rv, pl, hz⟩ := I1.list hq
  obtain ⟨ks, k1, k2, k3⟩ := ms_ks hms
  have lk : ks.length = qs.length := by rw [← k1, List.length_map]
  have rv' : Vals (ks.map fun p => V.ref p.1) its := by
    have e : (ks.map fun p => V.ref p.1) = qs.map V.ref := by rw [← k1, List.map_map]; rfl
    rw [e]
    exact rv
  have kn : (ks.map (·.2)).Nodup := by
    rw [k2]
    refine List.Pairwise.map _ (fun f g ne z => ?_) nd
    injection z with z1 z2
    injection z2 with z2
    exact ne (Prod.ext z1 z2)
  refine call_set_tups (P := X.prog) (w := X.w) ks (I1.ok.hd hc) pl.isList (by simpa using refs_of_vals rv') (fun p hp => I1.isT (SqT.of (k3 p hp))) (by omega) (by omega) fun h' tk L es ep t R g kp => ?_
  refine PyProof.Rows.args_nil ?_
  have hl : L.length = ks.length := by
    refine Nat.le_antisymm g.len ?_
    have := nodup_len kn fun y hy => by
      obtain ⟨p, hp, rfl⟩ := List.mem_map.mp hy
      exact g.all p (by rw [List.take_length]; exact hp)
    rwa [List.length_map, List.length_map] at this
  obtain ⟨o, ho, hex, hd⟩ := R.ob
  have I2 : Inv X pins σ H1 { s1 with heap := h', toks := tk } := I1.kept kp
  have hsz : es.size = L.length := SetTR.size (s := { s1 with heap := h', toks := tk }) R
  have hft : t.fits es.size = true := SetTR.fits (s := { s1 with heap := h', toks := tk }) R
  refine call_len_set ho hex hd hft (by rw [hsz]; omega) ?_
  exact ⟨.int (qs.length : Nat), H1, I2.tok _, ⟨_, by rw [hsz, hl, lk]⟩, q1⟩
end
theorem w_lenMs {K K' : PySem.W.Frag} {ta : TE} {σ : L2.St} {H : Hp} {Q : VK} (h : ta σ H fun x H1 => ∃ (l : Addr) (qs : List Addr) (fs : List Mp), x = .ref l ∧ SqL K H1 l (qs.map V.ref) ∧ MsL H1 qs fs ∧ qs.length < 64 ∧ fs.Nodup ∧
    Q (.int (qs.length : Nat)) H1) (hk : K' = K := by rfl) : tLenMs K' ta σ H Q := by
  subst hk
  exact h
/-- values that are ints -/
theorem ints_G {G : Int → Prop} : ∀ {st : List V}, (∀ v ∈ st, ∃ y, v = V.int y ∧ G y) → ∃ ds : List Int, st = ds.map V.int ∧ ∀ d ∈ ds, G d
  | [], _ => ⟨[], rfl, fun d hd => by cases hd⟩
  | v :: st, h => by
    obtain ⟨ds, e, hd⟩ := ints_G (st := st) fun w hw => h w (List.mem_cons_of_mem _ hw)
    obtain ⟨y, rfl, hy⟩ := h v (List.mem_cons_self ..)
    refine ⟨y :: ds, by rw [e]; rfl, fun d hdm => ?_⟩
    rcases List.mem_cons.mp hdm with z | z
    · rw [z]
      exact hy
    · exact hd d z
/-- [a map of n for n in ns] -/
theorem lc_maps {K : PySem.W.Frag} {a : Addr} {ns : List Int} {j : Nat} {te : TE} {vs : List Nat} {σ : L2.St} {H0 : Hp} {D : Addr} {Qd : Hp → Prop} (φ : Mp → Int) (G : Mp → Prop)
    (ha : SqL K H0 a (ns.map V.int)) (hD : H0 D = none) (hn : ns.length ≤ 100000) (hw : ∀ v, wipe ((wipe σ vs).set j (some v)) vs = wipe σ vs)
    (hs : ∀ n H' (R : VK), n ∈ ns → Same H0 H' → (∀ q g H4, Same H' H4 → H4 q = some (.tup [.int g.1, .int g.2]) → G g → φ g = n → R (.ref q) H4) → te ((wipe σ vs).set j (some (.int n))) H' R)
    (hd : ∀ H' qs gs, Same H0 H' → H' D = some (.lst (qs.map V.ref)) → MsL H' qs gs → (∀ g ∈ gs, G g) → gs.map φ = ns → Qd H') :
    ∃ W : Nat → Nat → Hp → Prop, (∃ m, W 0 m (upd H0 D (.lst []))) ∧ ∀ i m H', W i m H' →
      ((Itl K a).stop i H' ∧ Qd H') ∨ ((Itl K a).go i H' ∧ ∃ Nx : Hp → Prop, (∀ H2, Nx H2 → ∃ m', m' < m ∧ W (i + 1) m' H2) ∧ ∀ x H2, (Itl K a).yld i H' x H2 → gName j x (wipe σ vs) H2 fun σ2 H2 => wipe σ2 vs = wipe σ vs ∧ tYes σ2 H2 fun b H3 =>
        if b = true then te σ2 H3 fun y H4 => ∃ acc, H4 D = some (.lst acc) ∧ acc.length < sizeLine ∧ Nx (upd H4 D (.lst (acc ++ [y]))) else Nx H3) := by
  refine lc_list (K := K) (a := a) (xs := ns.map V.int) (fun i H' => ∃ (qs : List Addr) (gs : List Mp), Same H0 H' ∧ H' D = some (.lst (qs.map V.ref)) ∧ MsL H' qs gs ∧ (∀ g ∈ gs, G g) ∧ gs.map φ = ns.take i) ?_ ?_ ?_ ?_
  · exact ⟨[], [], sm_new hD, upd_same, .nil, (fun g hg => by cases hg), rfl⟩
  · rintro i H' _ ⟨_, _, sm, _⟩
    exact sm.seq ha
  · rintro i x H' hi ⟨qs, gs, sm, eD, hm, hG, hφ⟩
    obtain ⟨n, rfl, hn2⟩ : ∃ n, x = V.int n ∧ ns[i]? = some n := by
      rw [List.getElem?_map] at hi
      cases hx : ns[i]? with
      | none => rw [hx] at hi; cases hi
      | some z => rw [hx] at hi; exact ⟨z, (Option.some.inj hi).symm, rfl⟩
    have hil := (List.getElem?_eq_some_iff.mp hn2).1
    refine ⟨hw _, ?_⟩
    refine w_yes ?_
    rw [if_pos rfl]
    refine hs n H' _ (List.mem_of_getElem? hn2) sm fun q g H4 s4 eq og ph => ?_
    have hm4 := hm.same s4
    have eD4 := s4 _ _ eD
    have hl : qs.length ≤ 100000 := by
      have h1 := hm.len
      have h2 := congrArg List.length hφ
      rw [List.length_map, List.length_take] at h2
      omega
    refine ⟨_, eD4, Nat.lt_of_le_of_lt (show (qs.map V.ref).length ≤ 100000 by rw [List.length_map]; exact hl) (by decide), qs ++ [q], gs ++ [g], sm_own (sm.trans s4) hD, ?_, ?_, ?_, ?_⟩
    · rw [upd_same, List.map_append]
      rfl
    · exact (hm4.snoc eq).upd eD4
    · intro g' hg'
      rcases List.mem_append.mp hg' with z | z
      · exact hG g' z
      · rw [List.mem_singleton.mp z]
        exact og
    · rw [List.map_append, hφ, List.take_add_one, hn2, List.map_cons, List.map_nil, ph]
      rfl
  · rintro H' ⟨qs, gs, sm, eD, hm, hG, hφ⟩
    rw [List.length_map, List.take_length] at hφ
    exact hd H' qs gs sm eD hm hG hφ
/-- [x for x in (..) if ..], none of them taken -/
theorem lc_tupN {K : PySem.W.Frag} {a : Addr} {xs : List V} {j : Nat} {tt : TT} {te : TE} {vs : List Nat} {σ : L2.St} {H0 : Hp} {D : Addr} {Qd : Hp → Prop}
    (ha : SqT K H0 a xs) (hD : H0 D = none) (hw : ∀ v, wipe ((wipe σ vs).set j (some v)) vs = wipe σ vs)
    (hs : ∀ x H' (R : Bool → Hp → Prop), x ∈ xs → Same H0 H' → (∀ H4, Same H' H4 → R false H4) → tt ((wipe σ vs).set j (some x)) H' R)
    (hd : ∀ H', Same H0 H' → H' D = some (.lst []) → Qd H') :
    ∃ W : Nat → Nat → Hp → Prop, (∃ m, W 0 m (upd H0 D (.lst []))) ∧ ∀ i m H', W i m H' →
      ((Itt K a).stop i H' ∧ Qd H') ∨ ((Itt K a).go i H' ∧ ∃ Nx : Hp → Prop, (∀ H2, Nx H2 → ∃ m', m' < m ∧ W (i + 1) m' H2) ∧ ∀ x H2, (Itt K a).yld i H' x H2 → gName j x (wipe σ vs) H2 fun σ2 H2 => wipe σ2 vs = wipe σ vs ∧ tt σ2 H2 fun b H3 =>
        if b = true then te σ2 H3 fun y H4 => ∃ acc, H4 D = some (.lst acc) ∧ acc.length < sizeLine ∧ Nx (upd H4 D (.lst (acc ++ [y]))) else Nx H3) := by
  refine lc_tup (K := K) (a := a) (xs := xs) (fun _ H' => Same H0 H' ∧ H' D = some (.lst [])) ?_ ?_ ?_ ?_
  · exact ⟨sm_new hD, upd_same⟩
  · rintro i H' _ ⟨sm, _⟩
    exact sm_tup sm ha
  · rintro i x H' hi ⟨sm, eD⟩
    refine ⟨hw _, ?_⟩
    refine hs x H' _ (List.mem_of_getElem? hi) sm fun H4 s4 => ?_
    rw [if_neg Bool.false_ne_true]
    exact ⟨sm.trans s4, s4 _ _ eD⟩
  · rintro H' ⟨sm, eD⟩
    exact hd H' sm eD
theorem w_pow40 {H : Hp} {Q : VK} (h : Q (.int 10000000000000000000000000000000000000000) H) : rI CPow (fun i j => .int (i ^ j.toNat)) (.int 10) (.int 40) H Q := ⟨10, 40, rfl, rfl, ⟨by decide, by decide, by decide⟩, h⟩
/-! ### those that commute with f: a group -/
section
variable {m : Int} {f g h : Mp}
theorem cmt_cmp (hm : 2 ≤ m) (hf : Ok m f) (hg : Ok m g) (hh : Ok m h) (a : Cmt m f g) (b : Cmt m f h) : Cmt m f (cmp m g h) := by
  unfold Cmt at *
  rw [← cmp_assoc hm hf hg hh, a, cmp_assoc hm hg hf hh, b, ← cmp_assoc hm hg hh hf]
theorem cmt_npw (hm : 2 ≤ m) (hf : Ok m f) : ∀ n, Cmt m f (npw m f n)
  | 0 => by
    show cmp m f one1 = cmp m one1 f
    rw [cmp_one hm hf, one_cmp hm hf]
  | n + 1 => cmt_cmp hm hf (npw_ok hm hf n) hf (cmt_npw hm hf n) rfl
theorem cmt_inv {i : Mp} (hm : 2 ≤ m) (hf : Ok m f) (hg : Ok m g) (a : Cmt m f g) (z : IsInv m g i) : Cmt m f i := by
  obtain ⟨oi, z1, z2⟩ := z
  unfold Cmt at *
  have e : cmp m f i = cmp m (cmp m (cmp m i g) f) i := by rw [z2, one_cmp hm hf]
  rw [e, cmp_assoc hm oi hg hf, ← a, ← cmp_assoc hm oi hf hg, cmp_assoc hm (oi.cmp hm hf) hg oi, z1, cmp_one hm (oi.cmp hm hf)]
end
end Vg

set_option Elab.async false
set_option linter.all false
set_option maxRecDepth 100000
set_option maxHeartbeats 2000000
/-! Own layer: replace of written texts in a written list whose first item is a text. -/
namespace Vg
open PySem PySem.Spec PyProof.Rows L2 CwR
/-- an expression behind which a token is given out -/
def PE1 (X : Cx) (e : Expr) (t : TE) : Prop :=
  ∀ (pins : List (Addr × Obj)) (s : Shared) (σ : L2.St) (H : Hp) (Q : VK), Inv X pins σ H s → t σ H Q → wpAny (model X.prog X.w) X.A (eval e X.env) (fun u s' => 1 ≤ s'.toks ∧ EP X pins σ Q u s') X.xe s
/-- arguments that want a token -/
def PAT (X : Cx) (es : List Expr) (t : TA) : Prop :=
  ∀ (pos : Pos) (pins : List (Addr × Obj)) (s : Shared) (σ : L2.St) (H : Hp) (Q : List V → Hp → Prop), 1 ≤ s.toks → Inv X pins σ H s → t σ H Q → wpAny (model X.prog X.w) X.A (spliced (backTo pos (starEach es X.env))) (AP X pins σ Q) X.xe s
section
variable {X : Cx} {e b : Expr} {es : List Expr} {te tb : TE} {t : TA} {x : Str} {j : Nat} {c0 pos : Pos}
theorem pe1_str : PE1 X (.Constant (.str x) j c0) (tC (.str x)) := fun pins s σ H Q I h =>
  Calls.Constant_str ⟨Nat.le_add_left _ _, .str x, H, I.tok _, ⟨_, rfl⟩, h⟩
theorem pe1_op {op : Operator} {r : R2} (ho : OpR X (binaryOp op) r) (hb : PE X b tb) : PE1 X (.BinOp (.Constant (.str x) j c0) op b pos) (tOp r (tC (.str x)) tb) := by
  intro pins s σ H Q I h
  refine wpAny_BinOp (Calls.Constant_str ?_)
  have I1 := I.tok (s.toks + 1)
  refine wpAny_mono (PySem.wpAny_toks (hb.run pins _ σ H _ I1 h)) (fun u s2 q => ?_) fun _ _ z => z.2
  obtain ⟨hk, v, H2, I2, r2, q⟩ := q
  have hk' : s.toks + 1 ≤ s2.toks := hk
  refine wpAny_mono (PySem.wpAny_toks (ho pins s2 σ H2 (.str x) v _ u Q I2 ⟨_, rfl⟩ r2 q)) (fun u' s3 q' => ⟨?_, q'.2⟩) fun _ _ z => z.2
  have := q'.1
  omega
theorem pat_nil : PAT X [] tNil := fun _ _ _ _ H Q _ I h => Calls.spliced_nil ⟨[], H, I, .nil, h⟩
theorem pat_cons (ha : PET X e te) (hr : PAT X es t) (hs : starEach (e :: es) X.env = (false, eval e X.env) :: starEach es X.env := by rfl) : PAT X (e :: es) (tCons te t) := by
  intro pos pins s σ H Q h0 I h
  rw [hs]
  show wpAny _ _ (spliced ((false, eval e X.env) :: backTo pos (starEach es X.env))) _ _ s
  refine Calls.spliced_cons (wpAny_mono (PySem.wpAny_toks (ha pins s σ H _ h0 I h)) (fun u s1 q => ?_) fun _ _ z => z.2)
  obtain ⟨hk, x, H1, I1, r1, q1⟩ := q
  exact thn (hr pos pins s1 σ H1 _ (Nat.le_trans h0 hk) I1 q1) fun us s2 ⟨xs, H2, I2, r2, q2⟩ => ⟨x :: xs, H2, I2, .cons r1 r2, q2⟩
theorem pa_consT (ha : PE1 X e te) (hr : PAT X es t) (hs : starEach (e :: es) X.env = (false, eval e X.env) :: starEach es X.env := by rfl) : PA X (e :: es) (tCons te t) := by
  refine ⟨fun pos pins s σ H Q I h => ?_⟩
  rw [hs]
  show wpAny _ _ (spliced ((false, eval e X.env) :: backTo pos (starEach es X.env))) _ _ s
  refine Calls.spliced_cons (thn (ha pins s σ H _ I h) fun u s1 q => ?_)
  obtain ⟨hk, x, H1, I1, r1, q1⟩ := q
  exact thn (hr pos pins s1 σ H1 _ hk I1 q1) fun us s2 ⟨xs, H2, I2, r2, q2⟩ => ⟨x :: xs, H2, I2, .cons r1 r2, q2⟩
end
end Vg

set_option Elab.async false
set_option linter.all false
set_option maxRecDepth 100000
set_option maxHeartbeats 2000000
namespace Vg
open PySem PySem.Spec PyProof.Rows L2
def top (i : Nat) : Stmt := PySem.Challenge.pw_affinewalk_k05_texts_of_maps.main.body.getD i (.Pass ⟨0, 0, 0, 0⟩)
abbrev s_InvalidText___init__ : Stmt := inClass (top 2) 0
theorem sc_InvalidText___init__ : FnScope ["self", "line"] ["self", "line"] (defScope s_InvalidText___init__) := ⟨rfl, rfl, rfl, by decide +kernel, rfl, by decide +kernel, by decide +kernel⟩
abbrev s_InvalidStep___init__ : Stmt := inClass (top 3) 0
theorem sc_InvalidStep___init__ : FnScope ["self", "reason"] ["self", "reason"] (defScope s_InvalidStep___init__) := ⟨rfl, rfl, rfl, by decide +kernel, rfl, by decide +kernel, by decide +kernel⟩
abbrev s_InvalidPath___init__ : Stmt := inClass (top 4) 0
theorem sc_InvalidPath___init__ : FnScope ["self", "index", "reason"] ["self", "index", "reason"] (defScope s_InvalidPath___init__) := ⟨rfl, rfl, rfl, by decide +kernel, rfl, by decide +kernel, by decide +kernel⟩
abbrev s_is_whole : Stmt := top 7
theorem sc_is_whole : FnScope ["value"] ["value"] (defScope s_is_whole) := ⟨rfl, rfl, rfl, by decide +kernel, rfl, by decide +kernel, by decide +kernel⟩
abbrev s_is_between : Stmt := top 8
theorem sc_is_between : FnScope ["value", "low", "high"] ["value", "low", "high"] (defScope s_is_between) := ⟨rfl, rfl, rfl, by decide +kernel, rfl, by decide +kernel, by decide +kernel⟩
abbrev s_read_number : Stmt := top 9
theorem sc_read_number : FnScope ["word", "top", "digit", "number"] ["word", "top"] (defScope s_read_number) := ⟨rfl, rfl, rfl, by decide +kernel, rfl, by decide +kernel, by decide +kernel⟩
abbrev s_is_map : Stmt := top 11
theorem sc_is_map : FnScope ["m", "value", "a", "b"] ["m", "value"] (defScope s_is_map) := ⟨rfl, rfl, rfl, by decide +kernel, rfl, by decide +kernel, by decide +kernel⟩
abbrev s_format_map : Stmt := top 13
theorem sc_format_map : FnScope ["f", "a", "b"] ["f"] (defScope s_format_map) := ⟨rfl, rfl, rfl, by decide +kernel, rfl, by decide +kernel, by decide +kernel⟩
abbrev s_parse_map : Stmt := top 14
theorem sc_parse_map : FnScope ["m", "text", "a", "_", "b", "f"] ["m", "text"] (defScope s_parse_map) := ⟨rfl, rfl, rfl, by decide +kernel, rfl, by decide +kernel, by decide +kernel⟩
abbrev s__law_pen : Stmt := top 16
theorem sc__law_pen : FnScope ["script"] ["script"] (defScope s__law_pen) := ⟨rfl, rfl, rfl, by decide +kernel, rfl, by decide +kernel, by decide +kernel⟩
abbrev s__law_draw : Stmt := top 17
theorem sc__law_draw : FnScope ["pen", "many", "digit", "turn", "cell", "primes", "prime", "drawn"] ["pen", "many"] (defScope s__law_draw) := ⟨rfl, rfl, rfl, by decide +kernel, rfl, by decide +kernel, by decide +kernel⟩
abbrev s__law_pick : Stmt := top 18
theorem sc__law_pick : FnScope ["pen", "some"] ["pen", "some"] (defScope s__law_pick) := ⟨rfl, rfl, rfl, by decide +kernel, rfl, by decide +kernel, by decide +kernel⟩
abbrev s__law_shuffled : Stmt := top 19
theorem sc__law_shuffled : FnScope ["pen", "some", "left", "found"] ["pen", "some"] (defScope s__law_shuffled) := ⟨rfl, rfl, rfl, by decide +kernel, rfl, by decide +kernel, by decide +kernel⟩
abbrev s__law_gcd : Stmt := top 20
theorem sc__law_gcd : FnScope ["one", "other"] ["one", "other"] (defScope s__law_gcd) := ⟨rfl, rfl, rfl, by decide +kernel, rfl, by decide +kernel, by decide +kernel⟩
abbrev s__law_modulus : Stmt := top 21
theorem sc__law_modulus : FnScope ["pen", "most", "found", "primes", "k", "prime"] ["pen", "most"] (defScope s__law_modulus) := ⟨rfl, rfl, rfl, by decide +kernel, rfl, by decide +kernel, by decide +kernel⟩
abbrev s__law_divisors : Stmt := top 22
theorem sc__law_divisors : FnScope ["m", "found", "left", "prime", "powers", "every", "factor", "one"] ["m"] (defScope s__law_divisors) := ⟨rfl, rfl, rfl, by decide +kernel, rfl, by decide +kernel, by decide +kernel⟩
abbrev s__law_unit : Stmt := top 23
theorem sc__law_unit : FnScope ["pen", "m", "share", "near", "number"] ["pen", "m"] (defScope s__law_unit) := ⟨rfl, rfl, rfl, by decide +kernel, rfl, by decide +kernel, by decide +kernel⟩
abbrev s__law_map : Stmt := top 24
theorem sc__law_map : FnScope ["pen", "m", "share"] ["pen", "m"] (defScope s__law_map) := ⟨rfl, rfl, rfl, by decide +kernel, rfl, by decide +kernel, by decide +kernel⟩
abbrev s__law_parsed : Stmt := top 25
theorem sc__law_parsed : FnScope ["m", "text", "words", "word", "sign", "f"] ["m", "text"] (defScope s__law_parsed) := ⟨rfl, rfl, rfl, by decide +kernel, rfl, by decide +kernel, by decide +kernel⟩
abbrev s__law_got : Stmt := top 26
theorem sc__law_got : FnScope ["m", "value", "kept", "e"] ["m", "value"] (defScope s__law_got) := ⟨rfl, rfl, rfl, by decide +kernel, rfl, by decide +kernel, by decide +kernel⟩
abbrev s__law_changed : Stmt := top 27
theorem sc__law_changed : FnScope ["pen", "m", "text", "signs", "at", "way", "some"] ["pen", "m", "text"] (defScope s__law_changed) := ⟨rfl, rfl, rfl, by decide +kernel, rfl, by decide +kernel, by decide +kernel⟩
abbrev s_law : Stmt := top 28
theorem sc_law : FnScope ["script", "pen", "bout", "m", "f", "text", "some", "k", "other", "due", "value"] ["script"] (defScope s_law) := ⟨rfl, rfl, rfl, by decide +kernel, rfl, by decide +kernel, by decide +kernel⟩
-- a ≠ b; a place of a heap; what is kept
local macro_rules | `(tactic| walk_at "nq") => `(tactic| with_reducible first
  | assumption
  | (apply Ne.symm; assumption))
local macro_rules | `(tactic| walk_at "hp") => `(tactic| with_reducible first
  | assumption
  | exact upd_same
  | (refine Eq.trans (upd_ne ?_) ?_; (with_reducible walk_at "nq"); (with_reducible walk_at "hp")))
local macro_rules | `(tactic| walk_at "sm") => `(tactic| with_reducible first
  | assumption
  | exact Same.refl _
  | exact But.refl _ _
  | (refine sm_nw ?_ ?_; rotate_left; (with_reducible assumption); walk_at "sm")
  | (refine But.nw ?_ ?_; rotate_left; (with_reducible assumption); walk_at "sm")
  | (refine sm_own ?_ ?_; rotate_left; (with_reducible assumption); walk_at "sm")
  | (refine But.own ?_ ?_; rotate_left; (with_reducible assumption); walk_at "sm")
  | (refine But.wr ?_; walk_at "sm"))

structure Txt (K : PySem.W.Frag) (mg : Str → Option Value) : Prop where
  f_ValueError : mg "ValueError" = none
  f_abs : mg "abs" = none
  f_all : mg "all" = none
  f_bool : mg "bool" = none
  h_gcd : mg "gcd" = some (.builtin "math.gcd")
  f_int : mg "int" = none
  f_isinstance : mg "isinstance" = none
  f_len : mg "len" = none
  f_list : mg "list" = none
  f_max : mg "max" = none
  f_min : mg "min" = none
  f_range : mg "range" = none
  f_repr : mg "repr" = none
  f_sorted : mg "sorted" = none
  f_str : mg "str" = none
  f_tuple : mg "tuple" = none
  g_DIGITS : ∃ t, mg "DIGITS" = some (.str "0123456789" t)
  g_InvalidText : mg "InvalidText" = some (.ref (He.ga K "InvalidText"))
  c_InvalidText : EcC K (He.ga K "InvalidText") (He.ma K (He.ga K "InvalidText") "__init__") ["line"]
  v_InvalidText : PySem.W.kitOne K (.ref (He.ga K "InvalidText")) (.type "ValueError") = some true
  n_InvalidText_InvalidStep : PySem.W.kitOne K (.ref (He.ga K "InvalidText")) (.ref (He.ga K "InvalidStep")) = some false
  n_InvalidText_InvalidPath : PySem.W.kitOne K (.ref (He.ga K "InvalidText")) (.ref (He.ga K "InvalidPath")) = some false
  g_InvalidStep : mg "InvalidStep" = some (.ref (He.ga K "InvalidStep"))
  c_InvalidStep : EcC K (He.ga K "InvalidStep") (He.ma K (He.ga K "InvalidStep") "__init__") ["reason"]
  v_InvalidStep : PySem.W.kitOne K (.ref (He.ga K "InvalidStep")) (.type "ValueError") = some true
  n_InvalidStep_InvalidText : PySem.W.kitOne K (.ref (He.ga K "InvalidStep")) (.ref (He.ga K "InvalidText")) = some false
  n_InvalidStep_InvalidPath : PySem.W.kitOne K (.ref (He.ga K "InvalidStep")) (.ref (He.ga K "InvalidPath")) = some false
  g_InvalidPath : mg "InvalidPath" = some (.ref (He.ga K "InvalidPath"))
  c_InvalidPath : EcC K (He.ga K "InvalidPath") (He.ma K (He.ga K "InvalidPath") "__init__") ["index", "reason"]
  v_InvalidPath : PySem.W.kitOne K (.ref (He.ga K "InvalidPath")) (.type "ValueError") = some true
  n_InvalidPath_InvalidText : PySem.W.kitOne K (.ref (He.ga K "InvalidPath")) (.ref (He.ga K "InvalidText")) = some false
  n_InvalidPath_InvalidStep : PySem.W.kitOne K (.ref (He.ga K "InvalidPath")) (.ref (He.ga K "InvalidStep")) = some false
section
variable {P : Program} {w : World} {K : PySem.W.Frag} {mg : Str → Option Value} {base : Heap}
theorem c_pen (D : DefAt K mg "_law_pen" s__law_pen) (T : Txt K mg) :
    Cal P w K mg base 1 "_law_pen" ["script"] (sp_pen K) := by
  refine cal_mk D sc__law_pen (fun _ _ _ _ _ _ _ us hl => match us, hl with | [_], _ => rfl)
    (fun vs H Q E h => ?_) (fun f cdv A outer s H vs Q hgu hr h => ?_)
  · obtain ⟨a, ns, rfl, _⟩ := h; rfl
  · obtain ⟨a, ns, rfl, hS, hl, k⟩ := h
    have hu := hu_of hr
    refine ⟨_,
      (pss_one (ps_ret (pe_disp (pps_cons pe_str (pe_callTy call_list_of (by rfl) T.f_list (by decide +kernel) (pa_cons (pe_slice sl_list (pv 0) po_none (po_some pe_int)) pa_nil)) (pps_cons pe_str pe_int (pps_cons pe_str pe_int pps_nil))) (by rfl) (by rfl) (fun z => by cases z) (by decide))))
      , ?_⟩
    intro p hp
    refine ⟨_, rfl, _, rfl, a, _, rfl, (sm_new hp).seq hS, fun q hq => ?_⟩
    refine ⟨q, _, rfl, .inl (SqL.of upd_same), fun l hlf => ?_⟩
    have Hl : H l = none := ((sm_new hq).trans (Same.refl _) |> fun z => (sm_new hp).trans z).free hlf
    have npq : p ≠ q := ne_of_none upd_same hq
    have nql : q ≠ l := ne_of_none upd_same hlf
    have npl : p ≠ l := ne_of_none (o := .dK []) (by walk_at "hp") hlf
    refine ⟨by walk_at "hp", penD l 0 0, rfl, (by show 3 ≤ 15; decide), ?_⟩
    refine k _ p l ?_ hp Hl ⟨ns.take 63, 0, 0, ?_, ?_, by rw [List.length_take]; omega, Int.le_refl _, Int.le_refl _, Int.le_refl _⟩
    · walk_at "sm"
    · rw [upd_same, pen_merge]
    · rw [upd_ne (by walk_at "nq"), upd_same, cut_take]
theorem c_draw (D : DefAt K mg "_law_draw" s__law_draw) (T : Txt K mg) :
    Cal P w K mg base 1 "_law_draw" ["pen", "many"] sp_draw := by
  refine cal_mk D sc__law_draw (fun _ _ _ _ _ _ _ us hl => match us, hl with | [_, _], _ => rfl)
    (fun vs H Q E h => ?_) (fun f cdv A outer s H vs Q hgu hr h => ?_)
  · obtain ⟨p, L, n, many, rfl, _⟩ := h; rfl
  · obtain ⟨p, L, n, many, rfl, hp, hn, h0, h1, k⟩ := h
    have hu := hu_of hr
    refine ⟨_,
      (pss_cons (ps_if (pt_cmpR op_gt (pe_dget hu (pv 0) pe_str (fun _ _ => rfl)) pe_int (nomark _)) (pss_cons (ps_set (i := 2) sc__law_draw.nd rfl (Or.inl rfl) (pe_op op_modN (pe_dget hu (pv 0) pe_str (fun _ _ => rfl)) (pv 1)))
        (pss_cons (ps_dput hu (pv 0) pe_str (pe_op op_fdivW (pe_dget hu (pv 0) pe_str (fun _ _ => rfl)) (pv 1)) rfl)
        (pss_one (ps_ret (pv 2))))) pss_nil)
      (pss_cons (ps_set (i := 3) sc__law_draw.nd rfl (Or.inl rfl) (pe_dget hu (pv 0) pe_str (fun _ _ => rfl)))
      (pss_cons (ps_dput hu (pv 0) pe_str (pe_op op_add (pv 3) pe_int) rfl)
      (pss_cons (ps_set (i := 4) sc__law_draw.nd rfl (Or.inl rfl) (pe_op op_add (pe_op op_mul pe_int (pv 3)) pe_int))
      (pss_cons (ps_if (pt_cmpR (op_neD hr.units) (pe_dget hu (pv 0) pe_str (fun _ _ => rfl)) (pe_lst pa_nil) (nomark _)) (pss_one (ps_set (i := 4) sc__law_draw.nd rfl (Or.inl rfl) (pe_ix ix_list (pe_dget hu (pv 0) pe_str (fun _ _ => rfl)) (pe_op op_modN (pv 3) (pe_callB call_len_seq (by rfl) T.f_len (by decide +kernel) (pa_cons (pe_dget hu (pv 0) pe_str (fun _ _ => rfl)) pa_nil))) (fun _ _ => rfl)))) pss_nil)
      (pss_cons (ps_if (PW.pt (pw_and (pt_cmpR op_lt (pv 3) (pe_callB call_len_seq (by rfl) T.f_len (by decide +kernel) (pa_cons (pe_dget hu (pv 0) pe_str (fun _ _ => rfl)) pa_nil)) (nomark _)) (pw_and1 (pt_cmpR op_ge (pe_callB call_abs (by rfl) T.f_abs (by decide +kernel) (pa_cons (pv 4) pa_nil)) (pe_op op_pow pe_int pe_int) (nomark _))))) (pss_cons (ps_dput hu (pv 0) pe_str (pe_op op_fdivW (pe_op op_sub (pe_callB call_abs (by rfl) T.f_abs (by decide +kernel) (pa_cons (pv 4) pa_nil)) (pe_op op_pow pe_int pe_int)) (pv 1)) rfl)
        (pss_one (ps_ret (pe_op op_modN (pe_op op_sub (pe_callB call_abs (by rfl) T.f_abs (by decide +kernel) (pa_cons (pv 4) pa_nil)) (pe_op op_pow pe_int pe_int)) (pv 1))))) pss_nil)
      (pss_cons (ps_set (i := 5) sc__law_draw.nd rfl (Or.inl rfl) (pe_lst (pa_cons pe_int (pa_cons pe_int (pa_cons pe_int (pa_cons pe_int (pa_cons pe_int pa_nil)))))))
      (pss_cons (ps_set (i := 6) sc__law_draw.nd rfl (Or.inl rfl) (pe_ix ix_list (pv 5) (pe_op op_modN (pv 3) pe_int) (fun _ _ => rfl)))
      (pss_cons (ps_set (i := 7) sc__law_draw.nd rfl (Or.inl rfl) (pe_op op_modN (pe_op op_add (pe_op op_add (pe_op op_mul (pe_op op_modN (pv 4) (pv 6)) pe_int) (pe_op op_mul (pe_op op_mul pe_int (pv 3)) (pv 3))) pe_int) (pv 6)))
      (pss_cons (ps_set (i := 7) sc__law_draw.nd rfl (Or.inl rfl) (pe_op op_modN (pe_op op_mul (pv 7) (pe_op op_add (pv 7) pe_int)) (pe_ix ix_list (pv 5) (pe_op op_modN (pe_op op_add (pv 3) pe_int) pe_int) (fun _ _ => rfl))))
      (pss_one (ps_ret (pe_op op_modN (pe_op op_fdivN (pe_op op_modN (pe_op op_mul (pv 7) (pv 7)) pe_int) pe_int) (pv 1))))))))))))))
      , ?_⟩
    obtain ⟨cs, t, r, e1, e2, e3, e4, e5, e6⟩ := hp
    have nLp : L ≠ p := ne_dl e2 e1
    have gR := DGet.k (k := Sum.inr "rest") e1
    have gT := DGet.k (k := Sum.inr "turn") e1
    have gC := DGet.k (k := Sum.inr "cells") e1
    rw [pen_rest] at gR
    rw [pen_turn] at gT
    rw [pen_cells] at gC
    refine ⟨_, rfl, p, _, rfl, gR, _, _, rfl, rfl, _, rfl, ite2 (fun c => ?_) (fun c => ?_)⟩
    · -- the next digit of a large cell
      refine ⟨_, rfl, p, _, rfl, gR, _, rfl, _, _, rfl, rfl, (by show many ≠ 0; omega), ?_⟩
      refine ⟨_, rfl, p, _, rfl, gR, _, rfl, _, _, rfl, rfl, ⟨h0, h1⟩, _, rfl, p, _, rfl, DPut.k (k := Sum.inr "rest") e1 (by show 3 < sizeLine; decide), _, rfl, ?_⟩
      rw [pen_putR]
      have b := fmod_b (a := r) h0
      exact k _ _ (But.refl _ _).wr ⟨cs, t, r / many, upd_same, by rw [upd_ne nLp]; exact e2, e3, e4, by omega, Int.ediv_nonneg e6 (by omega)⟩ b.1 b.2
    · -- a new cell
      refine ⟨_, rfl, p, _, rfl, gT, ?_⟩
      refine ⟨_, rfl, _, _, rfl, rfl, _, rfl, p, _, rfl, DPut.k (k := Sum.inr "turn") e1 (by show 3 < sizeLine; decide), ?_⟩
      rw [pen_putT]
      generalize hH1 : upd H p (.dK (penD L (t + 1) r)) = H1
      have b1 : But p H H1 := by rw [← hH1]; exact (But.refl _ _).wr
      have f1 : H1 p = some (.dK (penD L (t + 1) r)) := by rw [← hH1]; exact upd_same
      have f2 : H1 L = some (.lst (cs.map V.int)) := by rw [← hH1, upd_ne nLp]; exact e2
      clear hH1
      have gC := DGet.k (k := Sum.inr "cells") f1
      rw [pen_cells] at gC
      refine ⟨_, rfl, _, _, rfl, rfl, (by constructor <;> decide), _, _, rfl, rfl, ?_⟩
      -- cell
      have cpow : CPow 10 18 := ⟨by decide, by decide, by decide⟩
      have hmany : many ≠ 0 := by omega
      have h5 : (5 : Int) ≠ 0 := by decide
      have h49 : (2147483549 : Int) ≠ 0 := by decide
      refine ⟨_, rfl, p, _, rfl, gC, Nat.zero_le _, fun q hq => ?_⟩
      have npq : p ≠ q := ne_of_none f1 hq
      have nLq : L ≠ q := ne_of_none f2 hq
      refine ⟨.list (cs.map PyData.int), .list [], Dp.lst (SqL.of (by walk_at "hp")) (dp_ints cs), Dp.lst (SqL.of upd_same) .nil, shaped_ints cs, rfl, _, rfl, ?_⟩
      rw [eqv_nil]
      have b2 : But p H (upd H1 q (.lst [])) := by walk_at "sm"
      have g1 : (upd H1 q (.lst [])) p = some (.dK (penD L (t + 1) r)) := by walk_at "hp"
      have g2 : (upd H1 q (.lst [])) L = some (.lst (cs.map V.int)) := by walk_at "hp"
      generalize upd H1 q (.lst []) = H2 at b2 g1 g2 ⊢
      have gC2 := DGet.k (k := Sum.inr "cells") g1
      rw [pen_cells] at gC2
      have nLp2 : L ≠ p := nLp
      clear hq b1 f1 f2 gC gR gT
      refine ite2 (fun c1 => ?_) (fun c1 => ?_)
      · have hpos : 0 < cs.length := by
          cases cs with
          | nil => cases c1
          | cons a b => simp
        obtain ⟨v, hv⟩ := at_mod (t := t) hpos
        have hne : (((cs.map V.int).length : Nat) : Int) ≠ 0 := by rw [List.length_map]; omega
        refine ⟨_, rfl, p, _, rfl, gC2, _, rfl, _, rfl, p, _, rfl, gC2, L, _, rfl, .inl (SqL.of g2), _, _, rfl, rfl, hne, L, _, _, _, rfl, rfl, SqL.of g2, hv, ?_⟩
        clear hne hv hpos
        clear c1
        refine ⟨_, rfl, _, rfl, p, _, rfl, gC2, L, _, rfl, .inl (SqL.of g2), _, _, rfl, rfl, _, rfl, ?_⟩
        refine ite2 (fun c2 => ?_) (fun c2 => iteF ?_)
        refine ⟨_, rfl, _, rfl, _, _, rfl, rfl, cpow, _, _, rfl, rfl, _, rfl, ?_⟩
        refine ite2 (fun c3 => ?_) (fun c3 => ?_)
        · -- a large cell
          refine ⟨_, rfl, _, rfl, _, _, rfl, rfl, cpow, _, _, rfl, rfl, _, rfl, _, _, rfl, rfl, ⟨h0, h1⟩, _, rfl, p, _, rfl, DPut.k (k := Sum.inr "rest") g1 (by show 3 < sizeLine; decide), ?_⟩
          rw [pen_putR]
          refine ⟨_, rfl, _, rfl, _, _, rfl, rfl, cpow, _, _, rfl, rfl, _, rfl, _, _, rfl, rfl, hmany, ?_⟩
          have c4 : (10 : Int) ^ (18 : Int).toNat ≤ (if v < 0 then -v else v) := of_decide_eq_true c3
          have hb := fmod_b (a := (if v < 0 then -v else v) - 10 ^ (18 : Int).toNat) h0
          exact k _ _ b2.wr ⟨cs, t + 1, _, upd_same, by rw [upd_ne nLp]; exact g2, e3, by omega, by omega, Int.ediv_nonneg (by omega) (by omega)⟩ hb.1 hb.2
        all_goals
          refine ⟨(by show 5 ≤ sizeLine; decide), fun l hl => ?_⟩
          have npl : p ≠ l := ne_of_none g1 hl
          have nLl : L ≠ l := ne_of_none g2 hl
          obtain ⟨p1, hp1, p1a, p1b⟩ := pick5 (a := 2147483647) (b := 2147483629) (c := 2147483587) (d := 2147483579) (e := 2147483563) (t := t) (fun z => 2147483563 ≤ z ∧ z ≤ 2147483647) (by decide) (by decide) (by decide) (by decide) (by decide) e4
          obtain ⟨p2, hp2, p2a, p2b⟩ := pick5 (a := 2147483647) (b := 2147483629) (c := 2147483587) (d := 2147483579) (e := 2147483563) (t := t + 3) (fun z => 2147483563 ≤ z ∧ z ≤ 2147483647) (by decide) (by decide) (by decide) (by decide) (by decide) (by omega)
          have hq1 : p1 ≠ 0 := by omega
          have hq2 : p2 ≠ 0 := by omega
          refine ⟨_, rfl, _, rfl, _, _, rfl, rfl, h5, l, _, _, _, rfl, rfl, SqL.of upd_same, hp1, ?_⟩
          have m1 := fmod_b (a := v) (b := p1) (by omega)
          refine ⟨_, rfl, _, rfl, _, _, rfl, rfl, hq1, _, _, rfl, rfl, .inl ⟨by omega, by omega⟩, _, rfl, _, _, rfl, rfl, .inl ⟨by decide, by decide⟩, _, rfl, _, _, rfl, rfl, .inl ⟨by omega, by omega⟩, _, _, rfl, rfl, _, _, rfl, rfl, _, rfl, _, _, rfl, rfl, hq1, ?_⟩
          have m2 := fmod_b (a := v.fmod p1 * 69621 + 40692 * t * t + 17) (b := p1) (by omega)
          refine ⟨_, rfl, _, rfl, _, _, rfl, rfl, _, _, rfl, rfl, .inl ⟨by omega, by omega⟩, _, rfl, _, rfl, _, _, rfl, rfl, _, _, rfl, rfl, h5, l, _, _, _, rfl, rfl, SqL.of upd_same, hp2, _, _, rfl, rfl, hq2, ?_⟩
          have m3 := fmod_b (a := ((v.fmod p1 * 69621 + 40692 * t * t + 17).fmod p1) * (((v.fmod p1 * 69621 + 40692 * t * t + 17).fmod p1) + 48271)) (b := p2) (by omega)
          refine ⟨_, rfl, _, rfl, _, _, rfl, rfl, .inl ⟨by omega, by omega⟩, _, _, rfl, rfl, h49, _, _, rfl, rfl, ⟨by decide, by decide⟩, _, rfl, _, _, rfl, rfl, hmany, ?_⟩
          have hb := fmod_b (a := (Int.fmod (((((v.fmod p1 * 69621 + 40692 * t * t + 17).fmod p1) * (((v.fmod p1 * 69621 + 40692 * t * t + 17).fmod p1) + 48271)).fmod p2) * ((((v.fmod p1 * 69621 + 40692 * t * t + 17).fmod p1) * (((v.fmod p1 * 69621 + 40692 * t * t + 17).fmod p1) + 48271)).fmod p2)) 2147483549).fdiv 64) h0
          refine k _ _ ?_ ⟨cs, t + 1, r, ?_, ?_, e3, by omega, by omega, e6⟩ hb.1 hb.2
          · walk_at "sm"
          · walk_at "hp"
          · walk_at "hp"
      · have hne := cs.length
        clear c1
        refine ⟨_, rfl, _, rfl, p, _, rfl, gC2, L, _, rfl, .inl (SqL.of g2), _, _, rfl, rfl, _, rfl, ?_⟩
        refine ite2 (fun c2 => ?_) (fun c2 => iteF ?_)
        refine ⟨_, rfl, _, rfl, _, _, rfl, rfl, cpow, _, _, rfl, rfl, _, rfl, ?_⟩
        refine ite2 (fun c3 => ?_) (fun c3 => ?_)
        · -- a large cell
          refine ⟨_, rfl, _, rfl, _, _, rfl, rfl, cpow, _, _, rfl, rfl, _, rfl, _, _, rfl, rfl, ⟨h0, h1⟩, _, rfl, p, _, rfl, DPut.k (k := Sum.inr "rest") g1 (by show 3 < sizeLine; decide), ?_⟩
          rw [pen_putR]
          refine ⟨_, rfl, _, rfl, _, _, rfl, rfl, cpow, _, _, rfl, rfl, _, rfl, _, _, rfl, rfl, hmany, ?_⟩
          have c4 : (10 : Int) ^ (18 : Int).toNat ≤ (if (37 * t + 11) < 0 then -(37 * t + 11) else (37 * t + 11)) := of_decide_eq_true c3
          have hb := fmod_b (a := (if (37 * t + 11) < 0 then -(37 * t + 11) else (37 * t + 11)) - 10 ^ (18 : Int).toNat) h0
          exact k _ _ b2.wr ⟨cs, t + 1, _, upd_same, by rw [upd_ne nLp]; exact g2, e3, by omega, by omega, Int.ediv_nonneg (by omega) (by omega)⟩ hb.1 hb.2
        all_goals
          refine ⟨(by show 5 ≤ sizeLine; decide), fun l hl => ?_⟩
          have npl : p ≠ l := ne_of_none g1 hl
          have nLl : L ≠ l := ne_of_none g2 hl
          obtain ⟨p1, hp1, p1a, p1b⟩ := pick5 (a := 2147483647) (b := 2147483629) (c := 2147483587) (d := 2147483579) (e := 2147483563) (t := t) (fun z => 2147483563 ≤ z ∧ z ≤ 2147483647) (by decide) (by decide) (by decide) (by decide) (by decide) e4
          obtain ⟨p2, hp2, p2a, p2b⟩ := pick5 (a := 2147483647) (b := 2147483629) (c := 2147483587) (d := 2147483579) (e := 2147483563) (t := t + 3) (fun z => 2147483563 ≤ z ∧ z ≤ 2147483647) (by decide) (by decide) (by decide) (by decide) (by decide) (by omega)
          have hq1 : p1 ≠ 0 := by omega
          have hq2 : p2 ≠ 0 := by omega
          refine ⟨_, rfl, _, rfl, _, _, rfl, rfl, h5, l, _, _, _, rfl, rfl, SqL.of upd_same, hp1, ?_⟩
          have m1 := fmod_b (a := (37 * t + 11)) (b := p1) (by omega)
          refine ⟨_, rfl, _, rfl, _, _, rfl, rfl, hq1, _, _, rfl, rfl, .inl ⟨by omega, by omega⟩, _, rfl, _, _, rfl, rfl, .inl ⟨by decide, by decide⟩, _, rfl, _, _, rfl, rfl, .inl ⟨by omega, by omega⟩, _, _, rfl, rfl, _, _, rfl, rfl, _, rfl, _, _, rfl, rfl, hq1, ?_⟩
          have m2 := fmod_b (a := (37 * t + 11).fmod p1 * 69621 + 40692 * t * t + 17) (b := p1) (by omega)
          refine ⟨_, rfl, _, rfl, _, _, rfl, rfl, _, _, rfl, rfl, .inl ⟨by omega, by omega⟩, _, rfl, _, rfl, _, _, rfl, rfl, _, _, rfl, rfl, h5, l, _, _, _, rfl, rfl, SqL.of upd_same, hp2, _, _, rfl, rfl, hq2, ?_⟩
          have m3 := fmod_b (a := (((37 * t + 11).fmod p1 * 69621 + 40692 * t * t + 17).fmod p1) * ((((37 * t + 11).fmod p1 * 69621 + 40692 * t * t + 17).fmod p1) + 48271)) (b := p2) (by omega)
          refine ⟨_, rfl, _, rfl, _, _, rfl, rfl, .inl ⟨by omega, by omega⟩, _, _, rfl, rfl, h49, _, _, rfl, rfl, ⟨by decide, by decide⟩, _, rfl, _, _, rfl, rfl, hmany, ?_⟩
          have hb := fmod_b (a := (Int.fmod ((((((37 * t + 11).fmod p1 * 69621 + 40692 * t * t + 17).fmod p1) * ((((37 * t + 11).fmod p1 * 69621 + 40692 * t * t + 17).fmod p1) + 48271)).fmod p2) * (((((37 * t + 11).fmod p1 * 69621 + 40692 * t * t + 17).fmod p1) * ((((37 * t + 11).fmod p1 * 69621 + 40692 * t * t + 17).fmod p1) + 48271)).fmod p2)) 2147483549).fdiv 64) h0
          refine k _ _ ?_ ⟨cs, t + 1, r, ?_, ?_, e3, by omega, by omega, e6⟩ hb.1 hb.2
          · walk_at "sm"
          · walk_at "hp"
          · walk_at "hp"
end
end Vg

set_option Elab.async false
set_option linter.all false
set_option maxRecDepth 100000
set_option maxHeartbeats 2000000
namespace Vg
open PySem PySem.Spec PyProof.Rows L2
-- a ≠ b; a place of a heap; what is kept
local macro_rules | `(tactic| walk_at "nq") => `(tactic| with_reducible first
  | assumption
  | (apply Ne.symm; assumption))
local macro_rules | `(tactic| walk_at "hp") => `(tactic| with_reducible first
  | assumption
  | exact upd_same
  | (refine Eq.trans (upd_ne ?_) ?_; (with_reducible walk_at "nq"); (with_reducible walk_at "hp")))
local macro_rules | `(tactic| walk_at "sm") => `(tactic| with_reducible first
  | assumption
  | exact Same.refl _
  | exact But.refl _ _
  | (refine sm_nw ?_ ?_; rotate_left; (with_reducible assumption); walk_at "sm")
  | (refine But.nw ?_ ?_; rotate_left; (with_reducible assumption); walk_at "sm")
  | (refine sm_own ?_ ?_; rotate_left; (with_reducible assumption); walk_at "sm")
  | (refine But.own ?_ ?_; rotate_left; (with_reducible assumption); walk_at "sm")
  | (refine But.wr ?_; walk_at "sm"))

section
variable {P : Program} {w : World} {K : PySem.W.Frag} {mg : Str → Option Value} {base : Heap}
theorem c_pick (D : DefAt K mg "_law_pick" s__law_pick) (T : Txt K mg)
    (c__law_draw : Cal P w K mg base 1 "_law_draw" ["pen", "many"] sp_draw) :
    Cal P w K mg base 2 "_law_pick" ["pen", "some"] (sp_pick K) := by
  refine cal_mk D sc__law_pick (fun _ _ _ _ _ _ _ us hl => match us, hl with | [_, _], _ => rfl)
    (fun vs H Q E h => ?_) (fun f cdv A outer s H vs Q hgu hr h => ?_)
  · obtain ⟨p, L, a, n, xs, rfl, _⟩ := h; rfl
  · obtain ⟨p, L, a, n, xs, rfl, hp, hn, hS, hap, hpos, hbig, k⟩ := h
    refine ⟨_,
      (pss_one (ps_ret (pe_ix ix_seq (pv 1) (pe_cal c__law_draw hgu (hr.mono (by decide)) (pa_cons (pv 0) (pa_cons (pe_callB call_len_seq (by rfl) T.f_len (by decide +kernel) (pa_cons (pv 1) pa_nil)) pa_nil))) (fun _ _ => rfl))))
      , ?_⟩
    refine ⟨_, rfl, _, rfl, _, rfl, a, xs, rfl, hS, ?_⟩
    refine ⟨p, L, n, _, rfl, hp, hn, by omega, len_log hbig hpos, fun H1 d b1 pn1 d0 d1 => ?_⟩
    obtain ⟨v, hv, hm⟩ := at_in (xs := xs) d0 d1
    rcases hS with hS | hS
    · exact .inl ⟨a, xs, d, v, rfl, rfl, b1.seq hap hS, hv, k _ _ b1 pn1 hm⟩
    · exact .inr (.inl ⟨a, xs, d, v, rfl, rfl, b1.tup hap hS, hv, k _ _ b1 pn1 hm⟩)
theorem c_shuffled (D : DefAt K mg "_law_shuffled" s__law_shuffled) (T : Txt K mg)
    (c__law_draw : Cal P w K mg base 1 "_law_draw" ["pen", "many"] sp_draw) :
    Cal P w K mg base 2 "_law_shuffled" ["pen", "some"] (sp_shuffled K) := by
  refine cal_mk D sc__law_shuffled (fun _ _ _ _ _ _ _ us hl => match us, hl with | [_, _], _ => rfl)
    (fun vs H Q E h => ?_) (fun f cdv A outer s H vs Q hgu hr h => ?_)
  · obtain ⟨p, L, a, n, ns, rfl, _⟩ := h; rfl
  · obtain ⟨p, L, a, n, ns, rfl, hp, hn, hS, hl, k⟩ := h
    refine ⟨_,
      (pss_cons (ps_par (i := 2) (j := 3) (by rfl) sc__law_shuffled.nd rfl rfl (by decide) rfl rfl (pa_cons (pe_callTy call_list_of (by rfl) T.f_list (by decide +kernel) (pa_cons (pv 1) pa_nil)) (pa_cons (pe_lst pa_nil) pa_nil)) (by rfl))
      (pss_cons (ps_while PassesOwn.never (pt_cmpR (op_neD hr.units) (pv 2) (pe_lst pa_nil) (nomark _))
        (pss_one (ps_expr (pe_bm PySem.F.plainAttrs_list PySem.F.slot_list_append PySem.F.type_list_append mt_append (pv 3) (pa_cons (pe_bm PySem.F.plainAttrs_list PySem.F.slot_list_pop PySem.F.type_list_pop mt_popAt (pv 2) (pa_cons (pe_cal c__law_draw hgu (hr.mono (by decide)) (pa_cons (pv 0) (pa_cons (pe_callB call_len_seq (by rfl) T.f_len (by decide +kernel) (pa_cons (pv 2) pa_nil)) pa_nil))) pa_nil)) pa_nil)))))
      (pss_one (ps_ret (pv 3)))))
      , ?_⟩
    refine ⟨_, rfl, a, _, rfl, .inl hS, fun l hlf => ?_⟩
    refine ⟨Nat.zero_le _, fun m hmf => ?_⟩
    have nlm : l ≠ m := ne_of_none upd_same hmf
    have Hm : H m = none := (sm_new hlf).free hmf
    have nlp : l ≠ p := hp.ne_n hlf
    have nmp : m ≠ p := hp.ne_n Hm
    have nlL : l ≠ L := hp.ne_nL hlf
    have nmL : m ≠ L := hp.ne_nL Hm
    have sm0 : Same H (upd (upd H l (.lst (ns.map V.int))) m (.lst [])) := by walk_at "sm"
    refine ⟨_, _, rfl, ?_⟩
    refine ⟨fun j σ' H' => ∃ (ls ms : List Int), σ' = [some (.ref p), some (.ref a), some (.ref l), some (.ref m)] ∧ j = ls.length ∧ But p H H' ∧
      PenAt H' p L (n + ms.length) ∧ H' l = some (.lst (ls.map V.int)) ∧ H' m = some (.lst (ms.map V.int)) ∧ (ms ++ ls).Perm ns, ?_, ?_⟩
    · exact ⟨_, ns, [], rfl, rfl, But.of sm0, (hp.same sm0).mono (Nat.le_refl _), by walk_at "hp", upd_same, List.Perm.refl _⟩
    · rintro j σ' H' ⟨ls, ms, rfl, rfl, b1, pn1, e1, e2, hpm⟩
      have hlen : ms.length + ls.length = ns.length := by rw [← hpm.length_eq, List.length_append]
      refine ⟨_, rfl, Nat.zero_le _, fun q hq => ?_⟩
      have nlq : l ≠ q := ne_of_none e1 hq
      have nmq : m ≠ q := ne_of_none e2 hq
      have npq : p ≠ q := (pn1.ne_n hq).symm
      refine ⟨.list (ls.map PyData.int), .list [], Dp.lst (SqL.of (by walk_at "hp")) (dp_ints ls), Dp.lst (SqL.of upd_same) .nil, shaped_ints ls, rfl, _, rfl, ?_⟩
      rw [eqv_nil]
      have b2 : But p H (upd H' q (.lst [])) := by walk_at "sm"
      have pn2 := pn1.same (sm_new (o := .lst []) hq)
      have f1 : (upd H' q (.lst [])) l = some (.lst (ls.map V.int)) := by walk_at "hp"
      have f2 : (upd H' q (.lst [])) m = some (.lst (ms.map V.int)) := by walk_at "hp"
      generalize upd H' q (.lst []) = H2 at b2 pn2 f1 f2 ⊢
      clear hq b1 pn1 e1 e2
      cases ls with
      | nil =>
        refine iteF ⟨_, rfl, k H2 m ms b2 (pn2.mono (by omega)) Hm f2 ?_⟩
        rw [List.append_nil] at hpm
        exact hpm
      | cons x r =>
        refine iteT ⟨_, fun _ _ z => z, ?_⟩
        refine ⟨_, rfl, .inl ⟨rfl, _, SqL.of f2⟩, _, rfl, .inl ⟨rfl, _, SqL.of f1⟩, _, rfl, _, rfl, l, _, rfl, .inl (SqL.of f1), ?_⟩
        refine ⟨p, L, _, _, rfl, pn2, by omega, by simp, len_log (by rw [List.length_map]; omega) (by simp), fun H3 d b3 pn3 d0 d1 => ?_⟩
        have g1 := b3 _ _ nlp f1
        have g2 := b3 _ _ nmp f2
        obtain ⟨i, rfl⟩ : ∃ i : Nat, d = (i : Int) := ⟨d.toNat, by omega⟩
        have hi : i < (x :: r).length := by
          have z := d1
          rw [List.length_map] at z
          omega
        have hiv : ((x :: r).map V.int)[i]? = some (V.int (x :: r)[i]) := by
          rw [List.getElem?_map, List.getElem?_eq_getElem hi]; rfl
        refine ⟨l, _, _, i, _, rfl, rfl, g1, by omega, by omega, seq_nat (by rw [List.length_map]; exact hi), hiv, ?_⟩
        refine ⟨m, _, _, rfl, rfl, (by walk_at "hp"), (by show (ms.map V.int).length < sizeLine; rw [List.length_map]; exact Nat.lt_of_lt_of_le (by omega : ms.length < 1001) (by decide)), ?_⟩
        refine ⟨_, by show ((x :: r).eraseIdx i).length < (x :: r).length; rw [List.length_eraseIdx_of_lt hi]; simp, (x :: r).eraseIdx i, ms ++ [(x :: r)[i]], rfl, rfl, ?_, ?_, ?_, ?_, ?_⟩
        · have b4 := b2.trans b3
          walk_at "sm"
        · rw [List.length_append, List.length_singleton, ← Nat.add_assoc]
          exact (pn3.wr nlp nlL).wr nmp nmL
        · rw [map_erase]
          walk_at "hp"
        · rw [List.map_append]
          exact upd_same
        · refine (List.Perm.trans ?_ hpm)
          rw [List.append_assoc]
          exact List.Perm.append_left _ (perm_erase hi)
end
end Vg

set_option Elab.async false
set_option linter.all false
set_option maxRecDepth 100000
set_option maxHeartbeats 2000000
namespace Vg
open PySem PySem.Spec PyProof.Rows L2
-- a ≠ b; a place of a heap; what is kept
local macro_rules | `(tactic| walk_at "nq") => `(tactic| with_reducible first
  | assumption
  | (apply Ne.symm; assumption))
local macro_rules | `(tactic| walk_at "hp") => `(tactic| with_reducible first
  | assumption
  | exact upd_same
  | (refine Eq.trans (upd_ne ?_) ?_; (with_reducible walk_at "nq"); (with_reducible walk_at "hp")))
local macro_rules | `(tactic| walk_at "sm") => `(tactic| with_reducible first
  | assumption
  | exact Same.refl _
  | exact But.refl _ _
  | (refine sm_nw ?_ ?_; rotate_left; (with_reducible assumption); walk_at "sm")
  | (refine But.nw ?_ ?_; rotate_left; (with_reducible assumption); walk_at "sm")
  | (refine sm_own ?_ ?_; rotate_left; (with_reducible assumption); walk_at "sm")
  | (refine But.own ?_ ?_; rotate_left; (with_reducible assumption); walk_at "sm")
  | (refine But.wr ?_; walk_at "sm"))

section
variable {P : Program} {w : World} {K : PySem.W.Frag} {mg : Str → Option Value} {base : Heap}
theorem c_modulus (D : DefAt K mg "_law_modulus" s__law_modulus) (T : Txt K mg)
    (c__law_draw : Cal P w K mg base 1 "_law_draw" ["pen", "many"] sp_draw)
    (c__law_pick : Cal P w K mg base 2 "_law_pick" ["pen", "some"] (sp_pick K))
    (c__law_shuffled : Cal P w K mg base 2 "_law_shuffled" ["pen", "some"] (sp_shuffled K)) :
    Cal P w K mg base 3 "_law_modulus" ["pen", "most"] sp_modulus := by
  refine cal_mk D sc__law_modulus (fun _ _ _ _ _ _ _ us hl => match us, hl with | [_, _], _ => rfl)
    (fun vs H Q E h => ?_) (fun f cdv A outer s H vs Q hgu hr h => ?_)
  · obtain ⟨p, L, n, most, rfl, _⟩ := h; rfl
  · obtain ⟨p, L, n, most, rfl, hp, hn, hm2, hm9, k⟩ := h
    refine ⟨_,
      (pss_cons (ps_par (i := 2) (j := 3) (by rfl) sc__law_modulus.nd rfl rfl (by decide) rfl rfl (pa_cons pe_int (pa_cons (pe_op op_cat (pe_slice sl_list (pe_cal c__law_shuffled hgu (hr.mono (by decide)) (pa_cons (pv 0) (pa_cons (pe_lst (pa_cons pe_int (pa_cons pe_int (pa_cons pe_int (pa_cons pe_int (pa_cons pe_int (pa_cons pe_int pa_nil))))))) pa_nil))) po_none (po_some (pe_op op_add pe_int (pe_cal c__law_draw hgu (hr.mono (by decide)) (pa_cons (pv 0) (pa_cons pe_int pa_nil)))))) (pe_lst (pa_cons pe_int pa_nil))) pa_nil)) (by rfl))
      (pss_cons (ps_for PassesOwn.never rfl (pi_range1 (by rfl) T.f_range (pa_cons (pe_op op_add pe_int (pe_cal c__law_draw hgu (hr.mono (by decide)) (pa_cons (pv 0) (pa_cons pe_int pa_nil)))) pa_nil)) (pg_name (i := 4) sc__law_modulus.nd rfl (Or.inl rfl))
        (pss_cons (ps_set (i := 5) sc__law_modulus.nd rfl (Or.inl rfl) (pe_cal c__law_pick hgu (hr.mono (by decide)) (pa_cons (pv 0) (pa_cons (pv 3) pa_nil))))
        (pss_one (ps_if (pt_cmpR op_le (pe_op op_mul (pv 2) (pv 5)) (pv 1) (nomark _)) (pss_one (ps_set (i := 2) sc__law_modulus.nd rfl (Or.inl rfl) (pe_op op_mul (pv 2) (pv 5)))) pss_nil))))
      (pss_one (ps_ret (pe_ifExp (pt_cmpR op_gt (pv 2) pe_int (nomark _)) (pv 2) pe_int)))))
      , ?_⟩
    refine ⟨_, rfl, (by show 6 ≤ sizeLine; decide), fun l hl => ?_⟩
    refine ⟨p, L, l, n, [2, 3, 5, 7, 11, 13], rfl, hp.new hl, by show n + 6 ≤ _; omega, SqL.of upd_same, by decide, ?_⟩
    intro H1 l1 ms b1 pn1 f1 g1 hpm
    have b1' : But p H H1 := (But.new hl).trans b1
    refine ⟨_, rfl, p, L, _, 3, rfl, pn1, by show n + 6 ≤ _; omega, by decide, by decide, ?_⟩
    intro H2 d b2 pn2 d0 d1
    have n1 : l1 ≠ p := pn1.ne_l g1
    have g2 := b2 _ _ n1 g1
    refine ⟨_, _, rfl, rfl, _, rfl, l1, _, rfl, SqL.of g2, fun q hq => ?_⟩
    refine ⟨(by show 1 ≤ sizeLine; decide), fun r hr2 => ?_⟩
    have hlen : ms.length = 6 := by rw [hpm.length_eq]; rfl
    have nqr : q ≠ r := ne_of_none upd_same hr2
    refine ⟨q, r, _, _, rfl, rfl, (by walk_at "hp"), upd_same, ?_, fun z hz => ?_⟩
    · have h1 := cutV_length (ms.map V.int) none (some (1 + d))
      rw [List.length_map] at h1
      exact Nat.le_trans (show (cutV (ms.map V.int) none (some (1 + d))).length + 1 ≤ 1000 by omega) (by decide)
    refine ⟨_, _, rfl, ?_⟩
    -- the primes to pick from
    have hmem : ∀ v ∈ cutV (ms.map V.int) none (some (1 + d)) ++ [V.int 2], ∃ i, v = V.int i ∧ i ∈ ([2, 3, 5, 7, 11, 13] : List Int) := by
      intro v hv
      rcases List.mem_append.mp hv with hv | hv
      · obtain ⟨i, hi, rfl⟩ := List.mem_map.mp (mem_cut hv)
        exact ⟨i, rfl, hpm.mem_iff.mp hi⟩
      · exact ⟨2, List.mem_singleton.mp hv, by simp⟩
    have hpl : 0 < (cutV (ms.map V.int) none (some (1 + d)) ++ [V.int 2]).length := by simp
    have hpl2 : (cutV (ms.map V.int) none (some (1 + d)) ++ [V.int 2]).length ≤ 1000000 := by
      have h1 := cutV_length (ms.map V.int) none (some (1 + d))
      rw [List.length_map] at h1
      rw [List.length_append, List.length_singleton]
      omega
    generalize hps : cutV (ms.map V.int) none (some (1 + d)) ++ [V.int 2] = ps at hmem hpl hpl2 hz ⊢
    have b3 : But p H (upd (upd (upd H2 q (.lst (cutV (ms.map V.int) none (some (1 + d))))) r (.lst [.int 2])) z (.lst ps)) :=
      (((b1'.trans b2).nw hq).nw hr2).nw hz
    have pn3 := ((pn2.new (o := .lst (cutV (ms.map V.int) none (some (1 + d)))) hq).new (o := .lst [.int 2]) hr2).new (o := .lst ps) hz
    have g3 : (upd (upd (upd H2 q (.lst (cutV (ms.map V.int) none (some (1 + d))))) r (.lst [.int 2])) z (.lst ps)) z = some (.lst ps) := upd_same
    generalize upd (upd (upd H2 q (.lst (cutV (ms.map V.int) none (some (1 + d))))) r (.lst [.int 2])) z (.lst ps) = H3 at b3 pn3 g3 ⊢
    clear hz hps hr2 hq
    have nzp : z ≠ p := pn3.ne_l g3
    refine ⟨_, rfl, p, L, _, 12, rfl, pn3, by show n + 6 + 1 ≤ _; omega, by decide, by decide, ?_⟩
    intro H4 e b4 pn4 e0 e1
    have g4 := b4 _ _ nzp g3
    refine ⟨_, _, rfl, rfl, _, rfl, by omega, by omega, for_range (n := (1 + e).toNat)
      (fun i σ' H' => ∃ (m : Int) (kk pp : Option V), σ' = [some (.ref p), some (.int most), some (.int m), some (.ref z), kk, pp] ∧ But p H H' ∧
        PenAt H' p L (n + 8 + i) ∧ H' z = some (.lst ps) ∧ 1 ≤ m ∧ (m = 1 ∨ 2 ≤ m) ∧ m ≤ most ∧ Sm m) ?_ ?_ ?_⟩
    · exact ⟨1, none, none, rfl, b3.trans b4, pn4, g4, by decide, .inl rfl, by omega, .one⟩
    · rintro i σ' H' hi ⟨m, kk, pp, rfl, c1, c2, c3, c4, c5, c6, c7⟩
      refine ⟨_, rfl, _, rfl, p, L, z, _, ps, rfl, c2, by omega, .inl (SqL.of c3), nzp, hpl, hpl2, ?_⟩
      intro H5 v b5 pn5 hv
      obtain ⟨q', rfl, hq'⟩ := hmem v hv
      have hq2 := p13 hq'
      have c3' := b5 _ _ nzp c3
      refine ⟨_, rfl, _, rfl, _, _, rfl, rfl, .inl ⟨by omega, by omega⟩, _, rfl, _, _, rfl, rfl, _, rfl, ite2 (fun c => ?_) (fun c => ?_)⟩
      · have c' : m * q' ≤ most := of_decide_eq_true c
        have hge : 2 ≤ m * q' := by
          have := Int.mul_le_mul c4 hq2.1 (by decide) (by omega)
          omega
        refine ⟨_, rfl, _, rfl, _, _, rfl, rfl, .inl ⟨by omega, by omega⟩, ?_⟩
        exact ⟨m * q', _, _, rfl, c1.trans b5, pn5.mono (by omega), c3', by omega, .inr hge, c', .mul c7 hq'⟩
      · exact ⟨m, _, _, rfl, c1.trans b5, pn5.mono (by omega), c3', c4, c5, c6, c7⟩
    · rintro σ' H' ⟨m, kk, pp, rfl, c1, c2, c3, c4, c5, c6, c7⟩
      have pnE : PenAt H' p L (n + 20) := c2.mono (by omega)
      refine ⟨_, rfl, _, _, rfl, rfl, _, rfl, ite2 (fun c => ?_) (fun c => ?_)⟩
      · have c' : 1 < m := of_decide_eq_true c
        exact ⟨_, rfl, k _ _ c1 pnE (by omega) c6 c7⟩
      · exact k _ _ c1 pnE (by decide) hm2 sm2
end
end Vg

set_option Elab.async false
set_option linter.all false
set_option maxRecDepth 100000
set_option maxHeartbeats 2000000
namespace Vg
open PySem PySem.Spec PyProof.Rows L2
-- a ≠ b; a place of a heap; what is kept
local macro_rules | `(tactic| walk_at "nq") => `(tactic| with_reducible first
  | assumption
  | (apply Ne.symm; assumption))
local macro_rules | `(tactic| walk_at "hp") => `(tactic| with_reducible first
  | assumption
  | exact upd_same
  | (refine Eq.trans (upd_ne ?_) ?_; (with_reducible walk_at "nq"); (with_reducible walk_at "hp")))
local macro_rules | `(tactic| walk_at "sm") => `(tactic| with_reducible first
  | assumption
  | exact Same.refl _
  | exact But.refl _ _
  | (refine sm_nw ?_ ?_; rotate_left; (with_reducible assumption); walk_at "sm")
  | (refine But.nw ?_ ?_; rotate_left; (with_reducible assumption); walk_at "sm")
  | (refine sm_own ?_ ?_; rotate_left; (with_reducible assumption); walk_at "sm")
  | (refine But.own ?_ ?_; rotate_left; (with_reducible assumption); walk_at "sm")
  | (refine But.wr ?_; walk_at "sm"))

section
variable {P : Program} {w : World} {K : PySem.W.Frag} {mg : Str → Option Value} {base : Heap}
theorem c_lgcd (D : DefAt K mg "_law_gcd" s__law_gcd) (T : Txt K mg) :
    Cal P w K mg base 1 "_law_gcd" ["one", "other"] sp_lgcd := by
  refine cal_mk D sc__law_gcd (fun _ _ _ _ _ _ _ us hl => match us, hl with | [_, _], _ => rfl)
    (fun vs H Q E h => ?_) (fun f cdv A outer s H vs Q hgu hr h => ?_)
  · obtain ⟨a, b, rfl, _⟩ := h; rfl
  · obtain ⟨a, b, rfl, ha, hb, k⟩ := h
    refine ⟨_,
      (pss_cons (ps_while PassesOwn.never (pt_cmpR op_ne (pv 1) pe_int (nomark _))
        (pss_one (ps_par (i := 0) (j := 1) (by rfl) sc__law_gcd.nd rfl rfl (by decide) rfl rfl (pa_cons (pv 1) (pa_cons (pe_op op_modN (pv 0) (pv 1)) pa_nil)) (by rfl))))
      (pss_one (ps_ret (pe_callB call_abs (by rfl) T.f_abs (by decide +kernel) (pa_cons (pv 0) pa_nil)))))
      , ?_⟩
    refine ⟨fun j σ' H' => ∃ x y : Int, σ' = [some (.int x), some (.int y)] ∧ j = y.toNat ∧ H' = H ∧ 0 ≤ x ∧ 0 ≤ y ∧ gcdI x y = gcdI a b,
      ⟨_, a, b, rfl, rfl, rfl, ha, hb, rfl⟩, ?_⟩
    rintro j σ' H' ⟨x, y, rfl, rfl, rfl, hx, hy, e⟩
    refine ⟨_, rfl, rfl, _, rfl, ?_⟩
    rw [dp1]
    by_cases c : y = 0
    · rw [decide_eq_true c]
      subst c
      rw [gcd_end hx] at e
      refine iteF ⟨_, rfl, _, rfl, ?_⟩
      rw [if_neg (by omega), e]
      exact k
    · rw [decide_eq_false c]
      have b1 := fmod_b (a := x) (b := y) (by omega)
      refine iteT ⟨_, fun _ _ z => z, ?_⟩
      refine ⟨_, rfl, _, rfl, _, rfl, _, _, rfl, rfl, c, _, _, rfl, ?_⟩
      exact ⟨_, by omega, y, x.fmod y, rfl, rfl, rfl, hy, b1.1, by rw [gcd_step hx (by omega)]; exact e⟩
theorem c_divisors (D : DefAt K mg "_law_divisors" s__law_divisors) (T : Txt K mg) :
    Cal P w K mg base 1 "_law_divisors" ["m"] sp_divisors := by
  refine cal_mk D sc__law_divisors (fun _ _ _ _ _ _ _ us hl => match us, hl with | [_], _ => rfl)
    (fun vs H Q E h => ?_) (fun f cdv A outer s H vs Q hgu hr h => ?_)
  · obtain ⟨m, rfl, _⟩ := h; rfl
  · obtain ⟨m, rfl, hm1, hm9, k⟩ := h
    refine ⟨_,
      (pss_cons (ps_par (i := 1) (j := 2) (by rfl) sc__law_divisors.nd rfl rfl (by decide) rfl rfl (pa_cons (pe_lst (pa_cons pe_int pa_nil)) (pa_cons (pv 0) pa_nil)) (by rfl))
      (pss_cons (ps_for PassesOwn.never rfl (pi_tup (pe_tup (pa_cons pe_int (pa_cons pe_int (pa_cons pe_int (pa_cons pe_int (pa_cons pe_int (pa_cons pe_int pa_nil)))))))) (pg_name (i := 3) sc__law_divisors.nd rfl (Or.inl rfl))
        (pss_cons (ps_set (i := 4) sc__law_divisors.nd rfl (Or.inl rfl) (pe_lst (pa_cons pe_int pa_nil)))
        (pss_cons (ps_while PassesOwn.never (pt_cmpR op_eq (pe_op op_modN (pv 2) (pv 3)) pe_int (nomark _))
          (pss_cons (ps_set (i := 2) sc__law_divisors.nd rfl (Or.inl rfl) (pe_op op_fdivN (pv 2) (pv 3)))
          (pss_one (ps_expr (pe_bm PySem.F.plainAttrs_list PySem.F.slot_list_append PySem.F.type_list_append mt_append (pv 4) (pa_cons (pe_op op_mul (pe_ix ix_list (pv 4) (pe_un un_neg pe_int) (fun _ _ => rfl)) (pv 3)) pa_nil))))))
        (pss_cons (ps_set (i := 5) sc__law_divisors.nd rfl (Or.inl rfl) (pe_lst pa_nil))
        (pss_cons (ps_for PassesOwn.never rfl (pi_list (pv 4)) (pg_name (i := 6) sc__law_divisors.nd rfl (Or.inr rfl))
          (pss_one (ps_expr (pe_bm PySem.F.plainAttrs_list PySem.F.slot_list_extend PySem.F.type_list_extend mt_extend (pv 5) (pa_cons (pe_lc (own := [("one", 7)]) (g := gName 7) (by rfl) sc__law_divisors.nd (pi_list (pv 1)) (blkOk_by (own := [("one", 7)]) (N := ["m", "found", "left", "prime", "powers", "every", "factor", "one"]) (sc := defScope s__law_divisors) (by decide +kernel)) (fun _ _ _ _ _ => pg_name (i := 7) sc__law_divisors.nd rfl (Or.inl rfl)) (fun _ _ _ _ _ => pts_nil) (fun _ _ _ _ _ => (pe_op op_mul (pv 7) (pv 6)))) pa_nil)))))
        (pss_one (ps_set (i := 1) sc__law_divisors.nd rfl (Or.inl rfl) (pv 5))))))))
      (pss_one (ps_ret (pe_callB cr_sortedI (by rfl) T.f_sorted (by decide +kernel) (pa_cons (pv 1) pa_nil))))))
      , ?_⟩
    refine ⟨(by show 1 ≤ sizeLine; decide), fun l hl => ?_⟩
    refine ⟨_, rfl, _, _, rfl, ?_⟩
    refine ⟨(by show 6 ≤ sizeLine; decide), fun t ht => ?_⟩
    have nlt : l ≠ t := ne_of_none upd_same ht
    refine ⟨t, rfl, ⟨_, SqT.of upd_same⟩, for_tup (K := K) (a := t) (xs := [V.int 2, .int 3, .int 5, .int 7, .int 11, .int 13])
      (fun i σ' H' => ∃ (l : Addr) (ds : List Int) (x : Int) (o1 o2 o3 o4 o5 : Option V), σ' = [some (.int m), some (.ref l), some (.int x), o1, o2, o3, o4, o5] ∧ Same H H' ∧
        H' l = some (.lst (ds.map V.int)) ∧ H' t = some (.tup [V.int 2, .int 3, .int 5, .int 7, .int 11, .int 13]) ∧ Dv m i ds x) ?_ ?_ ?_ ?_⟩
    · exact ⟨l, [1], m, none, none, none, none, none, rfl, by walk_at "sm", (upd_ne nlt).trans upd_same, upd_same, Dv.start hm1⟩
    · rintro i σ' H' _ ⟨l, ds, x, o1, o2, o3, o4, o5, rfl, a1, a2, a3, a4⟩
      exact SqT.of a3
    · rintro i v σ' H' hi ⟨l, ds, x0, o1, o2, o3, o4, o5, rfl, a1, a2, a3, a4⟩
      obtain ⟨q, rfl, hq2, hq13⟩ := p6v hi
      have hi6 : i < 6 := (List.getElem?_eq_some_iff.mp hi).1
      refine ⟨(by show 1 ≤ sizeLine; decide), fun pw hpw => ?_⟩
      have Hpw : H pw = none := a1.free hpw
      have nlpw : l ≠ pw := ne_of_none a2 hpw
      have ntpw : t ≠ pw := ne_of_none a3 hpw
      refine ⟨fun j σ2 H2 => ∃ (ps : List Int) (x : Int), σ2 = [some (.int m), some (.ref l), some (.int x), some (.int q), some (.ref pw), o3, o4, o5] ∧ j = x.toNat ∧ Same H H2 ∧
        H2 pw = some (.lst (ps.map V.int)) ∧ H2 l = some (.lst (ds.map V.int)) ∧ H2 t = some (.tup [V.int 2, .int 3, .int 5, .int 7, .int 11, .int 13]) ∧ Pw q x0 ps x,
        ⟨_, [1], x0, rfl, rfl, by walk_at "sm", upd_same, (upd_ne nlpw).trans a2, (upd_ne ntpw).trans a3, Pw.start a4.pos⟩, ?_⟩
      rintro j σ2 H2 ⟨ps, x, rfl, rfl, b1, b2, b3, b4, b5⟩
      obtain ⟨ini, last, rfl, e1, e2, e3⟩ := b5.ex
      have x0m := a4.le
      have sh : ini.length ≤ 30 ∧ last ≤ 1000000000 := by
        refine short_way e2 ?_ b5.pos e1 (by omega)
        rw [e3]
        have hh : ∀ n : Nat, 2 ^ n ≤ (q ^ n).toNat := by
          intro n
          have : ((2 : Nat) ^ n : Int) ≤ q ^ n := by
            induction n with
            | zero => simp
            | succ n ih =>
              rw [Int.pow_succ, Int.pow_succ]
              have h0 : (0 : Int) ≤ 2 ^ n := Int.pow_nonneg (by decide)
              exact Int.mul_le_mul ih hq2 (by decide) (Int.le_trans h0 ih)
          have e4 : (((2 : Nat) ^ n : Nat) : Int) = ((2 : Nat) : Int) ^ n := Int.natCast_pow 2 n
          omega
        exact hh _
      refine ⟨_, rfl, _, rfl, _, _, rfl, rfl, (by show q ≠ 0; omega), rfl, _, rfl, ?_⟩
      rw [dp1, Int.fmod_eq_emod_of_nonneg _ (by omega)]
      refine ite2 (fun c => ?_) (fun c => ?_)
      · have c' : x % q = 0 := of_decide_eq_true c
        have dt := div_turn b5.pos hq2 c'
        have hlt : x / q < x := Int.ediv_lt_self_of_pos_of_ne_one b5.pos (by omega)
        have b6 := b5.turn rfl hq2 c'
        have ed : x.fdiv q = x / q := Int.fdiv_eq_ediv_of_nonneg _ (by omega)
        refine ⟨_, fun _ _ z => z, ?_⟩
        refine ⟨_, rfl, _, rfl, _, _, rfl, rfl, ⟨by omega, by omega⟩, ?_⟩
        refine ⟨_, rfl, .inl ⟨rfl, _, SqL.of b2⟩, _, rfl, _, rfl, pw, _, _, _, rfl, rfl, SqL.of b2, at_lst, _, rfl, _, _, rfl, rfl, .inl ⟨by omega, by omega⟩, pw, _, _, rfl, rfl, b2, ?_, ?_⟩
        · rw [List.length_map, List.length_append, List.length_singleton]
          exact Nat.lt_of_lt_of_le (show ini.length + 1 < 1000 by omega) (by decide)
        · refine ⟨_, by rw [ed]; omega, ini ++ [last] ++ [last * q], x.fdiv q, rfl, rfl, ?_, ?_, (upd_ne nlpw).trans b3, (upd_ne ntpw).trans b4, by rw [ed]; exact b6⟩
          · walk_at "sm"
          · rw [map_snoc (ini ++ [last]) (last * q)]; exact upd_same
      · -- every product
        clear c
        refine ⟨Nat.zero_le _, fun ev hev => ?_⟩
        have Hev : H ev = none := b1.free hev
        have nlev : l ≠ ev := ne_of_none b3 hev
        have ntev : t ≠ ev := ne_of_none b4 hev
        have npev : pw ≠ ev := ne_of_none b2 hev
        have hds := a4.short (by omega) hm9
        refine ⟨_, rfl, pw, rfl, ⟨_, SqL.of ((upd_ne npev).trans b2)⟩, for_list (K := K) (a := pw) (xs := (ini ++ [last]).map V.int)
          (fun j σ3 H3 => ∃ (es : List Int) (o6 o7 : Option V), σ3 = [some (.int m), some (.ref l), some (.int x), some (.int q), some (.ref pw), some (.ref ev), o6, o7] ∧ Same H H3 ∧
            H3 ev = some (.lst (es.map V.int)) ∧ H3 pw = some (.lst ((ini ++ [last]).map V.int)) ∧ H3 l = some (.lst (ds.map V.int)) ∧ H3 t = some (.tup [V.int 2, .int 3, .int 5, .int 7, .int 11, .int 13]) ∧
            es.length = j * ds.length ∧ ∀ e ∈ es, ∃ d ∈ ds, ∃ f ∈ (ini ++ [last]), e = d * f) ?_ ?_ ?_ ?_⟩
        · exact ⟨[], _, _, rfl, by walk_at "sm", upd_same, (upd_ne npev).trans b2, (upd_ne nlev).trans b3, (upd_ne ntev).trans b4, by simp, by simp⟩
        · rintro j σ3 H3 _ ⟨es, o6, o7, rfl, g1, g2, g3, g4, g5, g6, g7⟩
          exact SqL.of g3
        · rintro j v σ3 H3 hj ⟨es, o6, o7, rfl, g1, g2, g3, g4, g5, g6, g7⟩
          have hjl : j < ini.length + 1 := by
            have := (List.getElem?_eq_some_iff.mp hj).1
            rw [List.length_map, List.length_append, List.length_singleton] at this
            exact this
          obtain ⟨fv, hfm, rfl⟩ : ∃ fv, fv ∈ (ini ++ [last]) ∧ v = V.int fv := by
            rw [List.getElem?_map] at hj
            cases hx : (ini ++ [last])[j]? with
            | none => rw [hx] at hj; cases hj
            | some z =>
              rw [hx] at hj
              exact ⟨z, List.mem_of_getElem? hx, (Option.some.inj hj).symm⟩
          have hfb := b5.dv fv hfm
          have hf9 : fv ≤ 1000000000 := by
            have h1 := dv_le hfb.2 a4.pos
            have h2 := Int.mul_le_mul_of_nonneg_left (show 1 ≤ x from b5.pos) (show 0 ≤ fv by omega)
            omega
          refine ⟨_, rfl, .inl ⟨rfl, _, SqL.of g2⟩, ?_⟩
          refine ⟨_, rfl, l, rfl, ⟨_, SqL.of g4⟩, fun D hD => lc_list (K := K) (a := l) (xs := ds.map V.int)
            (fun i H4 => ∃ done : List Int, Same H3 H4 ∧ H4 D = some (.lst (done.map V.int)) ∧ done.length = i ∧ ∀ e ∈ done, ∃ d ∈ ds, ∃ f ∈ (ini ++ [last]), e = d * f) ?_ ?_ ?_ ?_⟩
          · exact ⟨[], sm_new hD, upd_same, rfl, by simp⟩
          · rintro i4 H4 _ ⟨done, f1, f2, f3, f4⟩
            exact SqL.of (f1 _ _ g4)
          · rintro i4 v4 H4 hi4 ⟨done, f1, f2, f3, f4⟩
            obtain ⟨dv, hdm, rfl⟩ : ∃ dv, dv ∈ ds ∧ v4 = V.int dv := by
              rw [List.getElem?_map] at hi4
              cases hx : ds[i4]? with
              | none => rw [hx] at hi4; cases hi4
              | some z =>
                rw [hx] at hi4
                exact ⟨z, List.mem_of_getElem? hx, (Option.some.inj hi4).symm⟩
            have hdb := a4.dv dv hdm
            have hd4 : i4 < ds.length := by
              have := (List.getElem?_eq_some_iff.mp hi4).1
              rw [List.length_map] at this
              exact this
            refine ⟨rfl, _, rfl, _, rfl, _, _, rfl, rfl, .inr ⟨by omega, by omega⟩, _, f2, ?_, done ++ [dv * fv], ?_, ?_, ?_, ?_⟩
            · rw [List.length_map]
              exact Nat.lt_of_lt_of_le (show done.length < 1000000 by omega) (by decide)
            · exact sm_own f1 hD
            · rw [map_snoc]; exact upd_same
            · rw [List.length_append, List.length_singleton, f3]
            · intro e he
              rcases List.mem_append.mp he with he | he
              · exact f4 e he
              · have := List.mem_singleton.mp he
                exact ⟨dv, hdm, fv, hfm, this⟩
          · rintro H4 ⟨done, f1, f2, f3, f4⟩
            have f3' : done.length = ds.length := by rw [f3, List.length_map]
            refine ⟨ev, D, _, _, rfl, rfl, f1 _ _ g2, f2, ?_, ?_⟩
            · rw [List.length_map, List.length_map, g6, f3']
              have h1 : j * ds.length + ds.length ≤ 31 * 400000 := by
                have := Nat.mul_le_mul (show j ≤ 30 by omega) hds
                omega
              exact Nat.le_trans h1 (by decide)
            · refine ⟨es ++ done, _, _, rfl, ?_, ?_, ?_, ?_, ?_, ?_, ?_⟩
              · exact sm_own (g1.trans f1) Hev
              · rw [List.map_append]; exact upd_same
              · exact (upd_ne npev).trans (f1 _ _ g3)
              · exact (upd_ne nlev).trans (f1 _ _ g4)
              · exact (upd_ne ntev).trans (f1 _ _ g5)
              · rw [List.length_append, g6, f3', Nat.add_mul, Nat.one_mul]
              · intro e he
                rcases List.mem_append.mp he with he | he
                · exact g7 e he
                · exact f4 e he
        · rintro σ3 H3 ⟨es, o6, o7, rfl, g1, g2, g3, g4, g5, g6, g7⟩
          refine ⟨_, rfl, ?_⟩
          rw [List.length_map] at g6
          exact ⟨ev, es, x, _, _, _, _, _, rfl, g1, g2, g5, a4.step b5 hq2 g6 g7⟩
    · rintro σ' H' ⟨l, ds, x, o1, o2, o3, o4, o5, rfl, a1, a2, a3, a4⟩
      refine ⟨_, rfl, l, ds, rfl, SqL.of a2, ?_⟩
      intro ns q hpm _ hq
      refine k _ q ns (sm_nw a1 hq) (a1.free hq) upd_same ?_ ?_ ?_
      · rw [hpm.length_eq]; exact a4.ne
      · rw [hpm.length_eq]; exact a4.short (by decide) hm9
      · intro d hd
        obtain ⟨c1, c2⟩ := a4.dv d (hpm.mem_iff.mp hd)
        have hdm : d ∣ m := Int.dvd_trans (Int.dvd_mul_right d x) c2
        exact ⟨c1, hdm, dv_le hdm (by omega)⟩
end
end Vg

set_option Elab.async false
set_option linter.all false
set_option maxRecDepth 100000
set_option maxHeartbeats 2000000
namespace Vg
open PySem PySem.Spec PyProof.Rows L2
-- a ≠ b; a place of a heap; what is kept
local macro_rules | `(tactic| walk_at "nq") => `(tactic| with_reducible first
  | assumption
  | (apply Ne.symm; assumption))
local macro_rules | `(tactic| walk_at "hp") => `(tactic| with_reducible first
  | assumption
  | exact upd_same
  | (refine Eq.trans (upd_ne ?_) ?_; (with_reducible walk_at "nq"); (with_reducible walk_at "hp")))
local macro_rules | `(tactic| walk_at "sm") => `(tactic| with_reducible first
  | assumption
  | exact Same.refl _
  | exact But.refl _ _
  | (refine sm_nw ?_ ?_; rotate_left; (with_reducible assumption); walk_at "sm")
  | (refine But.nw ?_ ?_; rotate_left; (with_reducible assumption); walk_at "sm")
  | (refine sm_own ?_ ?_; rotate_left; (with_reducible assumption); walk_at "sm")
  | (refine But.own ?_ ?_; rotate_left; (with_reducible assumption); walk_at "sm")
  | (refine But.wr ?_; walk_at "sm"))

section
variable {P : Program} {w : World} {K : PySem.W.Frag} {mg : Str → Option Value} {base : Heap}
theorem c_unit (D : DefAt K mg "_law_unit" s__law_unit) (T : Txt K mg)
    (c__law_draw : Cal P w K mg base 1 "_law_draw" ["pen", "many"] sp_draw)
    (c__law_pick : Cal P w K mg base 2 "_law_pick" ["pen", "some"] (sp_pick K))
    (c__law_gcd : Cal P w K mg base 1 "_law_gcd" ["one", "other"] sp_lgcd)
    (c__law_divisors : Cal P w K mg base 1 "_law_divisors" ["m"] sp_divisors) :
    Cal P w K mg base 3 "_law_unit" ["pen", "m"] sp_unit := by
  refine cal_mk D sc__law_unit (fun _ _ _ _ _ _ _ us hl => match us, hl with | [_, _], _ => rfl)
    (fun vs H Q E h => ?_) (fun f cdv A outer s H vs Q hgu hr h => ?_)
  · obtain ⟨p, L, n, m, rfl, _⟩ := h; rfl
  · obtain ⟨p, L, n, m, rfl, hp, hn, hm2, hm9, k⟩ := h
    refine ⟨_,
      (pss_cons (ps_set (i := 2) sc__law_unit.nd rfl (Or.inl rfl) (pe_cal c__law_pick hgu (hr.mono (by decide)) (pa_cons (pv 0) (pa_cons (pe_cal c__law_divisors hgu (hr.mono (by decide)) (pa_cons (pv 1) pa_nil)) pa_nil))))
      (pss_cons (ps_set (i := 3) sc__law_unit.nd rfl (Or.inl rfl) (pe_op op_mul (pv 2) (pe_cal c__law_draw hgu (hr.mono (by decide)) (pa_cons (pv 0) (pa_cons (pv 1) pa_nil)))))
      (pss_cons (ps_set (i := 4) sc__law_unit.nd rfl (Or.inl rfl) (pe_op op_modN (pe_cal c__law_pick hgu (hr.mono (by decide)) (pa_cons (pv 0) (pa_cons (pe_lst (pa_cons pe_int (pa_cons (pe_op op_sub (pv 1) pe_int) (pa_cons (pe_op op_add pe_int (pv 3)) (pa_cons (pe_op op_add (pe_op op_sub (pv 1) pe_int) (pv 3)) (pa_cons (pe_cal c__law_draw hgu (hr.mono (by decide)) (pa_cons (pv 0) (pa_cons (pv 1) pa_nil))) pa_nil)))))) pa_nil))) (pv 1)))
      (pss_cons (ps_while PassesOwn.never (pt_cmpR op_ne (pe_cal c__law_gcd hgu (hr.mono (by decide)) (pa_cons (pv 4) (pa_cons (pv 1) pa_nil))) pe_int (nomark _))
        (pss_one (ps_set (i := 4) sc__law_unit.nd rfl (Or.inl rfl) (pe_op op_modN (pe_op op_add (pv 4) pe_int) (pv 1)))))
      (pss_one (ps_ret (pv 4)))))))
      , ?_⟩
    refine ⟨_, rfl, _, rfl, m, rfl, by omega, hm9, ?_⟩
    intro H1 l ds s1 l0 g1 e1 e2 e3
    have pn1 := hp.same s1
    refine ⟨p, L, l, n, _, rfl, pn1, by omega, .inl (SqL.of g1), hp.ne_n l0, by rw [List.length_map]; exact e1, by rw [List.length_map]; omega, ?_⟩
    intro H2 v b2 pn2 hv
    obtain ⟨d, hd, rfl⟩ := List.mem_map.mp hv
    obtain ⟨d1, d2, d3⟩ := e3 d hd
    refine ⟨_, rfl, _, rfl, _, rfl, p, L, _, m, rfl, pn2, by omega, by omega, log_lt (by omega) (by omega), ?_⟩
    intro H3 r b3 pn3 r0 r1
    refine ⟨_, _, rfl, rfl, .inl ⟨by omega, by omega⟩, ?_⟩
    refine ⟨_, rfl, _, rfl, _, _, rfl, rfl, _, rfl, _, _, rfl, rfl, _, rfl, _, _, rfl, rfl, _, rfl, _, _, rfl, rfl, _, rfl, _, rfl, p, L, _, m, rfl, pn3, by omega, by omega, log_lt (by omega) (by omega), ?_⟩
    intro H4 r' b4 pn4 q0 q1
    refine ⟨(by show 5 ≤ sizeLine; decide), fun u hu => ?_⟩
    refine ⟨p, L, u, _, _, rfl, pn4.new hu, by omega, .inl (SqL.of upd_same), pn4.ne_n hu, by show 0 < 5; decide, by show 5 ≤ 1000000; decide, ?_⟩
    intro H5 v5 b5 pn5 hv5
    have hb : But p H H5 := ((((But.of s1).trans b2).trans b3).trans b4).trans ((But.new hu).trans b5)
    obtain ⟨z, rfl⟩ : ∃ z, v5 = V.int z := pick5v hv5 (fun e => ⟨_, e⟩) (fun e => ⟨_, e⟩) (fun e => ⟨_, e⟩) (fun e => ⟨_, e⟩) (fun e => ⟨_, e⟩)
    refine ⟨_, rfl, _, _, rfl, rfl, (by show m ≠ 0; omega), ?_⟩
    have zb := fmod_b (a := z) (b := m) (by omega)
    refine ⟨fun j σ' H' => ∃ x : Int, σ' = [some (.ref p), some (.int m), some (.int d), some (.int (d * r)), some (.int x)] ∧ j = far m x ∧ H' = H5 ∧ 0 ≤ x ∧ x < m,
      ⟨_, z.fmod m, rfl, rfl, rfl, zb.1, zb.2⟩, ?_⟩
    rintro j σ' H' ⟨x, rfl, rfl, rfl, x0, x1⟩
    refine ⟨_, rfl, _, rfl, x, m, rfl, x0, by omega, rfl, _, rfl, ?_⟩
    rw [dp1]
    by_cases c : gcdI x m = 1
    · rw [decide_eq_true c]
      exact iteF ⟨_, rfl, k _ _ hb pn5 ⟨x0, x1, c⟩⟩
    · rw [decide_eq_false c]
      have hx : x ≠ 1 := fun e => c (by rw [e]; exact gcd_one (by omega))
      have ft := far_turn hm2 x0 x1 hx
      refine iteT ⟨_, fun _ _ z => z, ?_⟩
      refine ⟨_, rfl, _, _, rfl, rfl, _, rfl, _, _, rfl, rfl, (by show m ≠ 0; omega), ?_⟩
      exact ⟨_, ft.1, _, rfl, rfl, rfl, ft.2.1, ft.2.2⟩
theorem c_lmap (D : DefAt K mg "_law_map" s__law_map) (T : Txt K mg)
    (c__law_draw : Cal P w K mg base 1 "_law_draw" ["pen", "many"] sp_draw)
    (c__law_pick : Cal P w K mg base 2 "_law_pick" ["pen", "some"] (sp_pick K))
    (c__law_unit : Cal P w K mg base 3 "_law_unit" ["pen", "m"] sp_unit)
    (c__law_divisors : Cal P w K mg base 1 "_law_divisors" ["m"] sp_divisors) :
    Cal P w K mg base 4 "_law_map" ["pen", "m"] sp_lmap := by
  refine cal_mk D sc__law_map (fun _ _ _ _ _ _ _ us hl => match us, hl with | [_, _], _ => rfl)
    (fun vs H Q E h => ?_) (fun f cdv A outer s H vs Q hgu hr h => ?_)
  · obtain ⟨p, L, n, m, rfl, _⟩ := h; rfl
  · obtain ⟨p, L, n, m, rfl, hp, hn, hm2, hm9, k⟩ := h
    refine ⟨_,
      (pss_cons (ps_set (i := 2) sc__law_map.nd rfl (Or.inl rfl) (pe_cal c__law_pick hgu (hr.mono (by decide)) (pa_cons (pv 0) (pa_cons (pe_cal c__law_divisors hgu (hr.mono (by decide)) (pa_cons (pv 1) pa_nil)) pa_nil))))
      (pss_one (ps_ret (pe_tup (pa_cons (pe_cal c__law_unit hgu (hr.mono (by decide)) (pa_cons (pv 0) (pa_cons (pv 1) pa_nil))) (pa_cons (pe_op op_modN (pe_op op_mul (pv 2) (pe_cal c__law_draw hgu (hr.mono (by decide)) (pa_cons (pv 0) (pa_cons (pv 1) pa_nil)))) (pv 1)) pa_nil))))))
      , ?_⟩
    refine ⟨_, rfl, _, rfl, m, rfl, by omega, hm9, ?_⟩
    intro H1 l ds s1 l0 g1 e1 e2 e3
    have pn1 := hp.same s1
    refine ⟨p, L, l, n, _, rfl, pn1, by omega, .inl (SqL.of g1), hp.ne_n l0, by rw [List.length_map]; exact e1, by rw [List.length_map]; omega, ?_⟩
    intro H2 v b2 pn2 hv
    obtain ⟨d, hd, rfl⟩ := List.mem_map.mp hv
    obtain ⟨d1, d2, d3⟩ := e3 d hd
    refine ⟨_, rfl, _, rfl, p, L, _, m, rfl, pn2, by omega, hm2, hm9, ?_⟩
    intro H3 u b3 pn3 hu
    refine ⟨_, rfl, _, rfl, _, rfl, p, L, _, m, rfl, pn3, by omega, by omega, log_lt (by omega) (by omega), ?_⟩
    intro H4 r b4 pn4 r0 r1
    refine ⟨_, _, rfl, rfl, .inl ⟨by omega, by omega⟩, _, rfl, _, _, rfl, rfl, (by show m ≠ 0; omega), (by show 2 ≤ sizeLine; decide), fun t ht => ?_⟩
    have zb := fmod_b (a := d * r) (b := m) (by omega)
    have hb : But p H H4 := (((But.of s1).trans b2).trans b3).trans b4
    exact k _ t u _ (hb.nw ht) ((pn4.new ht).mono (by omega)) hu zb.1 zb.2 (hb.free (pn4.ne_n ht) ht) upd_same
end
end Vg

set_option Elab.async false
set_option linter.all false
set_option maxRecDepth 100000
set_option maxHeartbeats 2000000
namespace Vg
open PySem PySem.Spec PyProof.Rows L2
-- a ≠ b; a place of a heap; what is kept
local macro_rules | `(tactic| walk_at "nq") => `(tactic| with_reducible first
  | assumption
  | (apply Ne.symm; assumption))
local macro_rules | `(tactic| walk_at "hp") => `(tactic| with_reducible first
  | assumption
  | exact upd_same
  | (refine Eq.trans (upd_ne ?_) ?_; (with_reducible walk_at "nq"); (with_reducible walk_at "hp")))
local macro_rules | `(tactic| walk_at "sm") => `(tactic| with_reducible first
  | assumption
  | exact Same.refl _
  | exact But.refl _ _
  | (refine sm_nw ?_ ?_; rotate_left; (with_reducible assumption); walk_at "sm")
  | (refine But.nw ?_ ?_; rotate_left; (with_reducible assumption); walk_at "sm")
  | (refine sm_own ?_ ?_; rotate_left; (with_reducible assumption); walk_at "sm")
  | (refine But.own ?_ ?_; rotate_left; (with_reducible assumption); walk_at "sm")
  | (refine But.wr ?_; walk_at "sm"))

section
variable {P : Program} {w : World} {K : PySem.W.Frag} {mg : Str → Option Value} {base : Heap}
theorem c_whole (D : DefAt K mg "is_whole" s_is_whole) (T : Txt K mg) :
    Cal P w K mg base 1 "is_whole" ["value"] (sp_whole K) := by
  refine cal_mk D sc_is_whole (fun _ _ _ _ _ _ _ us hl => match us, hl with | [_], _ => rfl)
    (fun vs H Q E h => ?_) (fun f cdv A outer s H vs Q hgu hr h => ?_)
  · obtain ⟨x, rfl, _⟩ := h; rfl
  · obtain ⟨x, rfl, ⟨t, bi, bb, ty, ki, kb, e⟩, k⟩ := h
    refine ⟨_,
      (pss_one (ps_ret (pe_and (pe_callB call_isi (by rfl) T.f_isinstance (by decide +kernel) (pa_cons (pv 0) (pa_cons (pe_ty (n := "int") (by rfl) T.f_int (by decide +kernel)) pa_nil))) (pe_one (pe_not (pe_callB call_isi (by rfl) T.f_isinstance (by decide +kernel) (pa_cons (pv 0) (pa_cons (pe_ty (n := "bool") (by rfl) T.f_bool (by decide +kernel)) pa_nil))))))))
      , ?_⟩
    refine ⟨_, rfl, x, _, t, _, bi, rfl, .ty "int", ty, ki, _, rfl, ?_⟩
    rw [← e] at k
    cases bi with
    | false => exact iteF k
    | true =>
      refine iteT ⟨_, rfl, x, _, t, _, bb, rfl, .ty "bool", ty, kb, _, rfl, ?_⟩
      exact k
theorem c_between (D : DefAt K mg "is_between" s_is_between) (T : Txt K mg)
    (c_is_whole : Cal P w K mg base 1 "is_whole" ["value"] (sp_whole K)) :
    Cal P w K mg base 2 "is_between" ["value", "low", "high"] (sp_between K) := by
  refine cal_mk D sc_is_between (fun _ _ _ _ _ _ _ us hl => match us, hl with | [_, _, _], _ => rfl)
    (fun vs H Q E h => ?_) (fun f cdv A outer s H vs Q hgu hr h => ?_)
  · obtain ⟨x, lo, hi, rfl, _⟩ := h; rfl
  · obtain ⟨x, lo, hi, rfl, kd, k⟩ := h
    refine ⟨_,
      (pss_one (ps_ret (pe_and (pe_cal c_is_whole hgu (hr.mono (by decide)) (pa_cons (pv 0) pa_nil)) (pe_one (pe_chain op_le op_le (pv 1) (pv 0) (pv 2))))))
      , ?_⟩
    refine ⟨_, rfl, x, rfl, kd, _, rfl, ?_⟩
    cases x with
    | int n =>
      refine iteT ⟨_, rfl, _, rfl, _, _, rfl, rfl, _, rfl, ite2 (fun c => ?_) (fun c => ?_)⟩
      · refine ⟨_, rfl, _, _, rfl, rfl, ?_⟩
        have e : betw (.int n) lo hi = decide (n ≤ hi) := by
          show (decide (lo ≤ n) && decide (n ≤ hi)) = _
          rw [c]; rfl
        rw [e] at k
        exact k
      · have e : betw (.int n) lo hi = false := by
          show (decide (lo ≤ n) && decide (n ≤ hi)) = _
          rw [Bool.eq_false_iff.mpr c]; rfl
        rw [e] at k
        exact k
    | _ => exact iteF k
end
end Vg

set_option Elab.async false
set_option linter.all false
set_option maxRecDepth 100000
set_option maxHeartbeats 2000000
namespace Vg
open PySem PySem.Spec PyProof.Rows L2
-- a ≠ b; a place of a heap; what is kept
local macro_rules | `(tactic| walk_at "nq") => `(tactic| with_reducible first
  | assumption
  | (apply Ne.symm; assumption))
local macro_rules | `(tactic| walk_at "hp") => `(tactic| with_reducible first
  | assumption
  | exact upd_same
  | (refine Eq.trans (upd_ne ?_) ?_; (with_reducible walk_at "nq"); (with_reducible walk_at "hp")))
local macro_rules | `(tactic| walk_at "sm") => `(tactic| with_reducible first
  | assumption
  | exact Same.refl _
  | exact But.refl _ _
  | (refine sm_nw ?_ ?_; rotate_left; (with_reducible assumption); walk_at "sm")
  | (refine But.nw ?_ ?_; rotate_left; (with_reducible assumption); walk_at "sm")
  | (refine sm_own ?_ ?_; rotate_left; (with_reducible assumption); walk_at "sm")
  | (refine But.own ?_ ?_; rotate_left; (with_reducible assumption); walk_at "sm")
  | (refine But.wr ?_; walk_at "sm"))

section
variable {P : Program} {w : World} {K : PySem.W.Frag} {mg : Str → Option Value} {base : Heap}
theorem c_ismap (D : DefAt K mg "is_map" s_is_map) (T : Txt K mg)
    (c_is_between : Cal P w K mg base 2 "is_between" ["value", "low", "high"] (sp_between K)) :
    Cal P w K mg base 3 "is_map" ["m", "value"] (sp_ismap K) := by
  refine cal_mk D sc_is_map (fun _ _ _ _ _ _ _ us hl => match us, hl with | [_, _], _ => rfl)
    (fun vs H Q E h => ?_) (fun f cdv A outer s H vs Q hgu hr h => ?_)
  · obtain ⟨m, v, b, rfl, _⟩ := h; rfl
  · obtain ⟨m, v, b, rfl, hm2, hm9, hv, k⟩ := h
    refine ⟨_,
      (pss_cons (ps_if (PW.pt (pw_or (pt_not (pt_val (pe_callB call_isi (by rfl) T.f_isinstance (by decide +kernel) (pa_cons (pv 1) (pa_cons (pe_ty (n := "tuple") (by rfl) T.f_tuple (by decide +kernel)) pa_nil))))) (pw_or1 (pt_cmpR op_ne (pe_callB call_len_seq (by rfl) T.f_len (by decide +kernel) (pa_cons (pv 1) pa_nil)) pe_int (nomark _))))) (pss_one (ps_ret pe_bl)) pss_nil)
      (pss_cons (ps_asg (pv 1) (pg_tup rfl (pgs_cons (pg_name (i := 2) sc_is_map.nd rfl (Or.inl rfl)) (pgs_cons (pg_name (i := 3) sc_is_map.nd rfl (Or.inl rfl)) pgs_nil))))
      (pss_one (ps_ret (pe_and (pe_cal c_is_between hgu (hr.mono (by decide)) (pa_cons (pv 2) (pa_cons pe_int (pa_cons (pe_op op_sub (pv 0) pe_int) pa_nil)))) (pe_and (pe_cal c_is_between hgu (hr.mono (by decide)) (pa_cons (pv 3) (pa_cons pe_int (pa_cons (pe_op op_sub (pv 0) pe_int) pa_nil)))) (pe_one (pe_cmpR op_eq (pe_callBfun cr_gcd (by rfl) T.h_gcd (pa_cons (pv 2) (pa_cons (pv 0) pa_nil))) pe_int (nomark _)))))))))
      , ?_⟩
    cases hv with
    | no ty kt =>
      refine ⟨_, rfl, v, _, _, _, false, rfl, .ty "tuple", ty, kt, _, rfl, ?_⟩
      exact iteT (iteT (k H (Same.refl _)))
    | len h n =>
      refine ⟨_, rfl, _, _, _, _, true, rfl, .ty "tuple", .base (.tup h), kit_ty (by decide +kernel), _, rfl, ?_⟩
      refine iteF ⟨_, rfl, _, _, rfl, .inr (SqT.of h), rfl, _, rfl, ?_⟩
      rw [dp1, decide_eq_false (by omega)]
      exact iteT (k H (Same.refl _))
    | two h kx ky =>
      rename_i a x y
      refine ⟨_, rfl, _, _, _, _, true, rfl, .ty "tuple", .base (.tup h), kit_ty (by decide +kernel), _, rfl, ?_⟩
      refine iteF ⟨_, rfl, _, _, rfl, .inr (SqT.of h), rfl, _, rfl, ?_⟩
      rw [dp1, decide_eq_true (show (([x, y].length : Nat) : Int) = 2 from rfl)]
      refine iteF ⟨_, rfl, a, _, rfl, SqT.of h, rfl, _, _, rfl, _, _, rfl, rfl, ?_⟩
      refine ⟨_, rfl, _, rfl, _, _, rfl, rfl, x, 0, m - 1, rfl, kx, _, rfl, ?_⟩
      have k0 := k H (Same.refl _)
      cases hx : betw x 0 (m - 1) with
      | false =>
        refine iteF ?_
        have e : mapXY m x y = false := by
          cases x with
          | int a =>
            cases y with
            | int b =>
              have z : (decide (0 ≤ a) && decide (a ≤ m - 1)) = false := hx
              show ((decide (0 ≤ a) && decide (a ≤ m - 1)) && _) = false
              rw [z]; rfl
            | _ => rfl
          | _ => rfl
        rw [e] at k0
        exact k0
      | true =>
        refine iteT ⟨_, rfl, _, rfl, _, _, rfl, rfl, y, 0, m - 1, rfl, ky, _, rfl, ?_⟩
        cases hy : betw y 0 (m - 1) with
        | false =>
          refine iteF ?_
          have e : mapXY m x y = false := by
            cases x with
            | int a =>
              cases y with
              | int b =>
                have z : (decide (0 ≤ b) && decide (b ≤ m - 1)) = false := hy
                show (_ && ((decide (0 ≤ b) && decide (b ≤ m - 1)) && _)) = false
                rw [z, Bool.false_and, Bool.and_false]
              | _ => rfl
            | _ => rfl
          rw [e] at k0
          exact k0
        | true =>
          cases x with
          | int a =>
            cases y with
            | int b =>
              refine iteT ⟨_, rfl, _, rfl, _, _, rfl, rfl, ?_⟩
              have z1 : (decide (0 ≤ a) && decide (a ≤ m - 1)) = true := hx
              have z2 : (decide (0 ≤ b) && decide (b ≤ m - 1)) = true := hy
              have e : mapXY m (.int a) (.int b) = decide (gcdI a m = 1) := by
                show ((decide (0 ≤ a) && decide (a ≤ m - 1)) && ((decide (0 ≤ b) && decide (b ≤ m - 1)) && decide (gcdI a m = 1))) = _
                rw [z1, z2]; rfl
              rw [e, ← dp1] at k0
              have ez : ((Nat.gcd a.natAbs m.natAbs : Nat) : Int) = gcdI a m := by
                have za := of_decide_eq_true (Bool.and_eq_true_iff.mp z1).1
                unfold gcdI
                rw [show a.natAbs = a.toNat by omega, show m.natAbs = m.toNat by omega]
              rw [← ez] at k0
              exact k0
            | _ => cases hy
          | _ => cases hx
end
end Vg

set_option Elab.async false
set_option linter.all false
set_option maxRecDepth 100000
set_option maxHeartbeats 2000000
namespace Vg
open PySem PySem.Spec PyProof.Rows L2 TL PySem.NumText
-- a ≠ b; a place of a heap; what is kept
local macro_rules | `(tactic| walk_at "nq") => `(tactic| with_reducible first
  | assumption
  | (apply Ne.symm; assumption))
local macro_rules | `(tactic| walk_at "hp") => `(tactic| with_reducible first
  | assumption
  | exact upd_same
  | (refine Eq.trans (upd_ne ?_) ?_; (with_reducible walk_at "nq"); (with_reducible walk_at "hp")))
local macro_rules | `(tactic| walk_at "sm") => `(tactic| with_reducible first
  | assumption
  | exact Same.refl _
  | exact But.refl _ _
  | (refine sm_nw ?_ ?_; rotate_left; (with_reducible assumption); walk_at "sm")
  | (refine But.nw ?_ ?_; rotate_left; (with_reducible assumption); walk_at "sm")
  | (refine sm_own ?_ ?_; rotate_left; (with_reducible assumption); walk_at "sm")
  | (refine But.own ?_ ?_; rotate_left; (with_reducible assumption); walk_at "sm")
  | (refine But.wr ?_; walk_at "sm"))

/-- the number of a word, up to top -/
def rdn (w : Str) (top : Nat) : V := match numW (tl w) with
  | some n => if n ≤ top then .int n else .non
  | none => .non
def dgs : List Nat := tl (Str.ofString "0123456789")
theorem dgs_iff {c : Nat} : c ∈ dgs ↔ 48 ≤ c ∧ c ≤ 57 := by
  have e : dgs = [48, 49, 50, 51, 52, 53, 54, 55, 56, 57] := by unfold dgs; rw [tl_ofString]; decide
  rw [e]
  simp only [List.mem_cons, List.mem_nil_iff, or_false]
  omega
theorem sw_iff {w : Str} : Txt.startswith w (Str.ofString "0") = true ↔ ∃ r, tl w = 48 :: r := by
  have e : tl (Str.ofString "0") = [48] := by rw [tl_ofString]; decide
  have h : Txt.startswith w (Str.ofString "0") = true ↔ PySem.StrLaws.At w (Str.ofString "0") w.length 0 := by
    unfold Txt.startswith PySem.StrLaws.At
    rw [Bool.and_eq_true, decide_eq_true_iff]
  rw [h, at_iff (by rw [e]; decide), e, List.drop_zero]
  unfold pre
  constructor
  · intro q
    have q' := eq_of_beq q
    cases l : tl w with
    | nil => rw [l] at q'; cases q'
    | cons c r =>
      rw [l] at q'
      injection q' with q1 _
      exact ⟨r, by rw [q1]⟩
  · rintro ⟨r, hr⟩
    rw [hr]
    rfl
def sp_rdn : Sp := fun vs H Q _ => ∃ (w : Str) (top : Nat), vs = [.str w, .int top] ∧ w.length ≤ 1000 ∧ top ≤ 1000000000 ∧ ∀ H', Same H H' → Q (rdn w top) H'
section
variable {P : Program} {w : World} {K : PySem.W.Frag} {mg : Str → Option Value} {base : Heap}
theorem c_rdn (D : DefAt K mg "read_number" s_read_number) (T : Txt K mg) :
    Cal P w K mg base 1 "read_number" ["word", "top"] sp_rdn := by
  refine cal_mk D sc_read_number (fun _ _ _ _ _ _ _ us hl => match us, hl with | [_, _], _ => rfl)
    (fun vs H Q E h => ?_) (fun f cdv A outer s H vs Q hgu hr h => ?_)
  · obtain ⟨w, top, rfl, _⟩ := h; rfl
  · obtain ⟨w, top, rfl, hw, ht, k⟩ := h
    refine ⟨_,
      (pss_cons (ps_if (pt_not (pt_chain op_le op_le pe_int (pe_callB call_len_str (by rfl) T.f_len (by decide +kernel) (pa_cons (pv 0) pa_nil)) (pe_callB call_len_str (by rfl) T.f_len (by decide +kernel) (pa_cons (pe_callTy call_str_int (by rfl) T.f_str (by decide +kernel) (pa_cons (pv 1) pa_nil)) pa_nil)))) (pss_one (ps_ret pe_non)) pss_nil)
      (pss_cons (ps_if (pt_not (pt_val (pe_callB (cr_all rfl) (by rfl) T.f_all (by decide +kernel) (pa_cons (pe_lc (own := [("digit", 2)]) (g := gName 2) (by rfl) sc_read_number.nd (pi_str (pv 0)) (blkOk_by (own := [("digit", 2)]) (N := ["word", "top", "digit", "number"]) (sc := defScope s_read_number) (by decide +kernel)) (fun _ _ _ _ _ => pg_name (i := 2) sc_read_number.nd rfl (Or.inl rfl)) (fun _ _ _ _ _ => pts_nil) (fun _ _ _ _ _ => (pe_cmpR op_in_sign (pv 2) (pe_globS rfl T.g_DIGITS) rfl))) pa_nil)))) (pss_one (ps_ret pe_non)) pss_nil)
      (pss_cons (ps_if (PW.pt (pw_and (pt_val (pe_bm PySem.F.plainAttrs_str PySem.F.slot_str_startswith PySem.F.type_str_startswith mt_startswith (pv 0) (pa_cons pe_str pa_nil))) (pw_and1 (pt_cmpR op_ne (pv 0) pe_str (nomark _))))) (pss_one (ps_ret pe_non)) pss_nil)
      (pss_cons (ps_set (i := 3) sc_read_number.nd rfl (Or.inl rfl) (pe_callTy call_int_str (by rfl) T.f_int (by decide +kernel) (pa_cons (pv 0) pa_nil)))
      (pss_one (ps_ret (pe_ifExp (pt_cmpR op_le (pv 3) (pv 1) (nomark _)) (pv 3) pe_non)))))))
      , ?_⟩
    have hz : w.length ≤ sizeLine := Nat.le_trans hw (by decide)
    have hlt : (Str.ofString (toString (top : Int))).length = (numL top).length := by rw [len_tl, tl_num]
    have htop : (numL top).length ≤ 10 := numL_len (by decide) (by omega)
    refine ⟨_, rfl, w, rfl, hz, _, _, rfl, rfl, _, rfl, ite2 (fun c1 => ?_) (fun c1 => ?_)⟩
    · have hlog : ((top : Nat) : Int).natAbs.log2 < 1920 := by
        have h64 : ((top : Nat) : Int).natAbs < 2 ^ 64 := by
          have : (2 : Nat) ^ 64 = 18446744073709551616 := by decide
          omega
        exact Nat.lt_of_lt_of_le (PySem.Flt.log2_lt_of (by decide) h64) (by decide)
      refine ⟨_, rfl, _, rfl, hlog, _, rfl, (by rw [hlt]; exact Nat.le_trans htop (by decide)), _, _, rfl, rfl, _, rfl, ?_⟩
      by_cases c2 : ((w.length : Nat) : Int) ≤ (((Str.ofString (toString (top : Int))).length : Nat) : Int)
      · rw [decide_eq_true c2]
        refine iteF ?_
        refine ⟨_, rfl, w, rfl, fun D hD => lc_it walk_str
          (fun i H' => Same H H' ∧ H' D = some (.lst (((tl w).take i).map fun c => V.bl (decide (c ∈ dgs))))) ?_ (fun _ _ _ _ => trivial) ?_ ?_⟩
        · exact ⟨sm_new hD, upd_same⟩
        · rintro i x H1 H2 hi ⟨p1, p2⟩ ⟨rfl, c, hc, rfl⟩
          have hi2 : i < (tl w).length := by rw [← len_tl]; exact hi
          have hci : (tl w)[i]? = some c := by
            show w.cps.toList[i]? = some c
            rw [Array.getElem?_toList]
            exact hc
          refine ⟨rfl, _, rfl, c, _, rfl, rfl, _, p2, ?_, ?_, ?_⟩
          · rw [List.length_map, List.length_take]
            have := len_tl w
            exact Nat.lt_of_le_of_lt (show min i (tl w).length ≤ 1000 by omega) (by decide)
          · exact sm_own p1 hD
          · rw [upd_same, List.take_succ, hci, List.map_append]
            rfl
        · rintro H1 ⟨p1, p2⟩
          have e : (tl w).take w.cps.size = tl w := List.take_of_length_le (by simp [tl])
          rw [e] at p2
          refine ⟨D, (tl w).map (fun c => decide (c ∈ dgs)), rfl, SqL.of (by rw [p2, List.map_map]; rfl), ?_⟩
          have none_ : rdn w top = .non → Q .non H1 := fun e => by
            have k0 := k H1 p1
            rw [e] at k0
            exact k0
          refine ⟨_, rfl, ?_⟩
          by_cases hd : AllDigits (tl w)
          · have ea : ((tl w).map (fun c => decide (c ∈ dgs))).all id = true := by
              rw [List.all_map, List.all_eq_true]
              exact fun c hc => decide_eq_true (dgs_iff.mpr (hd c hc))
            rw [ea]
            refine iteF ?_
            refine ⟨_, rfl, rfl, w, _, rfl, rfl, _, rfl, ?_⟩
            have canon : (∀ r, tl w = 48 :: r → r = []) → numW (tl w) = some (digitsVal (tl w)) := fun hr => by
              refine numW_canon hd ?_
              cases e : tl w with
              | nil =>
                have := len_tl w
                have c1' : (1 : Int) ≤ ((w.length : Nat) : Int) := of_decide_eq_true c1
                rw [e] at this
                simp only [List.length_nil] at this
                omega
              | cons c r =>
                by_cases h48 : c = 48
                · subst h48
                  rw [hr r e]
                  exact .inl rfl
                · have := hd c (by rw [e]; exact List.mem_cons_self)
                  exact .inr ⟨c, r, rfl, by omega⟩
            have w640 : w.length ≤ 640 := by rw [hlt] at c2; omega
            -- the number
            have num : numW (tl w) = some (digitsVal (tl w)) → ∃ v n, V.str w = .str v ∧ PySem.intText? v = some n ∧ v.length ≤ 640 ∧
                Q (if decide (n ≤ (top : Int)) = true then .int n else .non) H1 := fun hn => by
              refine ⟨w, _, rfl, intText_digits hd ?_ (by omega), w640, ?_⟩
              · intro z
                rw [show tl w = [] from z, numW_nil] at hn
                cases hn
              · have k0 := k H1 p1
                unfold rdn at k0
                rw [hn] at k0
                have k1 : Q (if digitsVal (tl w) ≤ top then V.int (digitsVal (tl w) : Nat) else V.non) H1 := k0
                by_cases c3 : digitsVal (tl w) ≤ top
                · rw [decide_eq_true (show ((digitsVal w.cps.toList : Nat) : Int) ≤ (top : Int) by exact_mod_cast c3), if_pos rfl]
                  rw [if_pos c3] at k1
                  exact k1
                · rw [decide_eq_false (show ¬ ((digitsVal w.cps.toList : Nat) : Int) ≤ (top : Int) from fun z => c3 (by exact_mod_cast z)), if_neg Bool.false_ne_true]
                  rw [if_neg c3] at k1
                  exact k1
            by_cases c4 : Txt.startswith w (Str.ofString "0") = true
            · rw [c4]
              refine iteT ⟨_, rfl, rfl, _, rfl, ?_⟩
              obtain ⟨r, hr⟩ := sw_iff.mp c4
              by_cases c5 : w = Str.ofString "0"
              · rw [decide_eq_true (show V.str w = V.str (Str.ofString "0") by rw [c5])]
                obtain ⟨v, n, e1, e2, e3, e4⟩ := num (canon fun r' hr' => by
                  rw [c5, tl_ofString] at hr'
                  have z : [48] = 48 :: r' := hr'
                  injection z with _ z2
                  exact z2.symm)
                cases e1
                refine iteF ⟨_, rfl, w, n, rfl, e2, e3, ?_⟩
                refine ⟨_, rfl, _, rfl, _, _, rfl, rfl, _, rfl, ?_⟩
                cases c6 : decide (n ≤ (top : Int)) with
                | true =>
                  rw [c6, if_pos rfl] at e4
                  exact iteT ⟨_, rfl, e4⟩
                | false =>
                  rw [c6, if_neg Bool.false_ne_true] at e4
                  exact iteF e4
              · rw [decide_eq_false (show ¬ V.str w = V.str (Str.ofString "0") from fun z => c5 (V.str.inj z))]
                refine iteT (none_ ?_)
                unfold rdn
                cases r with
                | nil => exact absurd (ext_tl (by rw [hr, tl_ofString]; rfl)) c5
                | cons c r => rw [hr, numW_zero]
            · rw [Bool.eq_false_iff.mpr c4]
              obtain ⟨v, n, e1, e2, e3, e4⟩ := num (canon fun r hr => absurd (sw_iff.mpr ⟨r, hr⟩) c4)
              cases e1
              refine iteF ?_
              refine iteF ⟨_, rfl, w, n, rfl, e2, e3, ?_⟩
              refine ⟨_, rfl, _, rfl, _, _, rfl, rfl, _, rfl, ?_⟩
              cases c6 : decide (n ≤ (top : Int)) with
              | true =>
                rw [c6, if_pos rfl] at e4
                exact iteT ⟨_, rfl, e4⟩
              | false =>
                rw [c6, if_neg Bool.false_ne_true] at e4
                exact iteF e4
          · have ea : ((tl w).map (fun c => decide (c ∈ dgs))).all id = false := by
              refine Bool.eq_false_iff.mpr fun q => hd fun c hc => ?_
              rw [List.all_map, List.all_eq_true] at q
              exact dgs_iff.mp (of_decide_eq_true (q c hc))
            rw [ea]
            refine iteT (none_ ?_)
            unfold rdn
            rw [numW_nodig hd]
      · rw [decide_eq_false c2]
        refine iteT ?_
        have e : rdn w top = .non := by
          unfold rdn
          cases q : numW (tl w) with
          | none => rfl
          | some n =>
            have l := numW_long (top := top) q (by rw [← len_tl, ← hlt]; omega)
            show (if n ≤ top then V.int n else V.non) = V.non
            rw [if_neg (by omega)]
        have k0 := k H (Same.refl _)
        rw [e] at k0
        exact k0
    · refine ⟨_, rfl, iteT ?_⟩
      have c1' : ¬ (1 : Int) ≤ ((w.length : Nat) : Int) := fun z => c1 (decide_eq_true z)
      have e : rdn w top = .non := by
        unfold rdn
        have hn : tl w = [] := by
          have := len_tl w
          exact List.length_eq_zero_iff.mp (by omega)
        rw [hn, numW_nil]
      have k0 := k H (Same.refl _)
      rw [e] at k0
      exact k0
end
end Vg

set_option Elab.async false
set_option linter.all false
set_option maxRecDepth 100000
set_option maxHeartbeats 2000000
namespace Vg
open PySem PySem.Spec PyProof.Rows L2 TL PySem.NumText
-- a ≠ b; a place of a heap; what is kept
local macro_rules | `(tactic| walk_at "nq") => `(tactic| with_reducible first
  | assumption
  | (apply Ne.symm; assumption))
local macro_rules | `(tactic| walk_at "hp") => `(tactic| with_reducible first
  | assumption
  | exact upd_same
  | (refine Eq.trans (upd_ne ?_) ?_; (with_reducible walk_at "nq"); (with_reducible walk_at "hp")))
local macro_rules | `(tactic| walk_at "sm") => `(tactic| with_reducible first
  | assumption
  | exact Same.refl _
  | exact But.refl _ _
  | (refine sm_nw ?_ ?_; rotate_left; (with_reducible assumption); walk_at "sm")
  | (refine But.nw ?_ ?_; rotate_left; (with_reducible assumption); walk_at "sm")
  | (refine sm_own ?_ ?_; rotate_left; (with_reducible assumption); walk_at "sm")
  | (refine But.own ?_ ?_; rotate_left; (with_reducible assumption); walk_at "sm")
  | (refine But.wr ?_; walk_at "sm"))

theorem log_nat {a : Nat} (h : a ≤ 1000000000) : ((a : Nat) : Int).natAbs.log2 < 1920 := by
  have h64 : ((a : Nat) : Int).natAbs < 2 ^ 64 := by
    have : (2 : Nat) ^ 64 = 18446744073709551616 := by decide
    omega
  exact Nat.lt_of_lt_of_le (PySem.Flt.log2_lt_of (by decide) h64) (by decide)
theorem numL_ten {a : Nat} (h : a ≤ 1000000000) : (numL a).length ≤ 10 := numL_len (by decide) (by omega)
section
variable {P : Program} {w : World} {K : PySem.W.Frag} {mg : Str → Option Value} {base : Heap}
/-- InvalidText's __init__ -/
theorem c_ini (T : Txt K mg) {C fI : Addr} {fs : List Str} {fd : FuncData} (E : EcC K C fI fs) (hf : ("line" : Str) ∈ fs)
    (F : FunD K "__init__" "InvalidText.__init__" (defArgs s_InvalidText___init__) (defBody s_InvalidText___init__) (defScope s_InvalidText___init__) [] [] fI fd) :
    FnOk P w K mg base CX0 1 fI fd ["self", "line"] (sp_ini C "line") := by
  refine F.ok sc_InvalidText___init__ (fun vs H Q E h => ?_) (fun cdv A outer s H vs Q E' hr h => ?_)
  · obtain ⟨a, y, rfl, _⟩ := h; rfl
  · obtain ⟨a, y, rfl, ha, k⟩ := h
    refine ⟨_, pss_one (ps_ost (pv 0) (pv 1)), ?_⟩
    exact ⟨_, rfl, _, rfl, a, C, rfl, E.oex, E.no _ hf, .inl ⟨ha, k⟩⟩
def sp_fmt (K : PySem.W.Frag) : Sp := fun vs H Q _ => ∃ (t : Addr) (a b : Nat), vs = [.ref t] ∧ SqT K H t [.int a, .int b] ∧ a ≤ 1000000000 ∧ b ≤ 1000000000 ∧
  ∀ x, tl x = numL a ++ sepL ++ numL b → Q (.str x) H
theorem c_fmt (D : DefAt K mg "format_map" s_format_map) (T : Txt K mg) :
    Cal P w K mg base 1 "format_map" ["f"] (sp_fmt K) := by
  refine cal_mk D sc_format_map (fun _ _ _ _ _ _ _ us hl => match us, hl with | [_], _ => rfl)
    (fun vs H Q E h => ?_) (fun f cdv A outer s H vs Q hgu hr h => ?_)
  · obtain ⟨t, a, b, rfl, _⟩ := h; rfl
  · obtain ⟨t, a, b, rfl, ht, ha, hb, k⟩ := h
    refine ⟨_,
      (pss_cons (ps_asg (pv 0) (pg_tup rfl (pgs_cons (pg_name (i := 1) sc_format_map.nd rfl (Or.inl rfl)) (pgs_cons (pg_name (i := 2) sc_format_map.nd rfl (Or.inl rfl)) pgs_nil))))
      (pss_one (ps_ret (pe_joined (PJ.cons (pe_fmt (pv 1)) (PJ.cons pe_str (PJ.cons (pe_fmt (pv 2)) PJ.nil)))))))
      , ?_⟩
    refine ⟨_, rfl, t, _, rfl, ht, rfl, _, _, rfl, _, _, rfl, rfl, ?_⟩
    have t1 : tl (Str.empty ++ Str.ofString (toString (a : Int))) = numL a := by rw [tl_append, tl_num]; rfl
    have t2 : tl (Str.empty ++ Str.ofString (toString (a : Int)) ++ Str.ofString "*x + ") = numL a ++ sepL := by rw [tl_append, t1]; rfl
    have t3 : tl (Str.empty ++ Str.ofString (toString (a : Int)) ++ Str.ofString "*x + " ++ Str.ofString (toString (b : Int))) = numL a ++ sepL ++ numL b := by rw [tl_append, t2, tl_num]
    have e1 : (Str.empty ++ Str.ofString (toString (a : Int))).length = (numL a).length := by rw [len_tl, t1]
    have e2 : (Str.empty ++ Str.ofString (toString (a : Int)) ++ Str.ofString "*x + ").length = (numL a).length + 5 := by rw [len_tl, t2, List.length_append, sepL_eq]; rfl
    have e3 : (Str.empty ++ Str.ofString (toString (a : Int)) ++ Str.ofString "*x + " ++ Str.ofString (toString (b : Int))).length = (numL a).length + 5 + (numL b).length := by rw [len_tl, t3, List.length_append, List.length_append, sepL_eq]; rfl
    refine ⟨_, rfl, .inr ⟨_, rfl, ?_, _, rfl, ?_, _, rfl, ?_, _, rfl, .inr ⟨_, rfl, ?_, _, rfl, ?_, ?_⟩⟩⟩
    · exact log_nat ha
    · rw [e1]; exact Nat.le_trans (numL_ten ha) (by decide)
    · rw [e2]; exact Nat.le_trans (Nat.add_le_add_right (numL_ten ha) 5) (by decide)
    · exact log_nat hb
    · rw [e3]; exact Nat.le_trans (Nat.add_le_add (Nat.add_le_add_right (numL_ten ha) 5) (numL_ten hb)) (by decide)
    · exact k _ t3
theorem mapXY_nat {m a b : Nat} : mapXY (m : Int) (.int (a : Nat)) (.int (b : Nat)) = decide (a < m ∧ b < m ∧ Nat.gcd a m = 1) := by
  show ((decide ((0 : Int) ≤ a) && decide ((a : Int) ≤ (m : Int) - 1)) && ((decide ((0 : Int) ≤ b) && decide ((b : Int) ≤ (m : Int) - 1)) && decide (gcdI (a : Int) (m : Int) = 1))) = _
  have g : gcdI (a : Int) (m : Int) = ((Nat.gcd a m : Nat) : Int) := rfl
  rw [g, ← Bool.decide_and, ← Bool.decide_and, ← Bool.decide_and, ← Bool.decide_and]
  refine decide_eq_decide.mpr ⟨fun h => ⟨by omega, by omega, by have := h.2.2; omega⟩, fun h => ⟨⟨by omega, by omega⟩, ⟨by omega, by omega⟩, by have := h.2.2; omega⟩⟩
theorem rdn_of {w : Str} {n top : Nat} (h : numW (tl w) = some n) : rdn w top = if n ≤ top then .int n else .non := by
  unfold rdn
  rw [h]
theorem rdn_none {w : Str} {top : Nat} (h : numW (tl w) = none) : rdn w top = .non := by
  unfold rdn
  rw [h]
theorem mapXY_non1 {m : Int} {y : V} : mapXY m .non y = false := rfl
theorem mapXY_non2 {m : Int} {x : V} : mapXY m x .non = false := by cases x <;> rfl
theorem parse_lem {m : Nat} (hm : 2 ≤ m) (x : Str) :
    (∀ a b, mapT m (tl x) = some (a, b) → rdn (Txt.partition x (Str.ofString "*x + ")).1 (m - 1) = .int (a : Nat) ∧ rdn (Txt.partition x (Str.ofString "*x + ")).2.2 (m - 1) = .int (b : Nat) ∧ mapXY (m : Int) (.int (a : Nat)) (.int (b : Nat)) = true) ∧
    (mapT m (tl x) = none → mapXY (m : Int) (rdn (Txt.partition x (Str.ofString "*x + ")).1 (m - 1)) (rdn (Txt.partition x (Str.ofString "*x + ")).2.2 (m - 1)) = false) := by
  have hp := partition_par x (Str.ofString "*x + ") sepL_ne
  unfold mapT
  rw [hp]
  show (∀ a b, (match par sepL [] (tl x) with | some (a, b) => (match numW a, numW b with | some x, some y => if x < m ∧ y < m ∧ Nat.gcd x m = 1 then some (x, y) else none | _, _ => none) | none => none) = some (a, b) → _) ∧ _
  cases e : par (tl (Str.ofString "*x + ")) [] (tl x) with
  | none =>
    rw [show par sepL [] (tl x) = none from e]
    refine ⟨fun a b h => (by cases h), fun _ => ?_⟩
    show mapXY (m : Int) _ (rdn Str.empty (m - 1)) = false
    rw [rdn_none (w := Str.empty) numW_nil]
    exact mapXY_non2
  | some ab =>
    obtain ⟨u, v⟩ := ab
    rw [show par sepL [] (tl x) = some (u, v) from e]
    dsimp only
    cases eu : numW u with
    | none =>
      refine ⟨fun a b h => (by cases h), fun _ => ?_⟩
      rw [rdn_none (w := ⟨u.toArray⟩) eu]
      exact mapXY_non1
    | some p =>
      cases ev : numW v with
      | none =>
        refine ⟨fun a b h => (by cases h), fun _ => ?_⟩
        rw [rdn_none (w := ⟨v.toArray⟩) ev]
        exact mapXY_non2
      | some q =>
        dsimp only
        rw [rdn_of (w := ⟨u.toArray⟩) eu, rdn_of (w := ⟨v.toArray⟩) ev]
        by_cases c : p < m ∧ q < m ∧ Nat.gcd p m = 1
        · rw [if_pos c, if_pos (show p ≤ m - 1 by omega), if_pos (show q ≤ m - 1 by omega)]
          refine ⟨fun a b h => ?_, fun h => by cases h⟩
          cases h
          exact ⟨rfl, rfl, by rw [mapXY_nat]; exact decide_eq_true c⟩
        · rw [if_neg c]
          refine ⟨fun a b h => (by cases h), fun _ => ?_⟩
          by_cases c1 : p ≤ m - 1
          · by_cases c2 : q ≤ m - 1
            · rw [if_pos c1, if_pos c2, mapXY_nat]
              exact decide_eq_false c
            · rw [if_neg c2]
              exact mapXY_non2
          · rw [if_neg c1]
            exact mapXY_non1
theorem kd_rdn {K : PySem.W.Frag} {H : Hp} {w : Str} {top : Nat} : Kd K H (rdn w top) := by
  unfold rdn
  split
  · split
    · exact kd_int _
    · exact kd_non
  · exact kd_non
/-- a text is read as a map, or an error is raised; C the error's class -/
def sp_parse (K : PySem.W.Frag) (C : Addr) : Sp := fun vs H Q E => ∃ (m : Nat) (v : V), vs = [.int m, v] ∧ 2 ≤ m ∧ m ≤ 1000000000 ∧
  ((∃ t, TyX K H v t ∧ PySem.W.kitOne K t (.type "str") = some false ∧ ∀ H', Same H H' → ∀ d, H' d = none → E (.ref C) (some d) (upd H' d (.xd [("line", .int 0)]))) ∨
   ∃ x : Str, v = .str x ∧ x.length ≤ 600 ∧
    (∀ a b, mapT m (tl x) = some (a, b) → ∀ H' p, Same H H' → H p = none → H' p = some (.tup [.int a, .int b]) → Q (.ref p) H') ∧
    (mapT m (tl x) = none → ∀ H', Same H H' → ∀ d, H' d = none → E (.ref C) (some d) (upd H' d (.xd [("line", .int 0)]))))
theorem c_parse (D : DefAt K mg "parse_map" s_parse_map) (T : Txt K mg) {fd : FuncData}
    (cI : FnOk P w K mg base CX0 1 (He.ma K (He.ga K "InvalidText") "__init__") fd ["self", "line"] (sp_ini (He.ga K "InvalidText") "line")) (bI : Binds K fd ["self", "line"] [])
    (c_read_number : Cal P w K mg base 1 "read_number" ["word", "top"] sp_rdn)
    (c_is_map : Cal P w K mg base 3 "is_map" ["m", "value"] (sp_ismap K)) :
    CalX P w K mg base 4 "parse_map" ["m", "text"] (sp_parse K (He.ga K "InvalidText")) := by
  refine cal_mkX D sc_parse_map (fun _ _ _ _ _ _ _ us hl => match us, hl with | [_, _], _ => rfl)
    (fun vs H Q E h => ?_) (fun f cdv A outer s H vs Q E hgu hr h => ?_)
  · obtain ⟨m, v, rfl, _⟩ := h; rfl
  · obtain ⟨m, v, rfl, m2, m9, h⟩ := h
    refine ⟨_,
      (pss_cons (ps_if (pt_not (pt_val (pe_callB call_isi (by rfl) T.f_isinstance (by decide +kernel) (pa_cons (pv 1) (pa_cons (pe_ty (n := "str") (by rfl) T.f_str (by decide +kernel)) pa_nil))))) (pss_one (ps_raise rfl (takes_of rfl rfl rfl rfl) (pmk_ini T.c_InvalidText cI (hr.mono (by decide)) bI T.g_InvalidText (pa_cons pe_int pa_nil)))) pss_nil)
      (pss_cons (ps_asg (pe_partition (pv 1) pe_str) (pg_tup rfl (pgs_cons (pg_name (i := 2) sc_parse_map.nd rfl (Or.inl rfl)) (pgs_cons (pg_name (i := 3) sc_parse_map.nd rfl (Or.inl rfl)) (pgs_cons (pg_name (i := 4) sc_parse_map.nd rfl (Or.inl rfl)) pgs_nil)))))
      (pss_cons (ps_set (i := 5) sc_parse_map.nd rfl (Or.inl rfl) (pe_tup (pa_cons (pe_cal c_read_number hgu (hr.mono (by decide)) (pa_cons (pv 2) (pa_cons (pe_op op_sub (pv 0) pe_int) pa_nil))) (pa_cons (pe_cal c_read_number hgu (hr.mono (by decide)) (pa_cons (pv 4) (pa_cons (pe_op op_sub (pv 0) pe_int) pa_nil))) pa_nil))))
      (pss_cons (ps_if (pt_not (pt_val (pe_cal c_is_map hgu (hr.mono (by decide)) (pa_cons (pv 0) (pa_cons (pv 5) pa_nil))))) (pss_one (ps_raise rfl (takes_of rfl rfl rfl rfl) (pmk_ini T.c_InvalidText cI (hr.mono (by decide)) bI T.g_InvalidText (pa_cons pe_int pa_nil)))) pss_nil)
      (pss_one (ps_ret (pv 5)))))))
      , ?_⟩
    have raise_ : ∀ H', Same H H' → (∀ d, H' d = none → E (.ref (He.ga K "InvalidText")) (some d) (upd H' d (.xd [("line", .int 0)]))) →
        tMkO (He.ga K "InvalidText") (sp_ini (He.ga K "InvalidText") "line") [] (tCons (tC (.int 0)) tNil) [] H' E := fun H' _ h => ⟨by show 1 ≤ 1000; decide, mk_ini h⟩
    rcases h with ⟨t, ty, kt, he⟩ | ⟨x, rfl, hx, hyes, hno⟩
    · refine ⟨_, rfl, v, _, t, _, false, rfl, .ty "str", ty, kt, _, rfl, iteT ?_⟩
      exact raise_ H (Same.refl _) (he H (Same.refl _))
    · refine ⟨_, rfl, .str x, _, _, _, true, rfl, .ty "str", .base (.str x), kit_ty (by decide +kernel), _, rfl, iteF ?_⟩
      obtain ⟨hp1, hp2⟩ := parse_lem m2 x
      refine ⟨_, rfl, ⟨_, rfl⟩, x, _, rfl, rfl, (by decide +kernel), Nat.le_trans hx (by decide), fun p hp => ?_⟩
      obtain ⟨l1, _, l3⟩ := PyProof.Rows.fact_partition x (Str.ofString "*x + ")
      generalize hr : Txt.partition x (Str.ofString "*x + ") = r at hp1 hp2 l1 l3 ⊢
      obtain ⟨u, y, z⟩ := r
      dsimp only at hp1 hp2 l1 l3 ⊢
      refine ⟨p, _, rfl, SqT.of upd_same, rfl, _, _, rfl, _, _, rfl, _, _, rfl, rfl, ?_⟩
      have em : (m : Int) - 1 = ((m - 1 : Nat) : Int) := by omega
      refine ⟨_, rfl, _, rfl, _, _, rfl, rfl, u, m - 1, congrArg (fun i => [V.str u, V.int i]) em, by omega, by omega, fun H1 s1 => ?_⟩
      refine ⟨_, rfl, _, rfl, _, _, rfl, rfl, z, m - 1, congrArg (fun i => [V.str z, V.int i]) em, by omega, by omega, fun H2 s2 => ?_⟩
      refine ⟨(by show 2 ≤ sizeLine; decide), fun q hq => ?_⟩
      have s03 : Same H (upd H2 q (.tup [rdn u (m - 1), rdn z (m - 1)])) := sm_nw (((sm_new hp).trans s1).trans s2) hq
      have hq0 : H q = none := by
        cases e : H q with
        | none => rfl
        | some o =>
          have := (((sm_new hp).trans s1).trans s2) _ _ e
          rw [hq] at this
          cases this
      refine ⟨_, rfl, _, rfl, (m : Int), .ref q, _, rfl, by omega, by omega, .two upd_same kd_rdn kd_rdn, fun H4 s4 => ?_⟩
      refine ⟨_, rfl, ?_⟩
      cases em2 : mapT m (tl x) with
      | none =>
        rw [hp2 em2]
        refine iteT ?_
        exact raise_ H4 (s03.trans s4) (hno em2 H4 (s03.trans s4))
      | some ab =>
        obtain ⟨a, b⟩ := ab
        obtain ⟨e1, e2, e3⟩ := hp1 a b em2
        rw [e1, e2] at s4 s03 ⊢
        rw [e3]
        refine iteF ⟨_, rfl, ?_⟩
        exact hyes a b em2 H4 q (s03.trans s4) hq0 (s4 _ _ upd_same)
end
end Vg

set_option Elab.async false
set_option linter.all false
set_option maxRecDepth 100000
set_option maxHeartbeats 2000000
namespace Vg
open PySem PySem.Spec PyProof.Rows L2 TL PySem.NumText
-- a ≠ b; a place of a heap; what is kept
local macro_rules | `(tactic| walk_at "nq") => `(tactic| with_reducible first
  | assumption
  | (apply Ne.symm; assumption))
local macro_rules | `(tactic| walk_at "hp") => `(tactic| with_reducible first
  | assumption
  | exact upd_same
  | (refine Eq.trans (upd_ne ?_) ?_; (with_reducible walk_at "nq"); (with_reducible walk_at "hp")))
local macro_rules | `(tactic| walk_at "sm") => `(tactic| with_reducible first
  | assumption
  | exact Same.refl _
  | exact But.refl _ _
  | (refine sm_nw ?_ ?_; rotate_left; (with_reducible assumption); walk_at "sm")
  | (refine But.nw ?_ ?_; rotate_left; (with_reducible assumption); walk_at "sm")
  | (refine sm_own ?_ ?_; rotate_left; (with_reducible assumption); walk_at "sm")
  | (refine But.own ?_ ?_; rotate_left; (with_reducible assumption); walk_at "sm")
  | (refine But.wr ?_; walk_at "sm"))

/-- the map of a text in a new tuple, or the line in a new list -/
def sp_got (K : PySem.W.Frag) : Sp := fun vs H Q _ => ∃ (m : Nat) (v : V), vs = [.int m, v] ∧ 2 ≤ m ∧ m ≤ 1000000000 ∧
  ((∃ t, TyX K H v t ∧ PySem.W.kitOne K t (.type "str") = some false ∧ ∀ H' l, Same H H' → H' l = some (.lst [.int 0]) → Q (.ref l) H') ∨
   ∃ x : Str, v = .str x ∧ x.length ≤ 600 ∧
    (∀ a b, mapT m (tl x) = some (a, b) → ∀ H' p, Same H H' → H' p = some (.tup [.int a, .int b]) → Q (.ref p) H') ∧
    (mapT m (tl x) = none → ∀ H' l, Same H H' → H' l = some (.lst [.int 0]) → Q (.ref l) H'))
section
variable {P : Program} {w : World} {K : PySem.W.Frag} {mg : Str → Option Value} {base : Heap}
theorem c_got (D : DefAt K mg "_law_got" s__law_got) (T : Txt K mg)
    (c_parse_map : CalX P w K mg base 4 "parse_map" ["m", "text"] (sp_parse K (He.ga K "InvalidText"))) :
    Cal P w K mg base 5 "_law_got" ["m", "value"] (sp_got K) := by
  refine cal_mk D sc__law_got (fun _ _ _ _ _ _ _ us hl => match us, hl with | [_, _], _ => rfl)
    (fun vs H Q E h => ?_) (fun f cdv A outer s H vs Q hgu hr h => ?_)
  · obtain ⟨m, v, rfl, _⟩ := h; rfl
  · obtain ⟨m, v, rfl, m2, m9, h⟩ := h
    refine ⟨_,
      (pss_cons (ps_set (i := 2) sc__law_got.nd rfl (Or.inl rfl) pe_non)
      (pss_cons (ps_try_k (i := 3) rfl rfl sc__law_got.nd rfl rfl ⟨rfl, by decide, .inl T.g_InvalidText⟩ takes0 (fun W pn xe tk _ => pss_one (ps_ret (pe_calX c_parse_map tk hgu (hr.mono (by decide)) (pa_cons (pv 0) (pa_cons (pv 1) pa_nil))))) (fun a pn => pss_one (ps_asg (pv 3) (pg_name (i := 2) sc__law_got.nd rfl (Or.inl rfl)))))
      (pss_one (ps_ret (pe_ifExp (PW.pt (pw_and (pt_val (pe_callB call_isK (by rfl) T.f_isinstance (by decide +kernel) (pa_cons (pv 2) (pa_cons (pe_ty (n := "ValueError") (by rfl) T.f_ValueError (by decide +kernel)) pa_nil)))) (pw_and1 (pt_not (pt_val (pe_callB call_isKT (by rfl) T.f_isinstance (by decide +kernel) (pa_cons (pv 2) (pa_cons (pe_tup (pa_cons (pe_glob (v := .ref (He.ga K "InvalidStep")) rfl T.g_InvalidStep rfl (by decide)) (pa_cons (pe_glob (v := .ref (He.ga K "InvalidPath")) rfl T.g_InvalidPath rfl (by decide)) pa_nil))) pa_nil)))))))) (pe_lst (pa_cons (pe_xk (pv 2)) pa_nil)) pe_non)))))
      , ?_⟩
    refine ⟨_, rfl, _, rfl, m, v, rfl, m2, m9, ?_⟩
    rcases h with ⟨t, ty, kt, he⟩ | ⟨x, rfl, hx, hyes, hno⟩
    · refine .inl ⟨t, ty, kt, fun H' s1 d hd => ⟨true, T.c_InvalidText.exm, fun _ a ha => ?_, fun z => nomatch z⟩⟩
      refine ⟨_, rfl, ?_⟩
      have hda : d ≠ a := fun z => by
        rw [← z, upd_same] at ha
        cases ha
      have sA : Same H (upd (upd H' d (.xd [("line", .int 0)])) a (exk a (.ref (He.ga K "InvalidText")) (some d))) := sm_nw (sm_nw s1 hd) ha
      have gA : (upd (upd H' d (.xd [("line", .int 0)])) a (exk a (.ref (He.ga K "InvalidText")) (some d))) a = some (exk a (.ref (He.ga K "InvalidText")) (some d)) := upd_same
      have gD : (upd (upd H' d (.xd [("line", .int 0)])) a (exk a (.ref (He.ga K "InvalidText")) (some d))) d = some (.xd [("line", .int 0)]) := (upd_ne hda).trans upd_same
      generalize upd (upd H' d (.xd [("line", .int 0)])) a (exk a (.ref (He.ga K "InvalidText")) (some d)) = HA at sA gA gD ⊢
      refine ⟨_, rfl, a, _, d, _, _, _, true, rfl, T.c_InvalidText.is_, gA, gD, fun u r => (ClsV.ty "ValueError").eq r, T.v_InvalidText, _, rfl, iteT ?_⟩
      refine ⟨_, rfl, (by show 2 ≤ sizeLine; decide), fun p hp => ?_⟩
      refine ⟨a, _, d, p, _, _, [.ref (He.ga K "InvalidStep"), .ref (He.ga K "InvalidPath")], false, rfl, T.c_InvalidText.is_, sm_new hp _ _ gA, sm_new hp _ _ gD, upd_same, ?_, ?_, _, rfl, iteT ?_⟩
      · intro us r
        obtain ⟨u1, u2, rfl, r1, r2⟩ := vals2 r
        cases r1
        cases r2
        rfl
      · exact kitAny_cons T.n_InvalidText_InvalidStep (fun _ => kitAny_cons T.n_InvalidText_InvalidPath (fun _ => rfl) (fun z => nomatch z)) (fun z => nomatch z)
      · refine ⟨_, rfl, a, _, d, _, _, rfl, T.c_InvalidText.xf, T.c_InvalidText.no _ (by decide +kernel), sm_new hp _ _ gA, sm_new hp _ _ gD, rfl, (by show 1 ≤ sizeLine; decide), fun l hl => ?_⟩
        exact he _ l (sm_nw (sm_nw sA hp) hl) upd_same
    · refine .inr ⟨x, rfl, hx, fun a b e H' p s1 _ g => hyes a b e H' p s1 g, fun e H' s1 d hd => ⟨true, T.c_InvalidText.exm, fun _ a ha => ?_, fun z => nomatch z⟩⟩
      have he := hno e
      refine ⟨_, rfl, ?_⟩
      have hda : d ≠ a := fun z => by
        rw [← z, upd_same] at ha
        cases ha
      have sA : Same H (upd (upd H' d (.xd [("line", .int 0)])) a (exk a (.ref (He.ga K "InvalidText")) (some d))) := sm_nw (sm_nw s1 hd) ha
      have gA : (upd (upd H' d (.xd [("line", .int 0)])) a (exk a (.ref (He.ga K "InvalidText")) (some d))) a = some (exk a (.ref (He.ga K "InvalidText")) (some d)) := upd_same
      have gD : (upd (upd H' d (.xd [("line", .int 0)])) a (exk a (.ref (He.ga K "InvalidText")) (some d))) d = some (.xd [("line", .int 0)]) := (upd_ne hda).trans upd_same
      generalize upd (upd H' d (.xd [("line", .int 0)])) a (exk a (.ref (He.ga K "InvalidText")) (some d)) = HA at sA gA gD ⊢
      refine ⟨_, rfl, a, _, d, _, _, _, true, rfl, T.c_InvalidText.is_, gA, gD, fun u r => (ClsV.ty "ValueError").eq r, T.v_InvalidText, _, rfl, iteT ?_⟩
      refine ⟨_, rfl, (by show 2 ≤ sizeLine; decide), fun p hp => ?_⟩
      refine ⟨a, _, d, p, _, _, [.ref (He.ga K "InvalidStep"), .ref (He.ga K "InvalidPath")], false, rfl, T.c_InvalidText.is_, sm_new hp _ _ gA, sm_new hp _ _ gD, upd_same, ?_, ?_, _, rfl, iteT ?_⟩
      · intro us r
        obtain ⟨u1, u2, rfl, r1, r2⟩ := vals2 r
        cases r1
        cases r2
        rfl
      · exact kitAny_cons T.n_InvalidText_InvalidStep (fun _ => kitAny_cons T.n_InvalidText_InvalidPath (fun _ => rfl) (fun z => nomatch z)) (fun z => nomatch z)
      · refine ⟨_, rfl, a, _, d, _, _, rfl, T.c_InvalidText.xf, T.c_InvalidText.no _ (by decide +kernel), sm_new hp _ _ gA, sm_new hp _ _ gD, rfl, (by show 1 ≤ sizeLine; decide), fun l hl => ?_⟩
        exact he _ l (sm_nw (sm_nw sA hp) hl) upd_same
end
end Vg

set_option Elab.async false
set_option linter.all false
set_option maxRecDepth 100000
set_option maxHeartbeats 2000000
namespace Vg
open PySem PySem.Spec PySem.W PyProof.Rows L2
section
variable {X : Cx}
/-- the larger one of a pair -/
theorem call_maxT (hc : X.calm = true) : CallR X (.builtin "max") (fun xs H Q => ∃ (a : Addr) (i j : Int), xs = [.ref a] ∧ SqT X.K H a [.int i, .int j] ∧ Q (.int (if j > i then j else i)) H) := by
  intro pins s σ H xs us Q I r h
  obtain ⟨a, i, j, rfl, hs, q⟩ := h
  obtain ⟨its, rv, ht, _⟩ := I.tuple hs
  obtain ⟨t, u, rfl⟩ := rv.int2
  obtain ⟨_, rfl, ru⟩ := vals1 r
  cases ru
  refine call_max_walkS (iter_tupleW (I.ok.hd hc) ht ?_)
  intro s2 e W st hfp _ _
  refine ⟨_, _, _, _, _, _, _, _, rfl, W, st, hfp, (by show 0 < 2; decide), CmpOf.ints_gt (fun k => if k = 0 then i else j) ?_, ?_⟩
  · intro k v hv
    match k, hv with
    | 0, hv => cases hv; exact ⟨t, rfl⟩
    | 1, hv => cases hv; exact ⟨u, rfl⟩
  · intro v s' hv m
    obtain ⟨h', tk, rfl, kp⟩ := moved_old e rfl m
    have e2 : argBest (fun k l => decide ((if k = 0 then i else j) > (if l = 0 then i else j))) 1 = if j > i then 1 else 0 := by
      show (if decide ((if (0 + 1) = 0 then i else j) > (if (0 : Nat) = 0 then i else j)) = true then 0 + 1 else 0) = _
      by_cases c : j > i
      · rw [if_pos c]; simp [c]
      · rw [if_neg c]; simp [c]
    have hv' : (#[Value.int i t, Value.int j u])[argBest (fun k l => decide ((if k = 0 then i else j) > (if l = 0 then i else j))) 1]? = some v := hv
    rw [e2] at hv'
    by_cases c : j > i
    · rw [if_pos c] at hv' q
      cases hv'
      exact ⟨.int j, H, I.kept kp, ⟨_, rfl⟩, q⟩
    · rw [if_neg c] at hv' q
      cases hv'
      exact ⟨.int i, H, I.kept kp, ⟨_, rfl⟩, q⟩
end
end Vg

set_option Elab.async false
set_option linter.all false
set_option maxRecDepth 100000
set_option maxHeartbeats 2000000
namespace Vg
open PySem PySem.Spec PySem.W PyProof.Rows L2 PySem.NumText
-- a ≠ b; a place of a heap; what is kept
local macro_rules | `(tactic| walk_at "nq") => `(tactic| with_reducible first
  | assumption
  | (apply Ne.symm; assumption))
local macro_rules | `(tactic| walk_at "hp") => `(tactic| with_reducible first
  | assumption
  | exact upd_same
  | (refine Eq.trans (upd_ne ?_) ?_; (with_reducible walk_at "nq"); (with_reducible walk_at "hp")))
local macro_rules | `(tactic| walk_at "sm") => `(tactic| with_reducible first
  | assumption
  | exact Same.refl _
  | exact But.refl _ _
  | (refine sm_nw ?_ ?_; rotate_left; (with_reducible assumption); walk_at "sm")
  | (refine But.nw ?_ ?_; rotate_left; (with_reducible assumption); walk_at "sm")
  | (refine sm_own ?_ ?_; rotate_left; (with_reducible assumption); walk_at "sm")
  | (refine But.own ?_ ?_; rotate_left; (with_reducible assumption); walk_at "sm")
  | (refine But.wr ?_; walk_at "sm"))

theorem le_sum : ∀ (l : List Str) {z : Str}, z ∈ l → z.length ≤ (l.map (·.length)).sum
  | y :: l, z, h => by
    rw [List.map_cons, List.sum_cons]
    rcases List.mem_cons.mp h with rfl | h
    · omega
    · have := le_sum l h
      omega
theorem shaped_strs (l : List Str) (h : ∀ y ∈ l, PyData.canLay0 (.str y) = true) : SeqAt.shaped (.list (l.map PyData.str)) = true := by
  have h1 : ∀ l : List Str, (∀ y ∈ l, PyData.canLay0 (.str y) = true) → PyData.canLayAll0 (l.map PyData.str) = true ∧ PyData.depthAll (l.map PyData.str) = 0 := by
    intro l
    induction l with
    | nil => intro _; exact ⟨by simp [PyData.canLayAll0], by simp [PyData.depthAll]⟩
    | cons y l ih =>
      intro h
      obtain ⟨i1, i2⟩ := ih fun z hz => h z (List.mem_cons_of_mem _ hz)
      refine ⟨?_, ?_⟩
      · rw [List.map_cons]
        show (PyData.canLay0 (.str y) && PyData.canLayAll0 (l.map PyData.str)) = true
        rw [h y List.mem_cons_self, i1]
        rfl
      · simp only [List.map_cons, PyData.depthAll, PyData.depth, i2]
        rfl
  obtain ⟨i1, i2⟩ := h1 l h
  unfold SeqAt.shaped
  have e : PyData.depth (.list (l.map PyData.str)) = 1 := by simp only [PyData.depth, i2]
  rw [e]
  show (PyData.canLayAll0 (l.map PyData.str) && _) = true
  rw [i1]
  rfl
theorem dps_strs {K : PySem.W.Frag} {H : Hp} : ∀ l : List Str, DpAll K H (l.map V.str) (l.map PyData.str)
  | [] => .nil
  | _ :: l => .cons (.str _) (dps_strs l)
theorem mem_joinL {c : Nat} {S : List Nat} : ∀ (ps : List (List Nat)) {p : List Nat}, p ∈ ps → c ∈ p → c ∈ TL.joinL S ps
  | [q], p, h, hc => by
    obtain rfl := List.mem_singleton.mp h
    exact hc
  | q :: r :: ps, p, h, hc => by
    show c ∈ q ++ (S ++ TL.joinL S (r :: ps))
    rcases List.mem_cons.mp h with rfl | h
    · exact List.mem_append_left _ hc
    · exact List.mem_append_right _ (List.mem_append_right _ (mem_joinL (r :: ps) h hc))
theorem part_ok {x y z : Str} (h : z ∈ Txt.split x y) (hx : ∀ c ∈ TL.tl x, c < 1114112) : PyData.canLay0 (.str z) = true := by
  have e : TL.tl x = TL.joinL (TL.tl y) ((Txt.split x y).map TL.tl) := by
    rw [← TL.tl_join, PySem.StrLaws.join_split]
  have hz : ∀ c ∈ TL.tl z, c < 1114112 := fun c hc => hx c (by rw [e]; exact mem_joinL _ (List.mem_map.mpr ⟨z, h, rfl⟩) hc)
  simp only [PyData.canLay0]
  unfold PyData.strOk
  rw [Array.all_eq_true']
  intro c hc
  exact decide_eq_true (hz c (by simpa [TL.tl] using hc))
/-- a part is no longer than the text -/
theorem split_piece {x y z : Str} (hy : 1 ≤ y.length) (h : z ∈ Txt.split x y) : z.length ≤ x.length := by
  have w := PyProof.Rows.split_weight x y hy
  have p := PyProof.Rows.split_pos x y
  have q := le_sum (Txt.split x y) h
  omega
theorem eqv_two {a b c d : Str} : PyData.eqv (.list ([a, b].map PyData.str)) (.list ([c, d].map PyData.str)) = true ↔ a = c ∧ b = d := by
  simp [PyData.eqv, PyData.eqvAll]
theorem dv_lt : ∀ {k : Nat} {l : List Nat}, PySem.NumText.AllDigits l → l.length ≤ k → PySem.NumText.digitsVal l < 10 ^ k := by
  intro k
  induction k with
  | zero =>
    intro l _ hl
    have e : l = [] := List.length_eq_zero_iff.mp (by omega)
    subst e
    decide
  | succ k ih =>
    intro l h hl
    rcases List.eq_nil_or_concat l with e | ⟨r, c, e⟩
    · subst e
      exact Nat.pos_of_ne_zero (by simp)
    · subst e
      rw [List.concat_eq_append] at h hl ⊢
      rw [PySem.NumText.digitsVal_snoc]
      have hr := ih (l := r) (fun d hd => h d (List.mem_append_left _ hd)) (by rw [List.length_append] at hl; simp at hl; omega)
      have hc := h c (List.mem_append_right _ (List.mem_singleton.mpr rfl))
      rw [Nat.pow_succ]
      omega
theorem log_nat10 {a : Nat} (h : a < 10000000000) : ((a : Nat) : Int).natAbs.log2 < 1920 := by
  have h64 : ((a : Nat) : Int).natAbs < 2 ^ 64 := by
    have : (2 : Nat) ^ 64 = 18446744073709551616 := by decide
    omega
  exact Nat.lt_of_lt_of_le (PySem.Flt.log2_lt_of (by decide) h64) (by decide)
def notD (c : Nat) : Bool := !decide (c ∈ dgs)
def oneS (c : Nat) : Str := ⟨#[c]⟩
def badW (y : Str) : Bool := decide (y.length = 0) || decide (10 < y.length)
def sp_parsed (K : PySem.W.Frag) : Sp := fun vs H Q _ => ∃ (m : Nat) (x : Str), vs = [.int m, .str x] ∧ 2 ≤ m ∧ m ≤ 1000000000 ∧ x.length ≤ 600 ∧ (∀ c ∈ TL.tl x, c < 1114112) ∧
  (∀ a b, mapT m (TL.tl x) = some (a, b) → ∀ H' p, Same H H' → H' p = some (.tup [.int (a : Nat), .int (b : Nat)]) → Q (.ref p) H') ∧
  (mapT m (TL.tl x) = none → ∀ H', Same H H' → Q .non H')
section
variable {P : Program} {w : World} {K : PySem.W.Frag} {mg : Str → Option Value} {base : Heap}
theorem c_parsed (D : DefAt K mg "_law_parsed" s__law_parsed) (T : Txt K mg)
    (c__law_gcd : Cal P w K mg base 1 "_law_gcd" ["one", "other"] sp_lgcd) :
    Cal P w K mg base 2 "_law_parsed" ["m", "text"] (sp_parsed K) := by
  refine cal_mk D sc__law_parsed (fun _ _ _ _ _ _ _ us hl => match us, hl with | [_, _], _ => rfl)
    (fun vs H Q E h => ?_) (fun f cdv A outer s H vs Q hgu hr h => ?_)
  · obtain ⟨m, v, rfl, _⟩ := h; rfl
  · obtain ⟨m, x, rfl, m2, m9, hx, hxo, hyes, hno⟩ := h
    refine ⟨_,
      (pss_cons (ps_set (i := 2) sc__law_parsed.nd rfl (Or.inl rfl) (pe_split (pv 1) pe_str))
      (pss_cons (ps_if (PW.pt (pw_or (pt_cmpR op_ne (pe_callB call_len_seq (by rfl) T.f_len (by decide +kernel) (pa_cons (pv 2) pa_nil)) pe_int (nomark _)) (pw_or1 (pt_cmpR (op_neD hr.units) (pe_lc (own := [("word", 3)]) (g := gName 3) (by rfl) sc__law_parsed.nd (pi_list (pv 2)) (blkOk_by (own := [("word", 3)]) (N := ["m", "text", "words", "word", "sign", "f"]) (sc := defScope s__law_parsed) (by decide +kernel)) (fun _ _ _ _ _ => pg_name (i := 3) sc__law_parsed.nd rfl (Or.inl rfl)) (fun _ _ _ _ _ => (pts_one (PW.pt (pw_or (pt_cmpR op_eq (pv 3) pe_str (nomark _)) (pw_or1 (pt_cmpR op_gt (pe_callB call_len_str (by rfl) T.f_len (by decide +kernel) (pa_cons (pv 3) pa_nil)) pe_int (nomark _))))))) (fun _ _ _ _ _ => (pv 3))) (pe_lst pa_nil) (nomark _))))) (pss_one (ps_ret pe_non)) pss_nil)
      (pss_cons (ps_if (pt_cmpR (op_neD hr.units) (pe_lc (own := [("sign", 4)]) (g := gName 4) (by rfl) sc__law_parsed.nd (pi_str (pe_join pe_str (pv 2))) (blkOk_by (own := [("sign", 4)]) (N := ["m", "text", "words", "word", "sign", "f"]) (sc := defScope s__law_parsed) (by decide +kernel)) (fun _ _ _ _ _ => pg_name (i := 4) sc__law_parsed.nd rfl (Or.inl rfl)) (fun _ _ _ _ _ => (pts_one (pt_cmpR op_notIn_sign (pv 4) pe_str rfl))) (fun _ _ _ _ _ => (pv 4))) (pe_lst pa_nil) (nomark _)) (pss_one (ps_ret pe_non)) pss_nil)
      (pss_cons (ps_set (i := 5) sc__law_parsed.nd rfl (Or.inl rfl) (pe_tup (pa_cons (pe_callTy call_int_str (by rfl) T.f_int (by decide +kernel) (pa_cons (pe_ix ix_list (pv 2) pe_int (fun _ _ => rfl)) pa_nil)) (pa_cons (pe_callTy call_int_str (by rfl) T.f_int (by decide +kernel) (pa_cons (pe_ix ix_list (pv 2) pe_int (fun _ _ => rfl)) pa_nil)) pa_nil))))
      (pss_cons (ps_if (PW.pt (pw_or (pt_cmpR (op_neD hr.units) (pe_lst (pa_cons (pe_callTy call_str_int (by rfl) T.f_str (by decide +kernel) (pa_cons (pe_ix ix_tup (pv 5) pe_int (fun _ _ => rfl)) pa_nil)) (pa_cons (pe_callTy call_str_int (by rfl) T.f_str (by decide +kernel) (pa_cons (pe_ix ix_tup (pv 5) pe_int (fun _ _ => rfl)) pa_nil)) pa_nil))) (pv 2) (nomark _)) (pw_or (pt_cmpR op_ge (pe_callB (call_maxT rfl) (by rfl) T.f_max (by decide +kernel) (pa_cons (pv 5) pa_nil)) (pv 0) (nomark _)) (pw_or1 (pt_cmpR op_ne (pe_cal c__law_gcd hgu (hr.mono (by decide)) (pa_cons (pe_ix ix_tup (pv 5) pe_int (fun _ _ => rfl)) (pa_cons (pv 0) pa_nil))) pe_int (nomark _)))))) (pss_one (ps_ret pe_non)) pss_nil)
      (pss_one (ps_ret (pv 5))))))))
      , ?_⟩
    have hsp := TL.split_spl x (Str.ofString "*x + ") sepL_ne (TL.kind_ok (by decide +kernel))
    refine ⟨_, rfl, ⟨_, rfl⟩, x, _, rfl, rfl, (by decide +kernel), Nat.le_trans (Nat.add_le_add_right hx 2) (by decide), fun p hp => ?_⟩
    have hys : ∀ y ∈ Txt.split x (Str.ofString "*x + "), y.length ≤ 600 := fun y hy => Nat.le_trans (split_piece (by decide +kernel) hy) hx
    have hok : ∀ y ∈ Txt.split x (Str.ofString "*x + "), PyData.canLay0 (.str y) = true := fun y hy => part_ok hy hxo
    generalize Txt.split x (Str.ofString "*x + ") = ys at hsp hys hok ⊢
    have no : ∀ H', Same H H' → (∀ a b, ys.map TL.tl = [TL.numL a, TL.numL b] → a < m → b < m → Nat.gcd a m = 1 → False) → Q .non H' := fun H' s1 g => by
      refine hno ?_ H' s1
      cases e : mapT m (TL.tl x) with
      | none => rfl
      | some ab =>
        obtain ⟨a, b⟩ := ab
        obtain ⟨e1, e2, e3, e4⟩ := mapT_spl e
        exact (g a b (hsp.trans e1) e2 e3 e4).elim
    have gp : (upd H p (.lst (ys.map V.str))) p = some (.lst (ys.map V.str)) := upd_same
    have sp : Same H (upd H p (.lst (ys.map V.str))) := sm_new hp
    generalize upd H p (.lst (ys.map V.str)) = HA at gp sp ⊢
    refine ⟨_, rfl, p, _, rfl, .inl (SqL.of gp), rfl, _, rfl, ?_⟩
    rw [dp1, List.length_map]
    by_cases hl : ys.length = 2
    · obtain ⟨y0, y1, rfl⟩ : ∃ y0 y1, ys = [y0, y1] := by
        match ys, hl with
        | [y0, y1], _ => exact ⟨y0, y1, rfl⟩
      have hsp' : [y0, y1].map TL.tl = TL.spl sepL 0 [] (TL.tl x) := hsp
      rw [decide_eq_true (show (([y0, y1].length : Nat) : Int) = 2 from rfl)]
      refine iteF ?_
      refine ⟨_, rfl, p, rfl, ⟨_, SqL.of gp⟩, fun D hD => lc_list (K := K) (a := p) (xs := [V.str y0, V.str y1])
        (fun i H' => Same HA H' ∧ H' D = some (.lst ((([y0, y1].take i).filter badW).map V.str))) ?_ (fun i H' _ z => SqL.of (z.1 _ _ gp)) ?_ ?_⟩
      · exact ⟨sm_new hD, upd_same⟩
      · rintro i v H' hi ⟨q1, q2⟩
        obtain ⟨y, rfl, hy⟩ : ∃ y, v = V.str y ∧ [y0, y1][i]? = some y := by
          match i, hi with
          | 0, hi => cases hi; exact ⟨_, rfl, rfl⟩
          | 1, hi => cases hi; exact ⟨_, rfl, rfl⟩
        have hyl : y.length ≤ 600 := hys y (List.mem_of_getElem? hy)
        have ht : [y0, y1].take (i + 1) = [y0, y1].take i ++ [y] := by rw [List.take_succ, hy]; rfl
        have keep : badW y = true → ∃ acc, H' D = some (.lst acc) ∧ acc.length < sizeLine ∧ (Same HA (upd H' D (.lst (acc ++ [V.str y]))) ∧
            (upd H' D (.lst (acc ++ [V.str y]))) D = some (.lst ((([y0, y1].take (i + 1)).filter badW).map V.str))) := fun b => by
          refine ⟨_, q2, ?_, sm_own q1 hD, ?_⟩
          · rw [List.length_map]
            refine Nat.lt_of_le_of_lt (List.length_filter_le _ _) (Nat.lt_of_le_of_lt (List.length_take_le' _ _) ?_)
            show 2 < sizeLine
            decide
          · rw [upd_same, ht, List.filter_append, List.map_append]
            show _ = some (HO.lst (_ ++ List.map V.str ([y].filter badW)))
            rw [List.filter_cons_of_pos b]
            rfl
        have skip : badW y = false → Same HA H' ∧ H' D = some (.lst ((([y0, y1].take (i + 1)).filter badW).map V.str)) := fun b => by
          refine ⟨q1, ?_⟩
          rw [q2, ht, List.filter_append, List.filter_cons_of_neg (by rw [b]; exact Bool.false_ne_true)]
          simp
        refine ⟨rfl, _, rfl, rfl, _, rfl, ?_⟩
        by_cases c : y.length = 0
        · have ey : y = Str.ofString "" := TL.ext_tl (by
            rw [TL.len_tl] at c
            rw [List.length_eq_zero_iff.mp c, TL.tl_ofString]
            rfl)
          rw [decide_eq_true (show V.str y = V.str (Str.ofString "") by rw [ey])]
          exact iteT (iteT ⟨_, rfl, keep (by unfold badW; rw [decide_eq_true c]; rfl)⟩)
        · rw [decide_eq_false (show ¬ V.str y = V.str (Str.ofString "") from fun z => c (by rw [V.str.inj z]; rfl))]
          refine iteF ⟨_, rfl, y, rfl, Nat.le_trans hyl (by decide), _, _, rfl, rfl, _, rfl, ?_⟩
          by_cases c2 : 10 < y.length
          · rw [decide_eq_true (show (10 : Int) < ((y.length : Nat) : Int) by omega)]
            exact iteT ⟨_, rfl, keep (by unfold badW; rw [decide_eq_false c, decide_eq_true c2]; rfl)⟩
          · rw [decide_eq_false (show ¬ (10 : Int) < ((y.length : Nat) : Int) by omega)]
            exact iteF (skip (by unfold badW; rw [decide_eq_false c, decide_eq_false c2]; rfl))
      · rintro H' ⟨q1, q2⟩
        refine ⟨Nat.zero_le _, fun z hz => ?_⟩
        have g1 := sm_new (o := .lst []) hz _ _ q2
        have qz : Same HA (upd H' z (.lst [])) := sm_nw q1 hz
        have g1' : (upd H' z (.lst [])) D = some (.lst (([y0, y1].filter badW).map V.str)) := g1
        refine ⟨.list (([y0, y1].filter badW).map PyData.str), .list [], .lst (SqL.of g1') (dps_strs _), .lst (SqL.of upd_same) .nil, shaped_strs _ (fun y hy => hok y (List.mem_filter.mp hy).1), rfl, _, rfl, ?_⟩
        cases eF : [y0, y1].filter badW with
        | cons b r =>
          rw [show PyData.eqv (.list ((b :: r).map PyData.str)) (.list []) = false by simp [PyData.eqv, PyData.eqvAll]]
          refine iteT (no _ (sp.trans qz) fun u v e hu hv _ => ?_)
          -- a part that is empty or long writes no such number
          have hb : b ∈ [y0, y1] ∧ badW b = true := List.mem_filter.mp (by rw [eF]; exact List.mem_cons_self)
          have hbl : b.length = 0 ∨ 10 < b.length := by
            have := hb.2
            unfold badW at this
            rw [Bool.or_eq_true, decide_eq_true_iff, decide_eq_true_iff] at this
            exact this
          have hn : ∃ n, n ≤ 1000000000 ∧ TL.tl b = TL.numL n := by
            injection e with e0 e1
            injection e1 with e1 _
            rcases List.mem_cons.mp hb.1 with rfl | h
            · exact ⟨u, by omega, e0⟩
            · rcases List.mem_cons.mp h with rfl | h
              · exact ⟨v, by omega, e1⟩
              · cases h
          obtain ⟨n, hn, e2⟩ := hn
          have l1 := numL_ten hn
          have l2 := TL.numL_ne n
          rw [TL.len_tl, e2] at hbl
          rcases hbl with h | h
          · exact l2 (List.length_eq_zero_iff.mp h)
          · omega
        | nil =>
          rw [show PyData.eqv (.list (([] : List Str).map PyData.str)) (.list []) = true by simp [PyData.eqv, PyData.eqvAll]]
          refine iteF ?_
          -- both parts are short and not empty
          have hb0 : badW y0 = false := Bool.eq_false_iff.mpr fun h => by
            have : y0 ∈ [y0, y1].filter badW := List.mem_filter.mpr ⟨List.mem_cons_self, h⟩
            rw [eF] at this
            cases this
          have hb1 : badW y1 = false := Bool.eq_false_iff.mpr fun h => by
            have : y1 ∈ [y0, y1].filter badW := List.mem_filter.mpr ⟨List.mem_cons_of_mem _ List.mem_cons_self, h⟩
            rw [eF] at this
            cases this
          have sB := sp.trans qz
          have gB := qz _ _ gp
          generalize upd H' z (.lst []) = HB at qz sB gB ⊢
          clear g1 g1' q1 q2 hz hD
          have l0 := hys y0 List.mem_cons_self
          have l1 := hys y1 (List.mem_cons_of_mem _ List.mem_cons_self)
          have tj : TL.tl (Txt.join (Str.ofString "") [y0, y1]) = TL.tl y0 ++ TL.tl y1 := by
            rw [TL.join_eq, TL.tl_join]
            show TL.tl y0 ++ (TL.tl (Str.ofString "") ++ TL.tl y1) = _
            rw [TL.tl_ofString]
            rfl
          refine ⟨⟨_, rfl⟩, _, rfl, _, p, [y0, y1], rfl, rfl, .inl (SqL.of gB), ?_, _, rfl, fun D2 hD2 => lc_it walk_str
            (fun i H'' => Same HB H'' ∧ H'' D2 = some (.lst (((((TL.tl y0 ++ TL.tl y1).take i).filter notD).map oneS).map V.str))) ?_ (fun _ _ _ _ => trivial) ?_ ?_⟩
          · show y0.length + (y1.length + 0) + 2 * 0 ≤ 16777216
            omega
          · exact ⟨sm_new hD2, upd_same⟩
          · rintro i v H1 H2 hi ⟨p1, p2⟩ ⟨rfl, c, hc, rfl⟩
            have hci : (TL.tl y0 ++ TL.tl y1)[i]? = some c := by
              rw [← tj]
              show (Txt.join (Str.ofString "") [y0, y1]).cps.toList[i]? = some c
              rw [Array.getElem?_toList]
              exact hc
            have ht : (TL.tl y0 ++ TL.tl y1).take (i + 1) = (TL.tl y0 ++ TL.tl y1).take i ++ [c] := by rw [List.take_succ, hci]; rfl
            refine ⟨rfl, _, rfl, c, _, rfl, rfl, _, rfl, ?_⟩
            by_cases cd : c ∈ dgs
            · rw [show decide (c ∈ (Str.ofString "0123456789").cps.toList) = true from decide_eq_true cd]
              refine iteF ⟨p1, ?_⟩
              rw [p2, ht, List.filter_append, List.filter_cons_of_neg (by unfold notD; rw [decide_eq_true cd]; decide)]
              simp
            · rw [show decide (c ∈ (Str.ofString "0123456789").cps.toList) = false from decide_eq_false cd]
              refine iteT ⟨_, rfl, _, p2, ?_, sm_own p1 hD2, ?_⟩
              · rw [List.length_map, List.length_map]
                refine Nat.lt_of_le_of_lt (List.length_filter_le _ _) (Nat.lt_of_le_of_lt (List.length_take_le' _ _) ?_)
                rw [List.length_append, ← TL.len_tl, ← TL.len_tl]
                exact Nat.lt_of_le_of_lt (show y0.length + y1.length ≤ 1200 by omega) (by decide)
              · rw [upd_same, ht, List.filter_append, List.map_append, List.map_append]
                have nd : notD c = true := by unfold notD; rw [decide_eq_false cd]; rfl
                show _ = some (HO.lst (_ ++ List.map V.str (List.map oneS ([c].filter notD))))
                rw [List.filter_cons_of_pos nd]
                rfl
          · rintro H1 ⟨p1, p2⟩
            have et : (TL.tl y0 ++ TL.tl y1).take (Txt.join (Str.ofString "") [y0, y1]).cps.size = TL.tl y0 ++ TL.tl y1 := by
              rw [← tj]
              exact List.take_of_length_le (by simp [TL.tl])
            rw [et] at p2
            refine ⟨Nat.zero_le _, fun z hz => ?_⟩
            have g1 : (upd H1 z (.lst [])) D2 = some (.lst ((((TL.tl y0 ++ TL.tl y1).filter notD).map oneS).map V.str)) := sm_new hz _ _ p2
            have qz : Same HB (upd H1 z (.lst [])) := sm_nw p1 hz
            have hok1 : ∀ y ∈ ((TL.tl y0 ++ TL.tl y1).filter notD).map oneS, PyData.canLay0 (.str y) = true := fun y hy => by
              obtain ⟨c, hc, rfl⟩ := List.mem_map.mp hy
              have hc2 := (List.mem_filter.mp hc).1
              have : c < 1114112 := by
                have k0 := hok y0 List.mem_cons_self
                have k1 := hok y1 (List.mem_cons_of_mem _ List.mem_cons_self)
                simp only [PyData.canLay0] at k0 k1
                unfold PyData.strOk at k0 k1
                rw [Array.all_eq_true'] at k0 k1
                rcases List.mem_append.mp hc2 with h | h
                · exact of_decide_eq_true (k0 c (by simpa [TL.tl] using h))
                · exact of_decide_eq_true (k1 c (by simpa [TL.tl] using h))
              simp only [PyData.canLay0]
              unfold PyData.strOk
              rw [Array.all_eq_true']
              intro d hd
              have e : d = c := by simpa [oneS] using hd
              rw [e]
              exact decide_eq_true this
            refine ⟨.list ((((TL.tl y0 ++ TL.tl y1).filter notD).map oneS).map PyData.str), .list [], .lst (SqL.of g1) (dps_strs _), .lst (SqL.of upd_same) .nil, shaped_strs _ hok1, rfl, _, rfl, ?_⟩
            cases eG : (TL.tl y0 ++ TL.tl y1).filter notD with
            | cons b r =>
              rw [show PyData.eqv (.list (((b :: r).map oneS).map PyData.str)) (.list []) = false by simp [PyData.eqv, PyData.eqvAll]]
              refine iteT (no _ (sB.trans qz) fun u v e hu hv _ => ?_)
              have hb := List.mem_filter.mp (show b ∈ (TL.tl y0 ++ TL.tl y1).filter notD by rw [eG]; exact List.mem_cons_self)
              injection e with e0 e1
              injection e1 with e1 _
              have hd : 48 ≤ b ∧ b ≤ 57 := by
                rcases List.mem_append.mp hb.1 with h | h
                · rw [e0] at h; exact TL.numL_digits u b h
                · rw [e1] at h; exact TL.numL_digits v b h
              have := hb.2
              unfold notD at this
              rw [decide_eq_true (dgs_iff.mpr hd)] at this
              cases this
            | nil =>
              rw [show PyData.eqv (.list ((([] : List Nat).map oneS).map PyData.str)) (.list []) = true by simp [PyData.eqv, PyData.eqvAll]]
              refine iteF ?_
              have dig : ∀ c ∈ TL.tl y0 ++ TL.tl y1, 48 ≤ c ∧ c ≤ 57 := fun c hc => by
                by_cases cd : c ∈ dgs
                · exact dgs_iff.mp cd
                · have : c ∈ (TL.tl y0 ++ TL.tl y1).filter notD := List.mem_filter.mpr ⟨hc, by unfold notD; rw [decide_eq_false cd]; rfl⟩
                  rw [eG] at this
                  cases this
              have dig0 : PySem.NumText.AllDigits (TL.tl y0) := fun c hc => dig c (List.mem_append_left _ hc)
              have dig1 : PySem.NumText.AllDigits (TL.tl y1) := fun c hc => dig c (List.mem_append_right _ hc)
              have sh : ∀ y : Str, badW y = false → TL.tl y ≠ [] ∧ y.length ≤ 10 := fun y h => by
                unfold badW at h
                rw [Bool.or_eq_false_iff, decide_eq_false_iff_not, decide_eq_false_iff_not] at h
                refine ⟨fun z => h.1 ?_, by omega⟩
                rw [TL.len_tl, z]
                rfl
              obtain ⟨ne0, t0⟩ := sh y0 hb0
              obtain ⟨ne1, t1⟩ := sh y1 hb1
              have sC := sB.trans qz
              have gC := qz _ _ gB
              generalize upd H1 z (.lst []) = HC at qz sC gC ⊢
              have v0 := intText_digits dig0 ne0 (by omega)
              have v1 := intText_digits dig1 ne1 (by omega)
              have lim : ∀ y : Str, PySem.NumText.AllDigits (TL.tl y) → y.length ≤ 10 → PySem.NumText.digitsVal (TL.tl y) < 10000000000 := fun y hd hl => dv_lt hd (by rw [← TL.len_tl]; exact hl)
              have b0 := lim y0 dig0 t0
              have b1 := lim y1 dig1 t1
              generalize en0 : PySem.NumText.digitsVal (TL.tl y0) = n0 at b0
              generalize en1 : PySem.NumText.digitsVal (TL.tl y1) = n1 at b1
              have v0' : PySem.intText? y0 = some ((n0 : Nat) : Int) := by rw [v0, ← en0]
              have v1' : PySem.intText? y1 = some ((n1 : Nat) : Int) := by rw [v1, ← en1]
              refine ⟨_, rfl, p, _, _, _, rfl, rfl, SqL.of gC, rfl, y0, _, rfl, v0', by omega, _, rfl, p, _, _, _, rfl, rfl, SqL.of gC, rfl, y1, _, rfl, v1', by omega, (by show 2 ≤ sizeLine; decide), fun q hq => ?_⟩
              have sQ : Same H (upd HC q (.tup [.int (n0 : Nat), .int (n1 : Nat)])) := sm_nw sC hq
              have gQ : (upd HC q (.tup [.int (n0 : Nat), .int (n1 : Nat)])) q = some (.tup [.int (n0 : Nat), .int (n1 : Nat)]) := upd_same
              have gP := sm_new (o := .tup [.int (n0 : Nat), .int (n1 : Nat)]) hq _ _ gC
              generalize upd HC q (.tup [.int (n0 : Nat), .int (n1 : Nat)]) = HD at sQ gQ gP ⊢
              refine ⟨_, rfl, q, _, _, _, rfl, rfl, SqT.of gQ, rfl, _, rfl, log_nat10 b0, _, rfl, q, _, _, _, rfl, rfl, SqT.of gQ, rfl, _, rfl, log_nat10 b1, (by show 2 ≤ sizeLine; decide), fun l hl => ?_⟩
              have sL := sm_nw (o := .lst [.str (Str.ofString (toString ((n0 : Nat) : Int))), .str (Str.ofString (toString ((n1 : Nat) : Int)))]) sQ hl
              have gQ2 := sm_new (o := .lst [.str (Str.ofString (toString ((n0 : Nat) : Int))), .str (Str.ofString (toString ((n1 : Nat) : Int)))]) hl _ _ gQ
              have gP2 := sm_new (o := .lst [.str (Str.ofString (toString ((n0 : Nat) : Int))), .str (Str.ofString (toString ((n1 : Nat) : Int)))]) hl _ _ gP
              have numOk : ∀ n : Nat, PyData.canLay0 (.str (Str.ofString (toString ((n : Nat) : Int)))) = true := fun n => by
                simp only [PyData.canLay0]
                unfold PyData.strOk
                rw [Array.all_eq_true']
                intro c hc
                have : c ∈ TL.numL n := by rw [← TL.tl_num]; simpa [TL.tl] using hc
                have := TL.numL_digits n c this
                exact decide_eq_true (by omega)
              refine ⟨_, rfl, .list ([Str.ofString (toString ((n0 : Nat) : Int)), Str.ofString (toString ((n1 : Nat) : Int))].map PyData.str), .list ([y0, y1].map PyData.str),
                .lst (SqL.of upd_same) (dps_strs [Str.ofString (toString ((n0 : Nat) : Int)), Str.ofString (toString ((n1 : Nat) : Int))]), .lst (SqL.of gP2) (dps_strs [y0, y1]), shaped_strs _ ?_, shaped_strs _ hok, _, rfl, ?_⟩
              · intro y hy
                rcases List.mem_cons.mp hy with rfl | hy
                · exact numOk n0
                · obtain rfl := List.mem_singleton.mp hy
                  exact numOk n1
              · have back : ∀ (y : Str) (n a : Nat), PySem.NumText.digitsVal (TL.tl y) = n → TL.tl y = TL.numL a → n = a := fun y n a h e => by
                  rw [← h, e, TL.numL_val]
                by_cases ce : Str.ofString (toString ((n0 : Nat) : Int)) = y0 ∧ Str.ofString (toString ((n1 : Nat) : Int)) = y1
                · rw [show PyData.eqv (.list ([Str.ofString (toString ((n0 : Nat) : Int)), Str.ofString (toString ((n1 : Nat) : Int))].map PyData.str)) (.list ([y0, y1].map PyData.str)) = true from
                    eqv_two.mpr ce]
                  have e0 : TL.tl y0 = TL.numL n0 := by rw [← ce.1, TL.tl_num]
                  have e1 : TL.tl y1 = TL.numL n1 := by rw [← ce.2, TL.tl_num]
                  refine iteF ⟨_, rfl, q, _, _, rfl, SqT.of gQ2, _, rfl, _, _, rfl, rfl, _, rfl, ?_⟩
                  by_cases cm : (m : Int) ≤ (if ((n1 : Nat) : Int) > ((n0 : Nat) : Int) then ((n1 : Nat) : Int) else ((n0 : Nat) : Int))
                  · rw [decide_eq_true cm]
                    refine iteT (iteT (no _ sL fun a b e ha hb _ => ?_))
                    injection e with f0 f1
                    injection f1 with f1 _
                    have a0 := TL.numL_inj (e0.symm.trans f0)
                    have a1 := TL.numL_inj (e1.symm.trans f1)
                    subst a0 a1
                    split at cm <;> omega
                  · rw [decide_eq_false cm]
                    refine iteF ⟨_, rfl, q, _, _, _, rfl, rfl, SqT.of gQ2, rfl, _, rfl, _, _, rfl, by omega, by omega, rfl, _, rfl, ?_⟩
                    rw [dp1]
                    have hg : gcdI ((n0 : Nat) : Int) (m : Int) = ((Nat.gcd n0 m : Nat) : Int) := rfl
                    rw [hg]
                    have lt0 : n0 < m := by split at cm <;> omega
                    have lt1 : n1 < m := by split at cm <;> omega
                    by_cases cg : Nat.gcd n0 m = 1
                    · rw [decide_eq_true (show ((Nat.gcd n0 m : Nat) : Int) = 1 by rw [cg]; rfl)]
                      refine iteF ⟨_, rfl, hyes n0 n1 (spl_mapT ?_ lt0 lt1 cg) _ q sL gQ2⟩
                      rw [← hsp']
                      show [TL.tl y0, TL.tl y1] = _
                      rw [e0, e1]
                    · rw [decide_eq_false (show ¬ ((Nat.gcd n0 m : Nat) : Int) = 1 by omega)]
                      refine iteT (no _ sL fun a b e ha hb hg => ?_)
                      injection e with f0 _
                      have a0 := TL.numL_inj (e0.symm.trans f0)
                      subst a0
                      exact cg hg
                · have en : PyData.eqv (.list ([Str.ofString (toString ((n0 : Nat) : Int)), Str.ofString (toString ((n1 : Nat) : Int))].map PyData.str)) (.list ([y0, y1].map PyData.str)) = false := by
                    exact Bool.eq_false_iff.mpr fun h => ce (eqv_two.mp h)
                  rw [en]
                  refine iteT (iteT (no _ sL fun a b e ha hb hg => ce ?_))
                  injection e with f0 f1
                  injection f1 with f1 _
                  have a0 := back y0 n0 a en0 f0
                  have a1 := back y1 n1 b en1 f1
                  subst a0 a1
                  exact ⟨TL.ext_tl (by rw [TL.tl_num, f0]), TL.ext_tl (by rw [TL.tl_num, f1])⟩
    · rw [decide_eq_false (show ¬ ((ys.length : Nat) : Int) = 2 by omega)]
      refine iteT (iteT ?_)
      exact no _ sp fun a b e _ _ _ => hl (by
        have := congrArg List.length e
        rw [List.length_map] at this
        exact this)
end
end Vg

set_option Elab.async false
set_option linter.all false
set_option maxRecDepth 100000
set_option maxHeartbeats 2000000
namespace Vg
open PySem PySem.Spec PySem.W PyProof.Rows L2 CwR
-- a ≠ b; a place of a heap; what is kept
local macro_rules | `(tactic| walk_at "nq") => `(tactic| with_reducible first
  | assumption
  | (apply Ne.symm; assumption))
local macro_rules | `(tactic| walk_at "hp") => `(tactic| with_reducible first
  | assumption
  | exact upd_same
  | (refine Eq.trans (upd_ne ?_) ?_; (with_reducible walk_at "nq"); (with_reducible walk_at "hp")))
local macro_rules | `(tactic| walk_at "sm") => `(tactic| with_reducible first
  | assumption
  | exact Same.refl _
  | exact But.refl _ _
  | (refine sm_nw ?_ ?_; rotate_left; (with_reducible assumption); walk_at "sm")
  | (refine But.nw ?_ ?_; rotate_left; (with_reducible assumption); walk_at "sm")
  | (refine sm_own ?_ ?_; rotate_left; (with_reducible assumption); walk_at "sm")
  | (refine But.own ?_ ?_; rotate_left; (with_reducible assumption); walk_at "sm")
  | (refine But.wr ?_; walk_at "sm"))

local macro_rules | `(tactic| walk_at "fx") => `(tactic| with_reducible first
  | assumption
  | (apply SqT.of; walk_at "fx")
  | (apply TpAt.sq; walk_at "fx")
  | (apply SqL.of; walk_at "fx")
  | (apply fx_t; (· assumption); walk_at "fx")
  | (apply fx_l; (· assumption); walk_at "fx")
  | (apply TpAt.of; walk_at "fx")
  | (apply fx_tp; (· assumption); walk_at "fx")
  | (apply fx_pn; (· assumption); walk_at "fx")
  | (apply fx_at; (· assumption); walk_at "fx")
  | (apply fx_tb; (· assumption); (· assumption); walk_at "fx")
  | (apply fx_lb; (· assumption); (· assumption); walk_at "fx")
  | (apply fx_tpb; (· assumption); (· assumption); walk_at "fx")
  | (apply fx_atb; (· assumption); (· assumption); walk_at "fx"))
local macro_rules | `(tactic| walk_at "s1") => `(tactic| first
  | (with_reducible first
    | refine w_seq ?_ | refine w_asg ?_ | refine w_gnameN (by simp only [List.set_cons_succ, List.set_cons_zero]; exact rfl) ?_ | refine w_gname ?_ | refine w_cons ?_ | refine w_nil ?_ | refine w_op ?_ | refine w_c ?_
    | (show Ends.nx _ _ _; refine w_nx ?_) | (show Ends.rt _ _ _; refine w_rt ?_) | refine w_ret ?_ | refine w_call ?_ | refine w_cb ?_ | refine w_next ?_ | refine w_tup ?_ | refine w_lst ?_
    | refine w_add ?_ | refine w_sub ?_ | refine w_lt ?_ | refine w_le ?_ | refine w_gt ?_ | refine w_ge ?_ | refine w_eq ?_ | refine w_ne ?_ | refine w_eqS ?_ | refine w_neS ?_ | refine w_neB ?_ | refine w_pow9 ?_ | refine w_pow6 ?_ | refine w_pow8 ?_ | refine w_pow18 ?_ | refine w_eqB ?_ | refine w_chain ?_ | refine w_notV ?_ | refine w_neg ?_ | refine w_un ?_
    | refine w_test ?_ | refine w_tB ?_ | refine w_ifS ?_ | refine w_and ?_ | refine w_or ?_ | refine w_not ?_ | refine w_tif ?_ | refine w_par ?_ | refine w_par3 ?_
    | refine w_gcons ?_ | refine w_gnil ?_ | refine w_drop ?_ | refine w_retN ?_ | refine w_brk ?_ | refine w_cnt ?_ | (show Ends.bk _ _ _; refine w_bk ?_) | (show Ends.ct _ _ _; refine w_ct ?_) | refine w_for ?_ | refine w_rng1 ?_ | refine w_lc ?_ | refine w_yes ?_ | refine w_bm ?_ | refine w_sl ?_ | refine w_noPart ?_ | refine w_part ?_ | refine w_itup ?_ | refine w_ilst ?_
    | refine And.intro rfl ?_ | refine i_nn ?_ | refine i_rn ?_ | refine i_in ?_ | refine i_nn' ?_ | refine i_rn' ?_ | refine i_in' ?_ | refine i_ff ?_ | refine i_tt ?_ | refine i_nt ?_ | refine i_nf ?_
    | refine ⟨_, rfl, ?_⟩ | refine ⟨_, _, rfl, ?_⟩ | refine ⟨_, _, _, rfl, ?_⟩ | refine ⟨_, _, rfl, rfl, ?_⟩)
  | ((with_reducible show tVar _ _ _ _); refine w_var rfl ?_)
  | (with_reducible refine w_mulL (by omega) (by omega) ?_)
  | (with_reducible refine w_mulR (by omega) (by omega) ?_)
  | (with_reducible refine w_modN (by omega) ?_)
  | (with_reducible refine w_fdivN (by omega) (by omega) ?_)
  | (with_reducible refine w_fdivW (by omega) (by omega) ?_)
  | ((with_reducible apply w_gtup); (· walk_at "fx"); (· with_unfolding_all rfl); (· with_unfolding_all rfl))
  | ((with_reducible apply w_tyL); (· walk_at "fx"); (· with_unfolding_all rfl))
  | ((with_reducible apply w_ixT); (· walk_at "fx"); (· with_unfolding_all rfl); (· with_unfolding_all rfl)))
local macro_rules | `(tactic| walk_at "st") => `(tactic| simp only [L2.start, List.length_cons, List.length_nil, Nat.reduceAdd, Nat.reduceSub, List.map_cons, List.map_nil, List.reduceReplicate, List.cons_append, List.nil_append, Nat.sub_zero, Nat.zero_add])
local macro_rules | `(tactic| walk_at "go") => `(tactic| repeat walk_at "s1")

/-- all signs are code points -/
def CpOk (x : Str) : Prop := ∀ c ∈ TL.tl x, c < 1114112
theorem cp_app {x y : Str} (hx : CpOk x) (hy : CpOk y) : CpOk (x ++ y) := fun c hc => by
  rw [TL.tl_append] at hc
  rcases List.mem_append.mp hc with h | h
  · exact hx c h
  · exact hy c h
theorem cp_lit {x : Str} (h : (TL.tl x).all (fun c => Nat.blt c 1114112) = true) : CpOk x := fun c hc => by
  have := List.all_eq_true.mp h c hc
  exact Nat.le_of_ble_eq_true this
theorem cp_slice {x : Str} {l u : Option Int} (hx : CpOk x) : CpOk (Txt.slice x l u) := fun c hc => by
  unfold Txt.slice at hc
  split at hc
  · exact hx c hc
  · have hc' : c ∈ (PySem.Builtin.Str.strSliceIndices l u 1 x.length).filterMap (x.cps[·]?) := by simpa [TL.tl] using hc
    obtain ⟨i, _, e⟩ := List.mem_filterMap.mp hc'
    refine hx c ?_
    show c ∈ x.cps.toList
    exact Array.mem_toList_iff.mpr (Array.mem_of_getElem? e)
theorem replS_mem {y z : List Nat} {c : Nat} : ∀ (s : Nat) (l : List Nat), c ∈ PySem.StrLaws.replS y z s l → c ∈ l ∨ c ∈ z
  | _, [], h => by
    rw [PySem.StrLaws.replS] at h
    cases h
  | 0, d :: r, h => by
    rw [PySem.StrLaws.replS] at h
    split at h
    · rcases List.mem_append.mp h with h | h
      · exact .inr h
      · exact (replS_mem _ r h).imp (List.mem_cons_of_mem _) id
    · rcases List.mem_cons.mp h with rfl | h
      · exact .inl List.mem_cons_self
      · exact (replS_mem _ r h).imp (List.mem_cons_of_mem _) id
  | s + 1, d :: r, h => by
    rw [PySem.StrLaws.replS] at h
    exact (replS_mem s r h).imp (List.mem_cons_of_mem _) id
theorem cp_repl {x y z : Str} (hy : 1 ≤ y.length) (hx : CpOk x) (hz : CpOk z) : CpOk (Txt.replace x y z) := fun c hc => by
  have e := PySem.StrLaws.replace_list (x := x) (y := y) (z := z) hy
  have hc' : c ∈ (Txt.replace x y z).cps.toList := hc
  rw [e] at hc'
  rcases replS_mem _ _ hc' with h | h
  · exact hx c h
  · exact hz c h
theorem cp_one {x : Str} {c : Nat} (hx : CpOk x) (h : c ∈ TL.tl x) : CpOk ⟨#[c]⟩ := fun d hd => by
  have : d = c := by simpa [TL.tl] using hd
  rw [this]
  exact hx c h
theorem cp_num (n : Nat) : CpOk (toString (n : Int)) := fun c hc => by
  have e : TL.tl (toString (n : Int)) = TL.numL n := TL.tl_num n
  rw [e] at hc
  have := TL.numL_digits n c hc
  omega
theorem len_app (x y : Str) : (x ++ y).length = x.length + y.length := by
  rw [TL.len_tl, TL.tl_append, List.length_append, ← TL.len_tl, ← TL.len_tl]
theorem num_len {a : Nat} (h : a < 10000000000) : (Str.ofString (toString (a : Int))).length ≤ 10 := by
  rw [TL.len_tl, TL.tl_num]
  exact TL.numL_len (by decide) (by omega)
theorem log_natL {a : Nat} (h : a < 10000000000) : ((a : Nat) : Int).natAbs.log2 < 1920 := by
  have h64 : ((a : Nat) : Int).natAbs < 2 ^ 64 := by
    have : (2 : Nat) ^ 64 = 18446744073709551616 := by decide
    omega
  exact Nat.lt_of_lt_of_le (PySem.Flt.log2_lt_of (by decide) h64) (by decide)
def sp_pickS : Sp := fun vs H Q _ => ∃ (p L : Addr) (n : Nat) (x : Str), vs = [.ref p, .str x] ∧ PenAt H p L n ∧ n ≤ 100000000 ∧ 1 ≤ x.length ∧ x.length ≤ 100000 ∧
  ∀ H' c, But p H H' → PenAt H' p L (n + 1) → c ∈ TL.tl x → Q (.str ⟨#[c]⟩) H'
/-- a text with one change -/
def sp_changed : Sp := fun vs H Q _ => ∃ (p L : Addr) (n m : Nat) (x : Str), vs = [.ref p, .int m, .str x] ∧ PenAt H p L n ∧ n ≤ 90000000 ∧ 1 ≤ m ∧ m ≤ 1000000000 ∧ x.length ≤ 140 ∧ CpOk x ∧
  ∀ H' y, But p H H' → PenAt H' p L (n + 5) → y.length ≤ 4 * x.length + 30 → CpOk y → Q (.str y) H'
section
variable {P : Program} {w : World} {K : PySem.W.Frag} {mg : Str → Option Value} {base : Heap}
theorem c_pickS (D : DefAt K mg "_law_pick" s__law_pick) (T : Txt K mg)
    (c__law_draw : Cal P w K mg base 1 "_law_draw" ["pen", "many"] sp_draw) :
    Cal P w K mg base 2 "_law_pick" ["pen", "some"] sp_pickS := by
  refine cal_mk D sc__law_pick (fun _ _ _ _ _ _ _ us hl => match us, hl with | [_, _], _ => rfl)
    (fun vs H Q E h => ?_) (fun f cdv A outer s H vs Q hgu hr h => ?_)
  · obtain ⟨p, L, n, x, rfl, _⟩ := h; rfl
  · obtain ⟨p, L, n, x, rfl, hp, hn, l0, l1, k⟩ := h
    refine ⟨_,
      (pss_one (ps_ret (pe_ix ix_str (pv 1) (pe_cal c__law_draw hgu (hr.mono (by decide)) (pa_cons (pv 0) (pa_cons (pe_callB call_len_str (by rfl) T.f_len (by decide +kernel) (pa_cons (pv 1) pa_nil)) pa_nil))) (fun _ _ => rfl))))
      , ?_⟩
    refine ⟨_, rfl, _, rfl, _, rfl, x, rfl, Nat.le_trans l1 (by decide), ?_⟩
    refine ⟨p, L, n, _, rfl, hp, hn, by omega, log_lt (by omega) (by omega), fun H1 d b1 pn1 d0 d1 => ?_⟩
    obtain ⟨c, hc⟩ : ∃ c, x.cps.toList[d.toNat]? = some c := ⟨_, List.getElem?_eq_getElem (by
      have : x.cps.toList.length = x.length := by simp [Str.length]
      omega)⟩
    have ha : atI x.cps.toList d = some c := by
      have := atI_nat (xs := x.cps.toList) (j := d.toNat) hc
      rwa [Int.toNat_of_nonneg d0] at this
    exact ⟨x, d, c, rfl, rfl, Nat.le_trans l1 (by decide), ha, k _ _ b1 pn1 (List.mem_of_getElem? hc)⟩
theorem c_changed (D : DefAt K mg "_law_changed" s__law_changed) (T : Txt K mg)
    (c__law_draw : Cal P w K mg base 1 "_law_draw" ["pen", "many"] sp_draw)
    (c__law_pickS : Cal P w K mg base 2 "_law_pick" ["pen", "some"] sp_pickS)
    (c__law_pick : Cal P w K mg base 2 "_law_pick" ["pen", "some"] (sp_pick K)) :
    Cal P w K mg base 3 "_law_changed" ["pen", "m", "text"] sp_changed := by
  refine cal_mk D sc__law_changed (fun _ _ _ _ _ _ _ us hl => match us, hl with | [_, _, _], _ => rfl)
    (fun vs H Q E h => ?_) (fun f cdv A outer s H vs Q hgu hr h => ?_)
  · obtain ⟨p, L, n, m, x, rfl, _⟩ := h; rfl
  · obtain ⟨p, L, n, m, x, rfl, hp, hn, m1, m9, hx, cx, k⟩ := h
    refine ⟨_,
      (pss_cons (ps_set (i := 3) sc__law_changed.nd rfl (Or.inl rfl) pe_str)
      (pss_cons (ps_par (i := 4) (j := 5) (by rfl) sc__law_changed.nd rfl rfl (by decide) rfl rfl (pa_cons (pe_cal c__law_draw hgu (hr.mono (by decide)) (pa_cons (pv 0) (pa_cons (pe_op op_add (pe_callB call_len_str (by rfl) T.f_len (by decide +kernel) (pa_cons (pv 2) pa_nil)) pe_int) pa_nil))) (pa_cons (pe_cal c__law_draw hgu (hr.mono (by decide)) (pa_cons (pv 0) (pa_cons pe_int pa_nil))) pa_nil)) (by rfl))
      (pss_cons (ps_if (pt_cmpR op_lt (pv 5) pe_int (nomark _)) (pss_one (ps_ret (pe_op op_add_str (pe_op op_add_str (pe_slice C8.sl_txt (pv 2) po_none (po_some (pv 4))) (pe_cal c__law_pickS hgu (hr.mono (by decide)) (pa_cons (pv 0) (pa_cons (pe_op op_add_str (pv 3) pe_str) pa_nil)))) (pe_slice C8.sl_txt (pv 2) (po_some (pe_op op_add (pv 4) (pv 5))) po_none)))) pss_nil)
      (pss_cons (ps_if (pt_cmpR op_eq (pv 5) pe_int (nomark _)) (pss_one (ps_ret (pe_op op_add_str (pe_slice C8.sl_txt (pv 2) po_none (po_some (pv 4))) (pe_slice C8.sl_txt (pv 2) (po_some (pe_op op_add (pv 4) pe_int)) po_none)))) pss_nil)
      (pss_cons (ps_set (i := 6) sc__law_changed.nd rfl (Or.inl rfl) (pe_lst (pa_consT (pe1_op op_add_str (pv 2)) (pat_cons (pet_replC (pv 2)) (pat_cons (pet_replC (pv 2)) (pat_cons (pet_replC (pv 2)) (pat_cons (PET.of (pe_op op_add_str (pv 2) pe_str)) pat_nil)))))))
      (pss_one (ps_ret (pe_cal c__law_pick hgu (hr.mono (by decide)) (pa_cons (pv 0) (pa_cons (pe_op op_cat (pv 6) (pe_lst (pa_cons (pe_op op_add_str (pe_op op_add_str (pe_callTy call_str_int (by rfl) T.f_str (by decide +kernel) (pa_cons (pe_cal c__law_draw hgu (hr.mono (by decide)) (pa_cons (pv 0) (pa_cons (pe_op op_mul pe_int (pv 1)) pa_nil))) pa_nil)) pe_str) (pe_callTy call_str_int (by rfl) T.f_str (by decide +kernel) (pa_cons (pe_cal c__law_draw hgu (hr.mono (by decide)) (pa_cons (pv 0) (pa_cons (pe_op op_mul pe_int (pv 1)) pa_nil))) pa_nil))) pa_nil))) pa_nil))))))))))
      , ?_⟩
    walk_at "st"
    walk_at "go"
    refine ⟨Nat.le_trans hx (by decide), ?_⟩
    walk_at "go"
    refine w_draw hp (by omega) (by omega) (by omega) fun H1 at_ b1 pn1 at0 at1 => ?_
    walk_at "go"
    refine w_draw pn1 (by omega) (by omega) (by omega) fun H2 way b2 pn2 w0 w1 => ?_
    walk_at "go"
    have big : 1000 ≤ sizeLine := by decide
    refine i_if (fun c => ?_) (fun c => ?_)
    · walk_at "go"
      refine ⟨x, rfl, Nat.le_trans hx (by decide), ?_⟩
      walk_at "go"
      refine ⟨by decide +kernel, ?_⟩
      walk_at "go"
      refine ⟨p, L, _, _, rfl, pn2, by omega, by decide +kernel, by decide +kernel, fun H3 ch b3 pn3 hc => ?_⟩
      have cc : CpOk ⟨#[ch]⟩ := cp_one (cp_app (cp_lit (by decide +kernel)) (cp_lit (by decide +kernel))) hc
      have l1 := Txt.slice_le x none (some at_)
      have lc : (⟨#[ch]⟩ : Str).length = 1 := rfl
      walk_at "go"
      refine ⟨by omega, ?_⟩
      walk_at "go"
      refine ⟨x, rfl, Nat.le_trans hx (by decide), ?_⟩
      have l2 := Txt.slice_le x (some (at_ + way)) none
      have l3 := len_app (Txt.slice x none (some at_)) (⟨#[ch]⟩ : Str)
      walk_at "go"
      refine ⟨by omega, ?_⟩
      walk_at "go"
      refine k _ _ ((b1.trans b2).trans b3) (pn3.mono (by omega)) ?_ (cp_app (cp_app (cp_slice cx) cc) (cp_slice cx))
      rw [len_app]
      omega
    walk_at "go"
    refine i_if (fun c2 => ?_) (fun c2 => ?_)
    · walk_at "go"
      refine ⟨x, rfl, Nat.le_trans hx (by decide), ?_⟩
      have l1 := Txt.slice_le x none (some at_)
      have l2 := Txt.slice_le x (some (at_ + 1)) none
      walk_at "go"
      refine ⟨x, rfl, Nat.le_trans hx (by decide), ?_⟩
      walk_at "go"
      refine ⟨by omega, ?_⟩
      walk_at "go"
      refine k _ _ (b1.trans b2) (pn2.mono (by omega)) ?_ (cp_app (cp_slice cx) (cp_slice cx))
      rw [len_app]
      omega
    walk_at "go"
    have n1 : (Str.ofString "0").length = 1 := by decide +kernel
    refine ⟨by omega, ?_⟩
    walk_at "go"
    refine ⟨_, rfl, x, rfl, Nat.le_trans (Nat.add_le_add hx (Nat.mul_le_mul (Nat.add_le_add_right hx 1) (show (Str.ofString "+ 0").length ≤ 3 by decide +kernel))) (by decide), ?_⟩
    walk_at "go"
    refine ⟨_, rfl, x, rfl, Nat.le_trans (Nat.add_le_add hx (Nat.mul_le_mul (Nat.add_le_add_right hx 1) (show (Str.ofString "+ -").length ≤ 3 by decide +kernel))) (by decide), ?_⟩
    walk_at "go"
    refine ⟨_, rfl, x, rfl, Nat.le_trans (Nat.add_le_add hx (Nat.mul_le_mul (Nat.add_le_add_right hx 1) (show (Str.ofString "y").length ≤ 3 by decide +kernel))) (by decide), ?_⟩
    walk_at "go"
    have n2 : (Str.ofString " ").length = 1 := by decide +kernel
    have n3 : (Str.ofString "*x + ").length = 5 := by decide +kernel
    refine ⟨by omega, ?_⟩
    walk_at "go"
    refine w_newL rfl fun l3 H3 z3 s3 e3 => ?_
    walk_at "go"
    refine w_draw (pn2.same s3) (by omega) (by omega) (by omega) fun H4 d1 b4 pn4 d10 d11 => ?_
    obtain ⟨k1, rfl⟩ : ∃ k : Nat, d1 = (k : Int) := ⟨d1.toNat, by omega⟩
    have h1 := num_len (a := k1) (by omega)
    walk_at "go"
    refine ⟨log_natL (by omega), ?_⟩
    walk_at "go"
    refine ⟨by omega, ?_⟩
    have h2 := len_app (Str.ofString (toString (k1 : Int))) (Str.ofString "*x + ")
    walk_at "go"
    refine w_draw pn4 (by omega) (by omega) (by omega) fun H5 d2 b5 pn5 d20 d21 => ?_
    obtain ⟨k2, rfl⟩ : ∃ k : Nat, d2 = (k : Int) := ⟨d2.toNat, by omega⟩
    have h3 := num_len (a := k2) (by omega)
    walk_at "go"
    refine ⟨log_natL (by omega), ?_⟩
    walk_at "go"
    refine ⟨by omega, ?_⟩
    have h4 := len_app (Str.ofString (toString (k1 : Int)) ++ Str.ofString "*x + ") (Str.ofString (toString (k2 : Int)))
    walk_at "go"
    refine w_newL rfl fun l6 H6 z6 s6 e6 => ?_
    walk_at "go"
    have nl3 : l3 ≠ p := pn2.ne_n z3
    have e36 := s6 _ _ (b5 _ _ nl3 (b4 _ _ nl3 e3))
    refine w_cat e36 e6 (show 5 + 1 ≤ 1000000 by decide) fun l7 H7 z7 s7 e7 => ?_
    have pn6 := pn5.same s6
    walk_at "go"
    refine w_pickL (pn6.same s7) (by omega) (SqL.of e7) (pn6.ne_n z7) (by rfl) (by rfl) fun H8 v b8 pn8 hv => ?_
    have res : ∃ y, v = V.str y ∧ y.length ≤ 4 * x.length + 30 ∧ CpOk y := by
      simp only [List.cons_append, List.nil_append, List.mem_cons, List.mem_nil_iff, or_false] at hv
      have r1 := TK.replace_len x (Str.ofString "+ ") (Str.ofString "+ 0")
      have r2 := TK.replace_len x (Str.ofString "+ ") (Str.ofString "+ -")
      have r3 := TK.replace_len x (Str.ofString "x") (Str.ofString "y")
      rw [show (Str.ofString "+ 0").length = 3 by decide +kernel] at r1
      rw [show (Str.ofString "+ -").length = 3 by decide +kernel] at r2
      rw [show (Str.ofString "y").length = 1 by decide +kernel] at r3
      have a1 := len_app (Str.ofString "0") x
      have a2 := len_app x (Str.ofString " ")
      rcases hv with rfl | rfl | rfl | rfl | rfl | rfl
      · exact ⟨_, rfl, by omega, cp_app (cp_lit (by decide +kernel)) cx⟩
      · exact ⟨_, rfl, by omega, cp_repl (by decide +kernel) cx (cp_lit (by decide +kernel))⟩
      · exact ⟨_, rfl, by omega, cp_repl (by decide +kernel) cx (cp_lit (by decide +kernel))⟩
      · exact ⟨_, rfl, by omega, cp_repl (by decide +kernel) cx (cp_lit (by decide +kernel))⟩
      · exact ⟨_, rfl, by omega, cp_app cx (cp_lit (by decide +kernel))⟩
      · exact ⟨_, rfl, by omega, cp_app (cp_app (cp_num _) (cp_lit (by decide +kernel))) (cp_num _)⟩
    obtain ⟨y, rfl, ly, cy⟩ := res
    walk_at "go"
    exact k _ _ (((((((b1.trans b2).trans (But.of s3)).trans b4).trans b5).trans (But.of s6)).trans (But.of s7)).trans b8) (pn8.mono (by omega)) ly cy
end
end Vg

set_option Elab.async false
set_option linter.all false
set_option maxRecDepth 100000
set_option maxHeartbeats 0
namespace Vg
open PySem PySem.Spec PySem.W PyProof.Rows L2 CwR
-- a ≠ b; a place of a heap; what is kept
local macro_rules | `(tactic| walk_at "nq") => `(tactic| with_reducible first
  | assumption
  | (apply Ne.symm; assumption))
local macro_rules | `(tactic| walk_at "hp") => `(tactic| with_reducible first
  | assumption
  | exact upd_same
  | (refine Eq.trans (upd_ne ?_) ?_; (with_reducible walk_at "nq"); (with_reducible walk_at "hp")))
local macro_rules | `(tactic| walk_at "sm") => `(tactic| with_reducible first
  | assumption
  | exact Same.refl _
  | exact But.refl _ _
  | (refine sm_nw ?_ ?_; rotate_left; (with_reducible assumption); walk_at "sm")
  | (refine But.nw ?_ ?_; rotate_left; (with_reducible assumption); walk_at "sm")
  | (refine sm_own ?_ ?_; rotate_left; (with_reducible assumption); walk_at "sm")
  | (refine But.own ?_ ?_; rotate_left; (with_reducible assumption); walk_at "sm")
  | (refine But.wr ?_; walk_at "sm"))

local macro_rules | `(tactic| walk_at "fx") => `(tactic| with_reducible first
  | assumption
  | (apply SqT.of; walk_at "fx")
  | (apply TpAt.sq; walk_at "fx")
  | (apply SqL.of; walk_at "fx")
  | (apply fx_t; (· assumption); walk_at "fx")
  | (apply fx_l; (· assumption); walk_at "fx")
  | (apply TpAt.of; walk_at "fx")
  | (apply fx_tp; (· assumption); walk_at "fx")
  | (apply fx_pn; (· assumption); walk_at "fx")
  | (apply fx_at; (· assumption); walk_at "fx")
  | (apply fx_tb; (· assumption); (· assumption); walk_at "fx")
  | (apply fx_lb; (· assumption); (· assumption); walk_at "fx")
  | (apply fx_tpb; (· assumption); (· assumption); walk_at "fx")
  | (apply fx_atb; (· assumption); (· assumption); walk_at "fx"))
local macro_rules | `(tactic| walk_at "s1") => `(tactic| first
  | (with_reducible first
    | refine w_seq ?_ | refine w_asg ?_ | refine w_gnameN (by simp only [List.set_cons_succ, List.set_cons_zero]; exact rfl) ?_ | refine w_gname ?_ | refine w_cons ?_ | refine w_nil ?_ | refine w_op ?_ | refine w_c ?_
    | (show Ends.nx _ _ _; refine w_nx ?_) | (show Ends.rt _ _ _; refine w_rt ?_) | refine w_ret ?_ | refine w_call ?_ | refine w_cb ?_ | refine w_next ?_ | refine w_tup ?_ | refine w_lst ?_
    | refine w_add ?_ | refine w_sub ?_ | refine w_lt ?_ | refine w_le ?_ | refine w_gt ?_ | refine w_ge ?_ | refine w_eq ?_ | refine w_ne ?_ | refine w_eqS ?_ | refine w_neS ?_ | refine w_neB ?_ | refine w_pow9 ?_ | refine w_pow6 ?_ | refine w_pow8 ?_ | refine w_pow18 ?_ | refine w_eqB ?_ | refine w_chain ?_ | refine w_notV ?_ | refine w_neg ?_ | refine w_un ?_
    | refine w_test ?_ | refine w_tB ?_ | refine w_ifS ?_ | refine w_and ?_ | refine w_or ?_ | refine w_not ?_ | refine w_tif ?_ | refine w_par ?_ | refine w_par3 ?_
    | refine w_gcons ?_ | refine w_gnil ?_ | refine w_drop ?_ | refine w_retN ?_ | refine w_brk ?_ | refine w_cnt ?_ | (show Ends.bk _ _ _; refine w_bk ?_) | (show Ends.ct _ _ _; refine w_ct ?_) | refine w_for ?_ | refine w_rng1 ?_ | refine w_lc ?_ | refine w_yes ?_ | refine w_bm ?_ | refine w_sl ?_ | refine w_noPart ?_ | refine w_part ?_ | refine w_itup ?_ | refine w_ilst ?_
    | refine And.intro rfl ?_ | refine i_nn ?_ | refine i_rn ?_ | refine i_in ?_ | refine i_nn' ?_ | refine i_rn' ?_ | refine i_in' ?_ | refine i_ff ?_ | refine i_tt ?_ | refine i_nt ?_ | refine i_nf ?_
    | refine ⟨_, rfl, ?_⟩ | refine ⟨_, _, rfl, ?_⟩ | refine ⟨_, _, _, rfl, ?_⟩ | refine ⟨_, _, rfl, rfl, ?_⟩)
  | ((with_reducible show tVar _ _ _ _); refine w_var rfl ?_)
  | (with_reducible refine w_mulL (by omega) (by omega) ?_)
  | (with_reducible refine w_mulR (by omega) (by omega) ?_)
  | (with_reducible refine w_modN (by omega) ?_)
  | (with_reducible refine w_fdivN (by omega) (by omega) ?_)
  | (with_reducible refine w_fdivW (by omega) (by omega) ?_)
  | ((with_reducible apply w_gtup); (· walk_at "fx"); (· with_unfolding_all rfl); (· with_unfolding_all rfl))
  | ((with_reducible apply w_tyL); (· walk_at "fx"); (· with_unfolding_all rfl))
  | ((with_reducible apply w_ixT); (· walk_at "fx"); (· with_unfolding_all rfl); (· with_unfolding_all rfl)))
local macro_rules | `(tactic| walk_at "st") => `(tactic| simp only [L2.start, List.length_cons, List.length_nil, Nat.reduceAdd, Nat.reduceSub, List.map_cons, List.map_nil, List.reduceReplicate, List.cons_append, List.nil_append, Nat.sub_zero, Nat.zero_add])
local macro_rules | `(tactic| walk_at "go") => `(tactic| repeat walk_at "s1")

def NoStr (K : PySem.W.Frag) (H : Hp) (v : V) : Prop := ∃ t, TyX K H v t ∧ PySem.W.kitOne K t (.type "str") = some false
def sp_law (K : PySem.W.Frag) : Sp := fun vs H Q _ => ∃ (a : Addr) (ns : List Int), vs = [.ref a] ∧ SqL K H a (ns.map V.int) ∧ ns.length ≤ 63 ∧
  ∀ H', Q (.bl true) H'
theorem rp_txt {K : PySem.W.Frag} {H : Hp} {x : Str} (hx : x.length ≤ 1000) (cx : CpOk x) : Rp K H (.str x) (.str x) := by
  refine ⟨Dp.str x, by simp only [PyData.showable], by simp [PyData.depth], ?_⟩
  rw [PyData.shown_str]
  have := PySem.StrLaws.reprText_len x fun c hc => Nat.lt_of_lt_of_le (cx c hc) (by decide)
  exact Nat.le_trans (Nat.le_trans this (show 10 * x.length + 2 ≤ 10002 by omega)) (by decide)
theorem mapT_fmt {m x y : Nat} (hx : x < m) (hy : y < m) (hg : Nat.gcd x m = 1) : mapT m (TL.numL x ++ sepL ++ TL.numL y) = some (x, y) := by
  have nf : (42 : Nat) ∉ TL.numL x := TL.numL_free (by decide)
  have e := SX.par_head (c := 42) (sep := [120, 32, 43, 32]) (p := TL.numL x) (TL.numL y) nf
  unfold mapT
  rw [List.append_assoc, sepL_eq]
  rw [show TL.numL x ++ ([42, 120, 32, 43, 32] ++ TL.numL y) = TL.numL x ++ (42 :: [120, 32, 43, 32] ++ TL.numL y) from rfl, e]
  dsimp only
  rw [numW_num, numW_num]
  dsimp only
  rw [if_pos ⟨hx, hy, hg⟩]
section
variable {P : Program} {w : World} {K : PySem.W.Frag} {mg : Str → Option Value} {base : Heap}
abbrev lawN : List Str := ["script", "pen", "bout", "m", "f", "text", "some", "k", "other", "due", "value"]
theorem body_law (T : Txt K mg)
    (c__law_pen : Cal P w K mg base 1 "_law_pen" ["script"] (sp_pen K))
    (c__law_draw : Cal P w K mg base 1 "_law_draw" ["pen", "many"] sp_draw)
    (c__law_pick : Cal P w K mg base 2 "_law_pick" ["pen", "some"] (sp_pick K))
    (c__law_modulus : Cal P w K mg base 3 "_law_modulus" ["pen", "most"] sp_modulus)
    (c__law_map : Cal P w K mg base 4 "_law_map" ["pen", "m"] sp_lmap)
    (c__law_changed : Cal P w K mg base 3 "_law_changed" ["pen", "m", "text"] sp_changed)
    (c__law_parsed : Cal P w K mg base 2 "_law_parsed" ["m", "text"] (sp_parsed K))
    (c__law_got : Cal P w K mg base 5 "_law_got" ["m", "value"] (sp_got K))
    (c_format_map : Cal P w K mg base 1 "format_map" ["f"] (sp_fmt K))
    (c_parse_map : CalX P w K mg base 4 "parse_map" ["m", "text"] (sp_parse K (He.ga K "InvalidText")))
    (f : Addr) (cdv : Value) (A : Around) (outer : List Env) (s : Shared) (H : Hp) (vs : List V) (Q : VK)
    (hgu : (Cb P w K mg base lawN "law" (defScope s_law) f cdv A outer s H).A.guards = some [])
    (hr : Room 6 (Cb P w K mg base lawN "law" (defScope s_law) f cdv A outer s H).A)
    (h : sp_law K vs H Q E0) :
    ∃ t, PSs (Cb P w K mg base lawN "law" (defScope s_law) f cdv A outer s H).nox (defBody s_law) t ∧
        t { nx := fun _ H' => Q .non H', rt := Q } (start lawN vs) H := by
  obtain ⟨a, ns, rfl, hS, hl, k⟩ := h
  refine ⟨_,
    (pss_cons (ps_set (i := 1) sc_law.nd rfl (Or.inl rfl) (pe_cal c__law_pen hgu (hr.mono (by decide)) (pa_cons (pv 0) pa_nil)))
      (pss_cons (ps_for PassesOwn.never rfl (pi_range1 (by rfl) T.f_range (pa_cons (pe_op op_add pe_int (pe_callB (call_min2 rfl) (by rfl) T.f_min (by decide +kernel) (pa_cons pe_int (pa_cons (pe_callB call_len_seq (by rfl) T.f_len (by decide +kernel) (pa_cons (pv 0) pa_nil)) pa_nil)))) pa_nil)) (pg_name (i := 2) sc_law.nd rfl (Or.inl rfl))
        (pss_cons (ps_set (i := 3) sc_law.nd rfl (Or.inl rfl) (pe_cal c__law_modulus hgu (hr.mono (by decide)) (pa_cons (pv 1) (pa_cons (pe_cal c__law_pick hgu (hr.mono (by decide)) (pa_cons (pv 1) (pa_cons (pe_lst (pa_cons pe_int (pa_cons pe_int (pa_cons (pe_op op_pow pe_int pe_int) pa_nil)))) pa_nil))) pa_nil))))
        (pss_cons (ps_set (i := 4) sc_law.nd rfl (Or.inl rfl) (pe_cal c__law_map hgu (hr.mono (by decide)) (pa_cons (pv 1) (pa_cons (pv 3) pa_nil))))
        (pss_cons (ps_set (i := 5) sc_law.nd rfl (Or.inl rfl) (pe_cal c_format_map hgu (hr.mono (by decide)) (pa_cons (pv 4) pa_nil)))
        (pss_cons (ps_if (PW.pt (pw_or (pt_cmpR op_ne (pe_callB (call_repr hgu hr.units) (by rfl) T.f_repr (by decide +kernel) (pa_cons (pv 5) pa_nil)) (pe_callB (call_repr hgu hr.units) (by rfl) T.f_repr (by decide +kernel) (pa_cons (pe_op op_add_str (pe_op op_add_str (pe_callTy call_str_int (by rfl) T.f_str (by decide +kernel) (pa_cons (pe_ix ix_tup (pv 4) pe_int (fun _ _ => rfl)) pa_nil)) pe_str) (pe_callTy call_str_int (by rfl) T.f_str (by decide +kernel) (pa_cons (pe_ix ix_tup (pv 4) pe_int (fun _ _ => rfl)) pa_nil))) pa_nil)) (nomark _)) (pw_or1 (pt_cmpR op_ne (pe_callB (call_repr hgu hr.units) (by rfl) T.f_repr (by decide +kernel) (pa_cons (pe_calX c_parse_map takes0 hgu (hr.mono (by decide)) (pa_cons (pv 3) (pa_cons (pv 5) pa_nil))) pa_nil)) (pe_callB (call_repr hgu hr.units) (by rfl) T.f_repr (by decide +kernel) (pa_cons (pv 4) pa_nil)) (nomark _))))) (pss_one (ps_ret pe_bl)) pss_nil)
        (pss_cons (ps_set (i := 6) sc_law.nd rfl (Or.inl rfl) (pe_lst (pa_consT pe1_str (pat_cons (PET.of pe_str) (pat_cons (PET.of pe_str) (pat_cons (PET.of pe_str) (pat_cons (PET.of (pe_op op_add_str (pv 5) (pv 5))) (pat_cons (pet_replC (pv 5)) (pat_cons (pet_replC (pv 5)) pat_nil)))))))))
        (pss_cons (ps_for PassesOwn.never rfl (pi_range1 (by rfl) T.f_range (pa_cons pe_int pa_nil)) (pg_name (i := 7) sc_law.nd rfl (Or.inl rfl))
          (pss_cons (ps_expr (pe_bm PySem.F.plainAttrs_list PySem.F.slot_list_append PySem.F.type_list_append mt_append (pv 6) (pa_cons (pe_cal c__law_changed hgu (hr.mono (by decide)) (pa_cons (pv 1) (pa_cons (pv 3) (pa_cons (pv 5) pa_nil)))) pa_nil)))
          (pss_one (ps_expr (pe_bm PySem.F.plainAttrs_list PySem.F.slot_list_append PySem.F.type_list_append mt_append (pv 6) (pa_cons (pe_cal c__law_changed hgu (hr.mono (by decide)) (pa_cons (pv 1) (pa_cons (pv 3) (pa_cons (pe_ix ix_list (pv 6) (pe_un un_neg pe_int) (fun _ _ => rfl)) pa_nil)))) pa_nil))))))
        (pss_cons (ps_for PassesOwn.never rfl (pi_list (pv 6)) (pg_name (i := 8) sc_law.nd rfl (Or.inl rfl))
          (pss_cons (ps_set (i := 9) sc_law.nd rfl (Or.inl rfl) (pe_cal c__law_parsed hgu (hr.mono (by decide)) (pa_cons (pv 3) (pa_cons (pv 8) pa_nil))))
          (pss_one (ps_if (pt_cmpR op_ne (pe_callB (call_repr hgu hr.units) (by rfl) T.f_repr (by decide +kernel) (pa_cons (pe_cal c__law_got hgu (hr.mono (by decide)) (pa_cons (pv 3) (pa_cons (pv 8) pa_nil))) pa_nil)) (pe_callB (call_repr hgu hr.units) (by rfl) T.f_repr (by decide +kernel) (pa_cons (pe_ifExp (pt_cmpR op_isN (pv 9) pe_non (nomark _)) (pe_lst (pa_cons pe_int pa_nil)) (pv 9)) pa_nil)) (nomark _)) (pss_one (ps_ret pe_bl)) pss_nil))))
        (pss_one (ps_for PassesOwn.never rfl (pi_list (pe_lst (pa_cons pe_non (pa_cons pe_int (pa_cons pe_bl (pa_cons (pv 4) (pa_cons (pe_lst (pa_cons (pv 5) pa_nil)) (pa_cons pe_dnewK (pa_cons (pe_tup (pa_cons (pv 5) pa_nil)) pa_nil))))))))) (pg_name (i := 10) sc_law.nd rfl (Or.inl rfl))
            (pss_one (ps_if (pt_cmpR op_ne (pe_callB (call_repr hgu hr.units) (by rfl) T.f_repr (by decide +kernel) (pa_cons (pe_cal c__law_got hgu (hr.mono (by decide)) (pa_cons (pv 3) (pa_cons (pv 10) pa_nil))) pa_nil)) pe_str (nomark _)) (pss_one (ps_ret pe_bl)) pss_nil))))))))))))
      (pss_one (ps_ret pe_bl))))
    , ?_⟩
  simp only [lawN]
  walk_at "st"
  walk_at "go"
  refine w_pen hS hl fun H1 p L s1 p0 L0 pn1 => ?_
  walk_at "go"
  refine ⟨_, _, rfl, .inl (s1.seq hS), ?_⟩
  walk_at "go"
  refine ⟨by rw [List.length_map]; split <;> omega, by rw [List.length_map]; split <;> omega, for_range (n := (4 + (if ((ns.map V.int).length : Int) < 8 then ((ns.map V.int).length : Int) else 8)).toNat)
    (fun i σ' H' => ∃ (o2 o3 o4 o5 o6 o7 o8 o9 oa : Option V), σ' = [some (.ref a), some (.ref p), o2, o3, o4, o5, o6, o7, o8, o9, oa] ∧ PenAt H' p L (i * 1000)) ?_ ?_ ?_⟩
  · exact ⟨none, none, none, none, none, none, none, none, none, rfl, pn1⟩
  · rintro i σ' H' hi ⟨o2, o3, o4, o5, o6, o7, o8, o9, oa, rfl, pn2⟩
    have hi2 : i < 12 := by
      rw [List.length_map] at hi
      split at hi <;> omega
    walk_at "go"
    refine w_newL rfl fun l3 H3 z3 s3 e3 => ?_
    walk_at "go"
    refine w_pickL (pn2.same s3) (by omega) (SqL.of e3) (pn2.ne_n z3) (by rfl) (by rfl) fun H4 v b4 pn4 hv => ?_
    obtain ⟨M, rfl, M2, M9⟩ : ∃ M : Int, v = V.int M ∧ 2 ≤ M ∧ M ≤ 1000000000 := by
      simp only [List.mem_cons, List.mem_nil_iff, or_false] at hv
      rcases hv with rfl | rfl | rfl
      · exact ⟨_, rfl, by decide, by decide⟩
      · exact ⟨_, rfl, by decide, by decide⟩
      · exact ⟨_, rfl, by decide, by decide⟩
    walk_at "go"
    refine w_modulus pn4 (by omega) M2 M9 fun H5 m b5 pn5 m2 m4 hsm => ?_
    have m9 : m ≤ 1000000000 := by omega
    walk_at "go"
    refine w_lmapE pn5 (by omega) m2 m9 fun H6 tf f b6 pn6 okf _ ntf gf => ?_
    have fb := okf.bd
    obtain ⟨mn, rfl⟩ : ∃ n : Nat, m = (n : Int) := ⟨m.toNat, by omega⟩
    obtain ⟨f1, f2⟩ := f
    obtain ⟨u, rfl⟩ : ∃ n : Nat, f1 = (n : Int) := ⟨f1.toNat, by have := fb.1; dsimp only at this; omega⟩
    obtain ⟨y, rfl⟩ : ∃ n : Nat, f2 = (n : Int) := ⟨f2.toNat, by have := fb.2.2.1; dsimp only at this; omega⟩
    dsimp only at fb gf
    walk_at "go"
    have hgc : Nat.gcd u mn = 1 := by
      have : ((Nat.gcd u mn : Nat) : Int) = 1 := okf.u.2.2
      omega
    refine ⟨tf, u, y, rfl, SqT.of gf, by omega, by omega, fun x ex => ?_⟩
    have exx : x = Str.ofString (toString (u : Int)) ++ Str.ofString "*x + " ++ Str.ofString (toString (y : Int)) := TL.ext_tl (by
      rw [ex, TL.tl_append, TL.tl_append, TL.tl_num, TL.tl_num]
      rfl)
    have cx : CpOk x := by
      rw [exx]
      exact cp_app (cp_app (cp_num _) (cp_lit (by decide +kernel))) (cp_num _)
    have hu := num_len (a := u) (by omega)
    have hy := num_len (a := y) (by omega)
    have n3 : (Str.ofString "*x + ").length = 5 := by decide +kernel
    have h2 := len_app (Str.ofString (toString (u : Int))) (Str.ofString "*x + ")
    have h4 := len_app (Str.ofString (toString (u : Int)) ++ Str.ofString "*x + ") (Str.ofString (toString (y : Int)))
    have lx : x.length ≤ 25 := by
      rw [exx]
      omega
    have big : 1000 ≤ sizeLine := by decide
    walk_at "go"
    refine w_repr (rp_txt (by omega) cx) ?_
    walk_at "go"
    refine ⟨log_natL (by omega), ?_⟩
    walk_at "go"
    refine ⟨by omega, ?_⟩
    walk_at "go"
    refine ⟨log_natL (by omega), ?_⟩
    walk_at "go"
    refine ⟨by omega, ?_⟩
    rw [← exx]
    walk_at "go"
    refine w_repr (rp_txt (by omega) cx) ?_
    walk_at "go"
    rw [decide_eq_true rfl]
    walk_at "go"
    have em : mapT mn (TL.tl x) = some (u, y) := by
      rw [ex]
      exact mapT_fmt (by omega) (by omega) hgc
    refine ⟨_, rfl, _, rfl, mn, .str x, rfl, by omega, by omega, .inr ⟨x, rfl, by omega, fun a' b' e' H7 q7 s7 z7 e7 => ?_, fun e' => absurd (em.symm.trans e') (by simp)⟩⟩
    obtain ⟨rfl, rfl⟩ : u = a' ∧ y = b' := by
      rw [em] at e'
      cases e'
      exact ⟨rfl, rfl⟩
    have gf7 := s7 _ _ gf
    have pn7 := pn6.same s7
    walk_at "go"
    refine w_repr (rp_tup2 (SqT.of e7) (by omega) (by omega)) ?_
    walk_at "go"
    refine w_repr (rp_tup2 (SqT.of gf7) (by omega) (by omega)) ?_
    walk_at "go"
    rw [decide_eq_true rfl]
    walk_at "go"
    have d2 := len_app x x
    refine ⟨by omega, ?_⟩
    walk_at "go"
    refine ⟨_, rfl, x, rfl, ?_, ?_⟩
    · rw [show (Str.ofString "").length = 0 by decide +kernel]
      omega
    walk_at "go"
    refine ⟨_, rfl, x, rfl, ?_, ?_⟩
    · rw [show (Str.ofString "").length = 0 by decide +kernel]
      omega
    walk_at "go"
    refine w_newL rfl fun l8 H8 z8 s8 e8 => ?_
    walk_at "go"
    have nl8 : l8 ≠ p := pn7.ne_n z8
    have nL8 : l8 ≠ L := pn7.ne_nL z8
    have ntl : tf ≠ l8 := fun z => by
      rw [z, z8] at gf7
      cases gf7
    have gf8 := s8 _ _ gf7
    refine ⟨by decide, by decide, for_range (n := 7)
      (fun j σ' H' => ∃ (r7 r8 r9 ra : Option V) (ys : List Str), σ' = [some (.ref a), some (.ref p), some (.int (0 + i)), some (.int mn), some (.ref tf), some (.str x), some (.ref l8), r7, r8, r9, ra] ∧
        PenAt H' p L (i * 1000 + 1 + 20 + 6 + j * 10) ∧ H' tf = some (.tup [.int u, .int y]) ∧ H' l8 = some (.lst (ys.map V.str)) ∧ ys.length = 7 + 2 * j ∧ ∀ z ∈ ys, z.length ≤ 600 ∧ CpOk z) ?_ ?_ ?_⟩
    · refine ⟨_, _, _, _, [_, _, _, _, _, _, _], rfl, pn7.same s8, gf8, e8, rfl, fun z hz => ?_⟩
      simp only [List.mem_cons, List.mem_nil_iff, or_false] at hz
      have r1 := TK.replace_len x (Str.ofString "*x") (Str.ofString "")
      have r2 := TK.replace_len x (Str.ofString " ") (Str.ofString "")
      rw [show (Str.ofString "").length = 0 by decide +kernel] at r1 r2
      rcases hz with rfl | rfl | rfl | rfl | rfl | rfl | rfl
      · exact ⟨by decide +kernel, cp_lit (by decide +kernel)⟩
      · exact ⟨by decide +kernel, cp_lit (by decide +kernel)⟩
      · exact ⟨by decide +kernel, cp_lit (by decide +kernel)⟩
      · exact ⟨by decide +kernel, cp_lit (by decide +kernel)⟩
      · exact ⟨by omega, cp_app cx cx⟩
      · exact ⟨by omega, cp_repl (by decide +kernel) cx (cp_lit (by decide +kernel))⟩
      · exact ⟨by omega, cp_repl (by decide +kernel) cx (cp_lit (by decide +kernel))⟩
    · rintro j σ' H9 hj ⟨r7, r8, r9, ra, ys, rfl, pn9, gf9, e9, ly, hys⟩
      walk_at "go"
      refine ⟨p, L, _, mn, x, rfl, pn9, by omega, by omega, by omega, by omega, cx, fun H10 y1 b10 pn10 ly1 cy1 => ?_⟩
      have e10 := b10 _ _ nl8 e9
      have gf10 := b10 _ _ ntf gf9
      walk_at "go"
      refine w_append e10 (by rw [List.length_map]; omega) ?_
      have e11 : (upd H10 l8 (.lst (ys.map V.str ++ [V.str y1]))) l8 = some (.lst ((ys ++ [y1]).map V.str)) := by
        rw [upd_same, List.map_append]
        rfl
      have pn11 : PenAt (upd H10 l8 (.lst (ys.map V.str ++ [V.str y1]))) p L (i * 1000 + 1 + 20 + 6 + j * 10 + 5) := pn10.wr nl8 nL8
      have gf11 : (upd H10 l8 (.lst (ys.map V.str ++ [V.str y1]))) tf = some (.tup [.int u, .int y]) := (upd_ne ntl).trans gf10
      generalize upd H10 l8 (.lst (ys.map V.str ++ [V.str y1])) = H11 at e11 pn11 gf11 ⊢
      walk_at "go"
      refine w_ixL (SqL.of e11) (by rw [List.map_append]; exact atI_last _ _) ?_
      walk_at "go"
      refine ⟨p, L, _, mn, y1, rfl, pn11, by omega, by omega, by omega, by omega, cy1, fun H12 y2 b12 pn12 ly2 cy2 => ?_⟩
      have e12 := b12 _ _ nl8 e11
      have gf12 := b12 _ _ ntf gf11
      walk_at "go"
      refine w_append e12 (by rw [List.length_map, List.length_append, List.length_singleton]; omega) ?_
      walk_at "go"
      refine ⟨_, _, _, _, ys ++ [y1] ++ [y2], rfl, (pn12.wr nl8 nL8).mono (by omega), (upd_ne ntl).trans gf12, ?_, ?_, fun z hz => ?_⟩
      · rw [upd_same, List.map_append (l₁ := ys ++ [y1])]
        rfl
      · rw [List.length_append, List.length_append, ly, List.length_singleton, List.length_singleton]
        omega
      · rcases List.mem_append.mp hz with hz | hz
        · rcases List.mem_append.mp hz with hz | hz
          · exact hys z hz
          · rw [List.mem_singleton.mp hz]
            exact ⟨by omega, cy1⟩
        · rw [List.mem_singleton.mp hz]
          exact ⟨by omega, cy2⟩
    · rintro σ' H9 ⟨r7, r8, r9, ra, ys, rfl, pn9, gf9, e9, ly, hys⟩
      walk_at "go"
      refine ⟨⟨_, SqL.of e9⟩, for_list (K := K) (a := l8) (xs := ys.map V.str)
        (fun j σ' H' => ∃ (r7 r8 r9 ra : Option V), σ' = [some (.ref a), some (.ref p), some (.int (0 + i)), some (.int mn), some (.ref tf), some (.str x), some (.ref l8), r7, r8, r9, ra] ∧ Same H9 H') ?_ ?_ ?_ ?_⟩
      · exact ⟨_, _, _, _, rfl, Same.refl _⟩
      · rintro j σ' H' _ ⟨r7, r8, r9, ra, rfl, sm⟩
        exact SqL.of (sm _ _ e9)
      · rintro j v σ' H' hj ⟨r7, r8, r9, ra, rfl, sm⟩
        obtain ⟨z, hz, rfl⟩ := List.mem_map.mp (List.mem_of_getElem? hj)
        obtain ⟨lz, cz⟩ := hys z hz
        walk_at "go"
        refine ⟨mn, z, rfl, by omega, by omega, lz, cz, fun a' b' e' H10 q10 s10 e10 => ?_, fun e' H10 s10 => ?_⟩
        · obtain ⟨_, ba, bb, _⟩ := mapT_spl e'
          walk_at "go"
          refine ⟨mn, .str z, rfl, by omega, by omega, .inr ⟨z, rfl, lz, fun a2 b2 e2 H11 q11 s11 e11 => ?_, fun e2 => absurd (e'.symm.trans e2) (by simp)⟩⟩
          obtain ⟨rfl, rfl⟩ : a' = a2 ∧ b' = b2 := by
            rw [e'] at e2
            cases e2
            exact ⟨rfl, rfl⟩
          walk_at "go"
          refine w_repr (rp_tup2 (SqT.of e11) (by omega) (by omega)) ?_
          walk_at "go"
          refine w_repr (rp_tup2 (SqT.of (s11 _ _ e10)) (by omega) (by omega)) ?_
          walk_at "go"
          rw [decide_eq_true rfl]
          walk_at "go"
          exact ⟨_, _, _, _, rfl, sm.trans (s10.trans s11)⟩
        · walk_at "go"
          refine ⟨mn, .str z, rfl, by omega, by omega, .inr ⟨z, rfl, lz, fun a2 b2 e2 => absurd (e'.symm.trans e2) (by simp), fun _ H11 l11 s11 e11 => ?_⟩⟩
          walk_at "go"
          refine w_repr (rp_ints (ns := [0]) (SqL.of e11) (by simp) (by simp)) ?_
          walk_at "go"
          refine w_newL rfl fun l12 H12 z12 s12 e12 => ?_
          walk_at "go"
          refine w_repr (rp_ints (ns := [0]) (SqL.of e12) (by simp) (by simp)) ?_
          walk_at "go"
          rw [decide_eq_true rfl]
          walk_at "go"
          exact ⟨_, _, _, _, rfl, sm.trans (s10.trans (s11.trans s12))⟩
      · rintro σ' H10 ⟨r7, r8, r9, ra, rfl, sm⟩
        have gf10 := sm _ _ gf9
        have pn10 := pn9.same sm
        walk_at "go"
        refine w_newL rfl fun l12 H12 z12 s12 e12 => ?_
        walk_at "go"
        refine w_dnew fun d13 H13 z13 s13 e13 => ?_
        walk_at "go"
        refine w_newT rfl fun t14 H14 z14 s14 e14 => ?_
        walk_at "go"
        refine w_newL rfl fun l15 H15 z15 s15 e15 => ?_
        walk_at "go"
        have s15' : Same H10 H15 := s12.trans (s13.trans (s14.trans s15))
        have gf15 := s15' _ _ gf10
        have nos : ∀ v ∈ [V.non, V.int 0, V.bl true, V.ref tf, V.ref l12, V.ref d13, V.ref t14], NoStr K H15 v := fun v hv => by
          simp only [List.mem_cons, List.mem_nil_iff, or_false] at hv
          rcases hv with rfl | rfl | rfl | rfl | rfl | rfl | rfl
          · exact ⟨_, .base .non, kit_ty (by decide +kernel)⟩
          · exact ⟨_, .base (.int 0), kit_ty (by decide +kernel)⟩
          · exact ⟨_, .base (.bl true), kit_ty (by decide +kernel)⟩
          · exact ⟨_, .base (.tup gf15), kit_ty (by decide +kernel)⟩
          · exact ⟨_, .base (.lst (s15 _ _ (s14 _ _ (s13 _ _ e12)))), kit_ty (by decide +kernel)⟩
          · exact ⟨_, .base (.dK (s15 _ _ (s14 _ _ e13))), kit_ty (by decide +kernel)⟩
          · exact ⟨_, .base (.tup (s15 _ _ e14)), kit_ty (by decide +kernel)⟩
        generalize [V.non, V.int 0, V.bl true, V.ref tf, V.ref l12, V.ref d13, V.ref t14] = vs at e15 nos
        refine ⟨⟨_, SqL.of e15⟩, for_list (K := K) (a := l15) (xs := vs)
          (fun j σ' H' => ∃ (r7 r8 r9 ra : Option V), σ' = [some (.ref a), some (.ref p), some (.int (0 + i)), some (.int mn), some (.ref tf), some (.str x), some (.ref l8), r7, r8, r9, ra] ∧ Same H15 H') ?_ ?_ ?_ ?_⟩
        · exact ⟨_, _, _, _, rfl, Same.refl _⟩
        · rintro j σ' H' _ ⟨r7, r8, r9, ra, rfl, sm⟩
          exact SqL.of (sm _ _ e15)
        · rintro j v σ' H' hj ⟨r7, r8, r9, ra, rfl, sm⟩
          obtain ⟨t, ty, kt⟩ := nos v (List.mem_of_getElem? hj)
          walk_at "go"
          refine ⟨mn, v, rfl, by omega, by omega, .inl ⟨t, tyx_same sm ty, kt, fun H16 l16 s16 e16 => ?_⟩⟩
          walk_at "go"
          refine w_repr (rp_ints (ns := [0]) (SqL.of e16) (by simp) (by simp)) ?_
          walk_at "go"
          rw [decide_eq_true (show (PyData.list ([(0 : Int)].map PyData.int)).shown = Str.ofString "[0]" by decide +kernel)]
          walk_at "go"
          exact ⟨_, _, _, _, rfl, sm.trans s16⟩
        · rintro σ' H16 ⟨r7, r8, r9, ra, rfl, sm⟩
          walk_at "go"
          exact ⟨_, _, _, _, _, _, _, _, _, rfl, (pn10.same (s15'.trans sm)).mono (by omega)⟩
  · rintro σ' H' ⟨o2, o3, o4, o5, o6, o7, o8, o9, oa, rfl, pn⟩
    walk_at "go"
    exact k _
end
end Vg

set_option Elab.async false
set_option linter.all false
set_option maxRecDepth 100000
set_option maxHeartbeats 0
namespace Vg
open PySem PySem.Spec PyProof.Rows L2
def fn : List He.DefD := [dOf "is_whole" s_is_whole,
  dOf "is_between" s_is_between,
  dOf "read_number" s_read_number,
  dOf "is_map" s_is_map,
  dOf "format_map" s_format_map,
  dOf "parse_map" s_parse_map,
  dOf "_law_pen" s__law_pen,
  dOf "_law_draw" s__law_draw,
  dOf "_law_pick" s__law_pick,
  dOf "_law_shuffled" s__law_shuffled,
  dOf "_law_gcd" s__law_gcd,
  dOf "_law_modulus" s__law_modulus,
  dOf "_law_divisors" s__law_divisors,
  dOf "_law_unit" s__law_unit,
  dOf "_law_map" s__law_map,
  dOf "_law_parsed" s__law_parsed,
  dOf "_law_got" s__law_got,
  dOf "_law_changed" s__law_changed,
  dOf "law" s_law,
  ⟨("InvalidText", some "__init__"), "__init__", "InvalidText.__init__", defArgs s_InvalidText___init__, defBody s_InvalidText___init__, defScope s_InvalidText___init__, [], []⟩,
  ⟨("InvalidStep", some "__init__"), "__init__", "InvalidStep.__init__", defArgs s_InvalidStep___init__, defBody s_InvalidStep___init__, defScope s_InvalidStep___init__, [], []⟩,
  ⟨("InvalidPath", some "__init__"), "__init__", "InvalidPath.__init__", defArgs s_InvalidPath___init__, defBody s_InvalidPath___init__, defScope s_InvalidPath___init__, [], []⟩]
def fs : List (PySem.W.Frag → Bool) := [fun K => (He.Fa.glo "is_whole").ok K,
  fun K => (He.Fa.glo "is_between").ok K,
  fun K => (He.Fa.glo "read_number").ok K,
  fun K => (He.Fa.glo "is_map").ok K,
  fun K => (He.Fa.glo "format_map").ok K,
  fun K => (He.Fa.glo "parse_map").ok K,
  fun K => (He.Fa.glo "_law_pen").ok K,
  fun K => (He.Fa.glo "_law_draw").ok K,
  fun K => (He.Fa.glo "_law_pick").ok K,
  fun K => (He.Fa.glo "_law_shuffled").ok K,
  fun K => (He.Fa.glo "_law_gcd").ok K,
  fun K => (He.Fa.glo "_law_modulus").ok K,
  fun K => (He.Fa.glo "_law_divisors").ok K,
  fun K => (He.Fa.glo "_law_unit").ok K,
  fun K => (He.Fa.glo "_law_map").ok K,
  fun K => (He.Fa.glo "_law_parsed").ok K,
  fun K => (He.Fa.glo "_law_got").ok K,
  fun K => (He.Fa.glo "_law_changed").ok K,
  fun K => (He.Fa.glo "law").ok K,
  fun K => (He.Fa.free "ValueError").ok K,
  fun K => (He.Fa.free "abs").ok K,
  fun K => (He.Fa.free "all").ok K,
  fun K => (He.Fa.free "bool").ok K,
  fun K => bltB K "gcd" "math.gcd",
  fun K => (He.Fa.free "int").ok K,
  fun K => (He.Fa.free "isinstance").ok K,
  fun K => (He.Fa.free "len").ok K,
  fun K => (He.Fa.free "list").ok K,
  fun K => (He.Fa.free "max").ok K,
  fun K => (He.Fa.free "min").ok K,
  fun K => (He.Fa.free "range").ok K,
  fun K => (He.Fa.free "repr").ok K,
  fun K => (He.Fa.free "sorted").ok K,
  fun K => (He.Fa.free "str").ok K,
  fun K => (He.Fa.free "tuple").ok K,
  fun K => (He.Fa.str "DIGITS" "0123456789").ok K,
  fun K => (He.Fa.glo "InvalidText").ok K,
  fun K => ecB K (He.ga K "InvalidText") (He.ma K (He.ga K "InvalidText") "__init__") ["line"],
  fun K => decide (PySem.W.kitOne K (.ref (He.ga K "InvalidText")) (.type "ValueError") = some true),
  fun K => decide (PySem.W.kitOne K (.ref (He.ga K "InvalidText")) (.ref (He.ga K "InvalidStep")) = some false),
  fun K => decide (PySem.W.kitOne K (.ref (He.ga K "InvalidText")) (.ref (He.ga K "InvalidPath")) = some false),
  fun K => (He.Fa.glo "InvalidStep").ok K,
  fun K => ecB K (He.ga K "InvalidStep") (He.ma K (He.ga K "InvalidStep") "__init__") ["reason"],
  fun K => decide (PySem.W.kitOne K (.ref (He.ga K "InvalidStep")) (.type "ValueError") = some true),
  fun K => decide (PySem.W.kitOne K (.ref (He.ga K "InvalidStep")) (.ref (He.ga K "InvalidText")) = some false),
  fun K => decide (PySem.W.kitOne K (.ref (He.ga K "InvalidStep")) (.ref (He.ga K "InvalidPath")) = some false),
  fun K => (He.Fa.glo "InvalidPath").ok K,
  fun K => ecB K (He.ga K "InvalidPath") (He.ma K (He.ga K "InvalidPath") "__init__") ["index", "reason"],
  fun K => decide (PySem.W.kitOne K (.ref (He.ga K "InvalidPath")) (.type "ValueError") = some true),
  fun K => decide (PySem.W.kitOne K (.ref (He.ga K "InvalidPath")) (.ref (He.ga K "InvalidText")) = some false),
  fun K => decide (PySem.W.kitOne K (.ref (He.ga K "InvalidPath")) (.ref (He.ga K "InvalidStep")) = some false)]
def loose : List PySem.Str := ("InvalidText" : PySem.Str) :: ("InvalidStep" : PySem.Str) :: ("InvalidPath" : PySem.Str) :: ("DIGITS" : PySem.Str) :: ("is_whole" : PySem.Str) :: ("is_between" : PySem.Str) :: ("read_number" : PySem.Str) :: ("is_map" : PySem.Str) :: ("format_map" : PySem.Str) :: ("parse_map" : PySem.Str) :: ("_law_pen" : PySem.Str) :: ("_law_draw" : PySem.Str) :: ("_law_pick" : PySem.Str) :: ("_law_shuffled" : PySem.Str) :: ("_law_gcd" : PySem.Str) :: ("_law_modulus" : PySem.Str) :: ("_law_divisors" : PySem.Str) :: ("_law_unit" : PySem.Str) :: ("_law_map" : PySem.Str) :: ("_law_parsed" : PySem.Str) :: ("_law_got" : PySem.Str) :: ("_law_changed" : PySem.Str) :: []
abbrev topV : List Nat := [0, 28]
abbrev Rw : PySem.W.OpenRow := PySem.W.OpenLaw.row PySem.Challenge.rw_affinewalk_k05_texts_of_maps
abbrev hk : PySem.W.Hook := hookX 6 fs fn
def ob (s : PySem.W.SharedT) : He.AlD := seenG 6 fs fn (HandSHeadRun.getT s)
theorem ob_eq (s : PySem.W.SharedT) : ob s = hk.obs s.abs := seenG_eq (HandSHeadRun.getT_eq s)
theorem run (w : World) : HandSHeadRun.RunEqI Rw (PySem.W.view Rw.prog topV) hk ob 20000 loose w := by
  unfold HandSHeadRun.RunEqI
  kernel_rfl
theorem txt_of {K : PySem.W.Frag} {h : Heap} {mg : Str → Option Value} (X : K.In h) (G : h.Ns mainGlobals mg) (c : SaysX fs fn K) : Txt K mg where
  f_ValueError := He.free_ok X G (c.fact 19)
  f_abs := He.free_ok X G (c.fact 20)
  f_all := He.free_ok X G (c.fact 21)
  f_bool := He.free_ok X G (c.fact 22)
  h_gcd := bltB_ok X G (c.fact 23)
  f_int := He.free_ok X G (c.fact 24)
  f_isinstance := He.free_ok X G (c.fact 25)
  f_len := He.free_ok X G (c.fact 26)
  f_list := He.free_ok X G (c.fact 27)
  f_max := He.free_ok X G (c.fact 28)
  f_min := He.free_ok X G (c.fact 29)
  f_range := He.free_ok X G (c.fact 30)
  f_repr := He.free_ok X G (c.fact 31)
  f_sorted := He.free_ok X G (c.fact 32)
  f_str := He.free_ok X G (c.fact 33)
  f_tuple := He.free_ok X G (c.fact 34)
  g_DIGITS := He.str_ok X G (c.fact 35)
  g_InvalidText := He.glo_ok X G (c.fact 36)
  c_InvalidText := ecB_ok (c.fact 37)
  v_InvalidText := of_decide_eq_true (c.fact 38)
  n_InvalidText_InvalidStep := of_decide_eq_true (c.fact 39)
  n_InvalidText_InvalidPath := of_decide_eq_true (c.fact 40)
  g_InvalidStep := He.glo_ok X G (c.fact 41)
  c_InvalidStep := ecB_ok (c.fact 42)
  v_InvalidStep := of_decide_eq_true (c.fact 43)
  n_InvalidStep_InvalidText := of_decide_eq_true (c.fact 44)
  n_InvalidStep_InvalidPath := of_decide_eq_true (c.fact 45)
  g_InvalidPath := He.glo_ok X G (c.fact 46)
  c_InvalidPath := ecB_ok (c.fact 47)
  v_InvalidPath := of_decide_eq_true (c.fact 48)
  n_InvalidPath_InvalidText := of_decide_eq_true (c.fact 49)
  n_InvalidPath_InvalidStep := of_decide_eq_true (c.fact 50)
structure Ds (K : PySem.W.Frag) (mg : Str → Option Value) : Prop where
  d_is_whole : DefAt K mg "is_whole" s_is_whole
  d_is_between : DefAt K mg "is_between" s_is_between
  d_read_number : DefAt K mg "read_number" s_read_number
  d_is_map : DefAt K mg "is_map" s_is_map
  d_format_map : DefAt K mg "format_map" s_format_map
  d_parse_map : DefAt K mg "parse_map" s_parse_map
  d__law_pen : DefAt K mg "_law_pen" s__law_pen
  d__law_draw : DefAt K mg "_law_draw" s__law_draw
  d__law_pick : DefAt K mg "_law_pick" s__law_pick
  d__law_shuffled : DefAt K mg "_law_shuffled" s__law_shuffled
  d__law_gcd : DefAt K mg "_law_gcd" s__law_gcd
  d__law_modulus : DefAt K mg "_law_modulus" s__law_modulus
  d__law_divisors : DefAt K mg "_law_divisors" s__law_divisors
  d__law_unit : DefAt K mg "_law_unit" s__law_unit
  d__law_map : DefAt K mg "_law_map" s__law_map
  d__law_parsed : DefAt K mg "_law_parsed" s__law_parsed
  d__law_got : DefAt K mg "_law_got" s__law_got
  d__law_changed : DefAt K mg "_law_changed" s__law_changed
  d_law : DefAt K mg "law" s_law
  d_InvalidText___init__ : ∃ fd, FunD K "__init__" "InvalidText.__init__" (defArgs s_InvalidText___init__) (defBody s_InvalidText___init__) (defScope s_InvalidText___init__) [] [] (He.ma K (He.ga K "InvalidText") "__init__") fd
  d_InvalidStep___init__ : ∃ fd, FunD K "__init__" "InvalidStep.__init__" (defArgs s_InvalidStep___init__) (defBody s_InvalidStep___init__) (defScope s_InvalidStep___init__) [] [] (He.ma K (He.ga K "InvalidStep") "__init__") fd
  d_InvalidPath___init__ : ∃ fd, FunD K "__init__" "InvalidPath.__init__" (defArgs s_InvalidPath___init__) (defBody s_InvalidPath___init__) (defScope s_InvalidPath___init__) [] [] (He.ma K (He.ga K "InvalidPath") "__init__") fd
theorem ds_of {K : PySem.W.Frag} {h : Heap} {mg : Str → Option Value} (X : K.In h) (G : h.Ns mainGlobals mg) (c : SaysX fs fn K) : Ds K mg where
  d_is_whole := defAt X G c 0 0
  d_is_between := defAt X G c 1 1
  d_read_number := defAt X G c 2 2
  d_is_map := defAt X G c 3 3
  d_format_map := defAt X G c 4 4
  d_parse_map := defAt X G c 5 5
  d__law_pen := defAt X G c 6 6
  d__law_draw := defAt X G c 7 7
  d__law_pick := defAt X G c 8 8
  d__law_shuffled := defAt X G c 9 9
  d__law_gcd := defAt X G c 10 10
  d__law_modulus := defAt X G c 11 11
  d__law_divisors := defAt X G c 12 12
  d__law_unit := defAt X G c 13 13
  d__law_map := defAt X G c 14 14
  d__law_parsed := defAt X G c 15 15
  d__law_got := defAt X G c 16 16
  d__law_changed := defAt X G c 17 17
  d_law := defAt X G c 18 18
  d_InvalidText___init__ := c.def_ 19
  d_InvalidStep___init__ := c.def_ 20
  d_InvalidPath___init__ := c.def_ 21
abbrev lawAt : Nat := 28
abbrev topM : Nat := 20000
abbrev lawK : Nat := 7
theorem facts {P : Program} {w : World} {K : PySem.W.Frag} {h : Heap} {mg : Str → Option Value} {f : Addr} (X : K.In h) (G : h.Ns mainGlobals mg)
    (hfa : mg ("law" : Str) = some (.ref f)) (c : SaysX fs fn K) :
    ∃ fd : FuncData, (∀ (s : Shared) (v : Value), BindsTo s fd ⟨[v], []⟩ [("script", v)]) ∧
      ∀ base : Heap, K.In base → base.Ns mainGlobals mg → FnG P w K mg base lawK f fd ["script"] (sp_law K) := by
  have D := ds_of X G c
  have T := txt_of X G c
  obtain ⟨fd, F, hm⟩ := D.d_law
  have e := hfa.symm.trans hm
  cases e
  have b := FunD.bindsA (ps := ["script"]) F fun _ _ _ _ _ _ us hl => match us, hl with | [_], _ => rfl
  refine ⟨fd, fun s v => b s [v] rfl, fun base _ _ => ?_⟩
  have cPen := c_pen (P := P) (w := w) (base := base) D.d__law_pen T
  have cD := c_draw (P := P) (w := w) (base := base) D.d__law_draw T
  have cP := c_pick (P := P) (w := w) (base := base) D.d__law_pick T cD

  have cS := c_shuffled (P := P) (w := w) (base := base) D.d__law_shuffled T cD
  have cM := c_modulus (P := P) (w := w) (base := base) D.d__law_modulus T cD cP cS
  have cV := c_divisors (P := P) (w := w) (base := base) D.d__law_divisors T
  have cG := c_lgcd (P := P) (w := w) (base := base) D.d__law_gcd T
  have cU := c_unit D.d__law_unit T cD cP cG cV

  have cL := c_lmap D.d__law_map T cD cP cU cV
  have cWh := c_whole (P := P) (w := w) (base := base) D.d_is_whole T
  have cBt := c_between D.d_is_between T cWh
  have cIm := c_ismap D.d_is_map T cBt
  have cRd := c_rdn (P := P) (w := w) (base := base) D.d_read_number T
  obtain ⟨fo, Fo⟩ := D.d_InvalidText___init__
  have cIi := c_ini (P := P) (w := w) (base := base) T T.c_InvalidText (by decide +kernel) Fo
  have cPm := c_parse D.d_parse_map T cIi (Fo.bindsN fun kV doc pm an cdv ct us hl => match us, hl with | [_, _], _ => rfl) cRd cIm
  have cFm := c_fmt (P := P) (w := w) (base := base) D.d_format_map T
  have cGt := c_got D.d__law_got T cPm
  have cPd := c_parsed D.d__law_parsed T cG
  have cPs := c_pickS D.d__law_pick T cD
  have cCh := c_changed D.d__law_changed T cD cPs cP
  refine FnG.mk_of F sc_law (fun vs H Q E h => ?_) (fun cdv A outer s H vs Q hgu hr h => ?_)
  · obtain ⟨a, ns, rfl, _⟩ := h; rfl
  · exact body_law T cPen cD cP cM cL cCh cPd cGt cFm cPm _ cdv A outer s H vs Q hgu hr h
end Vg
open PySem PySem.W PySem.Calls PyProof.Rows
theorem PySem.Challenge.cw_affinewalk_k05_texts_of_maps_holds : PySem.Challenge.rw_affinewalk_k05_texts_of_maps.Holds := by
  w_on; o_law
  refine HandSHeadRun.head_imp (r := OpenLaw.row PySem.Challenge.rw_affinewalk_k05_texts_of_maps) (q := view (OpenLaw.row PySem.Challenge.rw_affinewalk_k05_texts_of_maps).prog Vg.topV) (H := Vg.hk) (ob := Vg.ob) (M := Vg.topM) (loose := Vg.loose)
    (d := HandSHeadRun.topDef (OpenLaw.row PySem.Challenge.rw_affinewalk_k05_texts_of_maps).prog Vg.lawAt) (kwd := []) Vg.ob_eq
    Vg.run (by kernel_rfl) (by kernel_rfl) (by kernel_rfl) (by rfl) (by first | assumption | decide +kernel) (by decide +kernel) ⟨rfl, rfl, rfl, rfl, rfl, by decide +kernel⟩ ?hw ?hc
  case hw => w_witness2
  case hc =>
    refine Vg.walkG (l := PySem.Challenge.rw_affinewalk_k05_texts_of_maps) (n := 63) (k := Vg.lawK) (x := "script") rfl (by decide) (by kernel_rfl) ⟨rfl, by decide, by decide⟩ ?F
    intro w mg fa h Y G hmg0
    obtain ⟨K, KX, c⟩ := Y
    have hmg : mg ("law" : PySem.Str) = some (.ref fa) := by
      have e : (HandSHeadRun.topDef (OpenLaw.row PySem.Challenge.rw_affinewalk_k05_texts_of_maps).prog Vg.lawAt).name = ("law" : PySem.Str) := by kernel_rfl
      rw [← e]
      exact hmg0
    obtain ⟨fd, hb, hF⟩ := Vg.facts (P := (PySem.Challenge.rw_affinewalk_k05_texts_of_maps).prog) (w := w) KX G hmg c
    exact ⟨K, fd, Vg.sp_law K, KX, hb, fun H a ns hl _ _ hS => ⟨a, ns, rfl, hS, hl, fun _ => rfl⟩, hF⟩
#print axioms PySem.Challenge.cw_affinewalk_k05_texts_of_maps_holds

