import PyProof.Rows.All
import Wide.All
import OpenK.AllK
import Wide.FinOn
import PyProof.EqAt
import PyProof.EqKinds
import PyProof.TupleCall
import PyProof.ReprRoads
import HandS.ForMost
import HandS.Exc
import HandS.TryOnly
import HandS.ExcOwn
import HandS.WordsExc
import HandS.IsInst
import HandS.ExcIs
import HandS.FStr
import HandS.RaiseMore
import HandS.Wide
import HandS.Zip
import HandS.NoneIn
import HandS.Codes
import HandS.Gcd
import HandS.EndBits
import HandS.Walk
import PySem.Challenge.RW_foldfloor_k13_expansions
set_option Elab.async false
set_option linter.all false
set_option maxRecDepth 100000
set_option maxHeartbeats 8000000
/-! Own kit: a def bundled with where it stands, calls of such defs, repr of data, the law's entry with nothing being shown. -/
namespace FK
open PySem PySem.Spec PyProof.Rows L2
section
variable {P : Program} {w : World} {K : PySem.W.Frag} {mg : Str → Option Value} {base : Heap}
/-- the def of the statement st stands under its name -/
def At (K : PySem.W.Frag) (mg : Str → Option Value) (x : Str) (st : Stmt) (ps : List Str) : Prop :=
  ∃ (f : Addr) (fd : FuncData), Fun K x x st f fd ∧ mg x = some (.ref f) ∧ Binds K fd ps []
/-- the def of this name keeps the promise -/
def Has (P : Program) (w : World) (K : PySem.W.Frag) (mg : Str → Option Value) (base : Heap) (CX : CXT) (k : Nat) (x : Str) (ps : List Str) (sp : Sp) : Prop :=
  ∃ (f : Addr) (fd : FuncData), FnOk P w K mg base CX k f fd ps sp ∧ mg x = some (.ref f) ∧ PySem.W.keepIn K (.ref f) = true ∧ Binds K fd ps []
theorem Has.mono {CX : CXT} {j k : Nat} {x : Str} {ps : List Str} {sp : Sp} (h : Has P w K mg base CX j x ps sp) (hk : j ≤ k) : Has P w K mg base CX k x ps sp := by
  obtain ⟨f, fd, h1, h2⟩ := h
  exact ⟨f, fd, h1.mono hk, h2⟩
theorem At.ok {x : Str} {st : Stmt} {N ps : List Str} {k : Nat} {sp : Sp} (D : At K mg x st ps) (S : FnScope N ps (defScope st)) (len : ∀ vs H Q E, sp vs H Q E → vs.length = ps.length)
    (hbody : ∀ (f : Addr) (cdv : Value) (A : Around) (outer : List Env) (s : Shared) (H : Hp) (vs : List V) (Q : VK) (E : XK), Room k (A.deeper (envOfC x (defScope st) s.heap.objs.size f cdv)) → sp vs H Q E →
      ∃ t, PSs (cxOf CX0 P w K mg base N x (defScope st) f cdv A outer s H E).nox (defBody st) t ∧ t { nx := fun _ H' => Q .non H', rt := Q } (start N vs) H) : Has P w K mg base CX0 (k + 1) x ps sp := by
  obtain ⟨f, fd, F, g, b⟩ := D
  exact ⟨f, fd, F.ok S len (hbody f), g, F.kp, b⟩
theorem At.okX {x : Str} {st : Stmt} {N ps : List Str} {k : Nat} {sp : Sp} (D : At K mg x st ps) (S : FnScope N ps (defScope st)) (len : ∀ vs H Q E, sp vs H Q E → vs.length = ps.length)
    (hbody : ∀ (f : Addr) (cdv : Value) (A : Around) (outer : List Env) (s : Shared) (H : Hp) (vs : List V) (Q : VK) (E : XK), Room k (A.deeper (envOfC x (defScope st) s.heap.objs.size f cdv)) → sp vs H Q E →
      ∃ t, PSs (cxOf (L2.CX P w) P w K mg base N x (defScope st) f cdv A outer s H E) (defBody st) t ∧ t { nx := fun _ H' => Q .non H', rt := Q } (start N vs) H) : Has P w K mg base (L2.CX P w) (k + 1) x ps sp := by
  obtain ⟨f, fd, F, g, b⟩ := D
  exact ⟨f, fd, F.okX S len (hbody f), g, F.kp, b⟩
end
/-- what the top says of an own error class (no __init__ of its own) that stands at C -/
structure XC (K : PySem.W.Frag) (mg : Str → Option Value) (x : Str) (C : Addr) : Prop where
  g : mg x = some (.ref C)
  k : PySem.W.keepIn K (.ref C) = true
  x : PySem.W.excIn K C [.type "ValueError", .type "Exception", .type "BaseException", .type "object"] "ValueError.__new__" = true
  b : PySem.W.subIn K (.ref C) (.type "BaseException") = some true
  t : PySem.W.typeIn K (.ref C) = some (.type "type")
  c : PySem.W.isClsIn K C = true
  e : ExcC K C
section
variable {X : Cx} {k : Nat} {x : Str} {ps : List Str} {sp : Sp} {p pos : Pos} {e : Expr} {es : List Expr} {t : TA}
/-- f(e, ..), what f lets out goes to E -/
theorem pe_h {CX : CXT} {E : XK} (h : Has X.prog X.w X.K X.mg X.base CX k x ps sp) (hr : Room k X.A) (hx : Passes CX X E) (ha : PA X (e :: es) t) (hg : Gl X x := by rfl) (hdb : (x == ("__debug__" : Str)) = false := by decide)
    (he : starEach (e :: es) X.env = (false, eval e X.env) :: starEach es X.env := by rfl) (hpl : (backTo pos (starEach es X.env)).any (·.1) = false := by rfl) :
    PE X (.Call (.Name x p) (e :: es) [] pos) (tCall sp [] E t) := by
  obtain ⟨f, fd, F, g, kp, b⟩ := h
  exact pe_call F hr hg g kp b .nil hx ha hdb he hpl
theorem pe_h0 {CX : CXT} {E : XK} (h : Has X.prog X.w X.K X.mg X.base CX k x ps sp) (hr : Room k X.A) (hx : Passes CX X E) (hg : Gl X x := by rfl) (hdb : (x == ("__debug__" : Str)) = false := by decide) :
    PE X (.Call (.Name x p) [] [] pos) (tCall sp [] E tNil) := by
  obtain ⟨f, fd, F, g, kp, b⟩ := h
  exact pe_call0 F hr hg g kp b .nil hx hdb
/-- the same in a try's body: what f lets out is wished for at the slots -/
theorem pe_hS {CX : CXT} {E : L2.St → XK} (h : Has X.prog X.w X.K X.mg X.base CX k x ps sp) (hr : Room k X.A) (hx : ∀ σ, PassesAt CX X σ (E σ)) (ha : PA X (e :: es) t) (hg : Gl X x := by rfl) (hdb : (x == ("__debug__" : Str)) = false := by decide)
    (he : starEach (e :: es) X.env = (false, eval e X.env) :: starEach es X.env := by rfl) (hpl : (backTo pos (starEach es X.env)).any (·.1) = false := by rfl) :
    PE X (.Call (.Name x p) (e :: es) [] pos) (tCallS sp E t) := by
  obtain ⟨f, fd, F, g, kp, b⟩ := h
  exact pe_callS F hr hg g kp b hx ha hdb he hpl
/-- repr(x), x data of any depth, where nothing is being shown -/
def rRepr (K : PySem.W.Frag) : List V → Hp → VK → Prop := fun xs H Q => ∃ (x : V) (d : PyData), xs = [x] ∧ Dp K H x d ∧ d.showable = true ∧ d.hasDict = false ∧ d.depth < 40 ∧ d.shown.length ≤ sizeLine ∧ Q (.str d.shown) H
theorem call_repr (hg : X.A.guards = some []) (hr : Room k X.A) : CallR X (.builtin "repr") (rRepr X.K) := by
  intro pins s σ H xs us Q I r h
  obtain ⟨x, d, rfl, hd, hs, hn, hdp, hz, q⟩ := h
  obtain ⟨u, rfl, rx⟩ := vals1 r
  obtain ⟨as, rd⟩ := Dp.reads I d _ u hd rx
  have hu := hr.units
  cases hd with
  | non =>
    cases rx
    exact PySem.P.repr_of_none ⟨.str _, H, I.tok _, ⟨_, rfl⟩, q⟩
  | bl b =>
    cases rx
    exact PySem.P.repr_of_bool ⟨.str _, H, I.tok _, ⟨_, rfl⟩, q⟩
  | int i =>
    obtain ⟨t, rfl⟩ := rx
    exact PySem.P.repr_of_int (of_decide_eq_true hs) ⟨.str _, H, I.tok _, ⟨_, rfl⟩, q⟩
  | str x =>
    obtain ⟨t, rfl⟩ := rx
    exact PySem.P.repr_of_str ⟨.str _, H, I.tok _, ⟨_, rfl⟩, q⟩ hz
  | lst h1 h2 =>
    cases rx
    exact repr_of_reads' (s := s) rd hs (PyData.noDict_hsm hn) hg (by omega) (fun _ _ e => e) (fun h' u tk hk => ⟨.str _, H, I.kept (t' := tk) hk, ⟨u, rfl⟩, q⟩) hz
  | tup h1 h2 =>
    cases rx
    exact repr_of_reads' (s := s) rd hs (PyData.noDict_hsm hn) hg (by omega) (fun _ _ e => e) (fun h' u tk hk => ⟨.str _, H, I.kept (t' := tk) hk, ⟨u, rfl⟩, q⟩) hz
/-- int(n) of a whole number -/
theorem call_intI : CallR X (.type "int") (fun xs H Q => ∃ i, xs = [.int i] ∧ Q (.int i) H) := fun pins s σ H xs us Q I r h => call_int1 pins s σ H xs us Q I r (.inl h)
/-- xs[i] read for xs[i] -= e, i not negative -/
theorem pget_list : PGet X (fun x y H Q => ∃ p xs i v, x = .ref p ∧ y = .int i ∧ 0 ≤ i ∧ SqL X.K H p xs ∧ atI xs i = some v ∧ Q v H) := by
  intro pins s σ H o i ov iv Q I ro ri h
  obtain ⟨p, xs, k, z, rfl, rfl, h0, hq, he, q⟩ := h
  cases ro
  obtain ⟨t, rfl⟩ := ri
  obtain ⟨its, r, pl, hz⟩ := I.list hq
  obtain ⟨j, h1, h2, h3, h4, h5⟩ := atI_get he
  obtain ⟨w, ew, rw'⟩ := r.get h2
  have hl := r.length
  have hn := line63
  have hj : k.toNat = j := by
    rw [seqIndex_of h0 h5] at h1
    exact Option.some.inj h1
  exact wpAny_getItem_list pl.isList h0 (by omega) (by rw [hj]; simpa using ew) ⟨z, H, I, rw', q⟩
/-- isinstance(e, c) in the suite that holds e, whatever class e has -/
theorem call_isEx {a : Addr} {oe : Obj} {cls : Value} {dd : Option Addr} {pn : List (Addr × Obj)} (hz : Zc cls dd oe) (hf : ∃ vs, oe.data = .fields vs) :
    CallR (X.suite a ((a, oe) :: pn)) (.builtin "isinstance") (fun xs H Q => ∃ D : Addr, cls = .ref D ∧ dd = none ∧ ExcC X.K D ∧ rIsE X.K D a xs H Q) := by
  intro pins s σ H xs us Q I r h
  obtain ⟨D, rfl, rfl, C, q⟩ := h
  exact call_isE C hz hf pins s σ H xs us Q I r q
end
end FK

/-! Own entry of a law: its def run where the caller stands, with nothing being shown. -/
namespace FK
open PySem PySem.Spec PyProof.Rows L2
section
variable {P : Program} {w : World} {K : PySem.W.Frag} {mg : Str → Option Value} {base : Heap}
/-- the law's def, called by the caller: what its body says of every answer -/
theorem run_def {x q : Str} {pr : Arguments} {body : List Stmt} {sc : Scope} {N ps : List Str} {k : Nat} {f : Addr} {A : Around} {s : Shared} {H : Hp} {us : List Value} {vs : List V} {args : Args} {Q : VK} {kV doc pm cdv ct oc : Value} {an od : Option Addr} {osl : Array (Option Value)}
    (lk : K.lookup f = some ⟨oc, od, .func (PySem.W.fnOf x q pr body sc .none kV doc pm an cdv ct), osl⟩) (hc : PySem.W.codeIn K cdv q = true)
    (S : FnScope N ps sc) (hr : Room (k + 1) A) (e0 : Env0 P w K mg base A [] s H) (hv : Vals vs us) (hl : vs.length = ps.length) (hb : BindsTo s (PySem.W.fnOf x q pr body sc .none kV doc pm an cdv ct) args (ps.zip us))
    {t : TS} (hp : PSs (cxOf CX0 P w K mg base N q sc f cdv A [] s H E0).nox body t) (ht : t { nx := fun _ H' => Q .non H', rt := Q } (start N vs) H) :
    codeAny (model P w) A (.call (.ref f) args) (CR CX0 [] P w H s Q E0) s := by
  have up : ∀ {b : Addr} {o : Obj}, base.get? b = some o → s.heap.get? b = some o := fun {b o} e => (e0.bs b o e).1
  have inK : K.In s.heap := e0.mod.kin.keeps fun _ _ e => up e
  refine codeAny_call_function hr.depth (inK _ _ lk) rfl S.co S.gen rfl (PySem.W.codeRec_of inK hc) (hb _ _ _ _ ?_)
  refine wpAny_newFunctionEnv_cells S.kind (fun z hz => ?_) fun env he s1 C => ?_
  · rcases S.par z.1 (List.of_mem_zip (show (z.1, z.2) ∈ ps.zip us from hz)).1 with c | c
    · exact Or.inl c
    · exact Or.inr ⟨c, PySem.W.cellsFrom_some _ _ _ (Or.inl c)⟩
  · cases he
    have nl : s.heap.NoLimit := e0.mod.nolimit.keeps fun _ _ e => up e
    refine ⟨nl.keeps C.toInCall.keep, codeAny_func ?_⟩
    have I := inv_start (CX := CX0) (qual := q) (f := f) (cd := cdv) (E := E0) S hr.hd e0 hl hv C
    refine wpAny_mono (hp.nox.run [] s1 (start N vs) H _ I ht) (fun fl s2 z => ?_) fun _ _ z => z
    cases fl with
    | ret u => obtain ⟨v, _, H2, J, rv, q⟩ := z; exact ⟨v, H2, J.os, J.bare, J.base, J.hok, rv, q⟩
    | next => obtain ⟨_, H2, J, q⟩ := z; exact ⟨.non, H2, J.os, J.bare, J.base, J.hok, rfl, q⟩
    | brk => exact False.elim (let ⟨_, _, _, q⟩ := z; q)
    | cont => exact False.elim (let ⟨_, _, _, q⟩ := z; q)
/-- from the caller's state to an abstract heap in which nothing but the script may stand -/
theorem law_in {mb : Str → Option Value} {fa a : Addr} {s : Shared} {vs : List Value} {ns : List Int} (inK : K.In s.heap) (gl : s.heap.Ns mainGlobals mg) (bl : s.heap.Ns builtinsNs mb) (bb : ∀ z : Str, z ≠ "__name__" → mb z = bootBuiltins z) (nl : s.heap.NoLimit) (gs : s.gens = #[])
    (la : s.heap.get? a = some { cls := .type "list", data := .seq vs.toArray }) (ia : IntsAre vs ns) (le : ns.length ≤ sizeLine)
    (go : ∀ (base : Heap) (H : Hp), Env0 P w K mg base callerA [] s H → SqL K H a (ns.map V.int) → codeAny (model P w) callerA (.call (.ref fa) ⟨[.ref a], []⟩) (CR CX0 [] P w H s (fun v _ => v = .bl true) E0) s) :
    codeAny (model P w) callerA (.call (.ref fa) ⟨[.ref a], []⟩) (fun r s' => r = .ok (.ret (.bool true)) ∧ OldK s.heap s'.heap ∧ s'.os = s.os ∧ AllBare s'.gens) s := by
  have rv : Vals (ns.map V.int) vs := vals_ints ia
  have lv := ia.length
  have lm : (ns.map V.int).length ≤ sizeLine := by rw [List.length_map]; exact le
  -- the abstract heap: the script, locked, if it is no object of the text itself
  obtain ⟨H, hH⟩ : ∃ H : Hp, ∀ b, H b = if b = a ∧ K.lookup a = none then some (HO.frz { cls := .type "list", data := .seq vs.toArray } (.lst (ns.map V.int))) else none := ⟨_, fun _ => rfl⟩
  have Hno : ∀ {b : Addr}, ¬(b = a ∧ K.lookup a = none) → H b = none := fun {b} c => by rw [hH, if_neg c]
  have Hyes : ∀ {b : Addr} {u : HO}, H b = some u → (b = a ∧ K.lookup a = none) ∧ u = .frz { cls := .type "list", data := .seq vs.toArray } (.lst (ns.map V.int)) := fun {b u} e => by
    rw [hH] at e
    by_cases c : b = a ∧ K.lookup a = none
    · rw [if_pos c] at e; cases e; exact ⟨c, rfl⟩
    · rw [if_neg c] at e; cases e
  have sq : SqL K H a (ns.map V.int) := by
    cases c : K.lookup a with
    | none => exact .inl (.inr ⟨_, by rw [hH, if_pos ⟨rfl, c⟩]⟩)
    | some o =>
      have e := (inK a o c).symm.trans la
      cases e
      exact .inr ⟨_, vs.toArray, _, c, rfl, rfl, rfl, by rw [List.size_toArray, lv]; exact le, by simpa using rv⟩
  have kept : ∀ {b : Addr} {o : Obj}, s.heap.get? b = some o → H b = none → (hidT s.heap H).get? b = some o := fun e n => hidT_get e n
  have ok : HOk P w H s.heap := fun b u e => by
    obtain ⟨⟨rfl, _⟩, rfl⟩ := Hyes e
    exact ⟨la, lm, vs, _, rv, la⟩
  have dk : ∀ {b : Addr} {o : Obj} {es : Array DictEntry} {n : Nat}, s.heap.get? b = some o → o.data = .dict es n → H b = none := fun {b o es n} e d => by
    refine Hno fun c => ?_
    rw [c.1, la] at e
    cases e
    exact nomatch d
  have nsk : ∀ {b : Addr} {m : Str → Option Value}, s.heap.Ns b m → (hidT s.heap H).Ns b m := fun {b m} z => by
    obtain ⟨o, es, n, e, d, r⟩ := z
    exact ⟨o, es, n, kept e (dk e d), d, r⟩
  have kb : K.In (hidT s.heap H) := fun b o e => kept (inK b o e) (Hno fun c => by rw [c.1, c.2] at e; cases e)
  have M : Mod K mg (hidT s.heap H) := ⟨kb, nsk gl, ⟨mb, nsk bl, bb⟩, by obtain ⟨mc, h1, h2⟩ := nl; exact ⟨mc, nsk h1, h2⟩⟩
  have e0 : Env0 P w K mg (hidT s.heap H) callerA [] s H := ⟨rfl, M, fun _ _ e => of_hidT e, Nat.le_of_eq (hidT_size _ _), trivial, fun b hb => absurd (show b ∈ ([] : List Addr) from hb) List.not_mem_nil, ok, .of_eq gs⟩
  refine codeAny_mono (go _ H e0 sq) fun r s' z => ?_
  match r, z with
  | .error _, z => exact False.elim z
  | .ok .next, z => exact False.elim z
  | .ok .brk, z => exact False.elim z
  | .ok .cont, z => exact False.elim z
  | .ok (.ret u), z =>
    obtain ⟨v, H', os, bare, un, ok', rv', ev⟩ := z
    cases (show v = .bl true from ev)
    cases (show u = Value.bool true from rv')
    refine ⟨rfl, OldK.of_keep fun b o e => ?_, os, bare⟩
    cases c : H b with
    | none => exact un.keep b o e c (fun z => absurd (show b ∈ ([] : List Addr) from z) List.not_mem_nil) List.not_mem_nil
    | some u =>
      obtain ⟨_, rfl⟩ := Hyes c
      have g1 := (ok b _ c).1
      have g2 := (ok' b _ (un.frzs b _ _ c)).1
      exact g2.trans (g1.symm.trans e)
/-- a bundled def, called by the caller -/
theorem At.run {x : Str} {st : Stmt} {N ps : List Str} {k : Nat} {fa : Addr} {s : Shared} {H : Hp} {us : List Value} {vs : List V} {Q : VK} (D : At K mg x st ps) (g : mg x = some (.ref fa)) (S : FnScope N ps (defScope st)) (hr : Room (k + 1) callerA)
    (e0 : Env0 P w K mg base callerA [] s H) (hv : Vals vs us) (hl : vs.length = ps.length)
    (go : ∀ (cdv : Value), Room k (callerA.deeper (envOfC x (defScope st) s.heap.objs.size fa cdv)) → (callerA.deeper (envOfC x (defScope st) s.heap.objs.size fa cdv)).guards = some [] →
      ∃ t, PSs (cxOf CX0 P w K mg base N x (defScope st) fa cdv callerA [] s H E0).nox (defBody st) t ∧ t { nx := fun _ H' => Q .non H', rt := Q } (start N vs) H) :
    codeAny (model P w) callerA (.call (.ref fa) ⟨us, []⟩) (CR CX0 [] P w H s Q E0) s := by
  obtain ⟨f, fd, F, g', b⟩ := D
  cases g.symm.trans g'
  obtain ⟨oc, od, kV, doc, pm, an, cdv, ct, osl, rfl, lk, hc⟩ := F.ex
  have inK : K.In s.heap := e0.mod.kin.keeps fun b o e => (e0.bs b o e).1
  have hlu : us.length = ps.length := by rw [← hv.length]; exact hl
  have hb := b s us inK (by rw [List.append_nil]; exact hlu)
  rw [List.append_nil] at hb
  obtain ⟨t, h1, h2⟩ := go cdv (hr.deeper _) rfl
  exact run_def lk hc S hr e0 hv hl hb h1 h2
end
/-- the end of a law row -/
theorem walk_law {l : PySem.W.OpenLaw} {n : Nat} {q : Program} {loose : List Str} {XP : (Str → Option Value) → Heap → Prop} {YP : World → Heap → Prop} {d : DefRec} {K : Params → PySem.W.Frag}
    (hn : l.most = some n) (hn2 : n ≤ sizeLine) (hdf : d.params.defaults = []) (hY : ∀ (w : World) (h : Heap), YP w h → (K w.params).In h)
    (F : ∀ (w : World) (mg : Str → Option Value) (fa : Addr) (h : Heap), (K w.params).In h → h.Ns mainGlobals mg → mg d.name = some (.ref fa) →
      ∀ (base : Heap) (s : Shared) (H : Hp) (a : Addr) (ns : List Int), ns.length ≤ n → (∀ z ∈ ns, Builtin.Int.intBits z ≤ 1048576) → Env0 l.prog w (K w.params) mg base callerA [] s H → SqL (K w.params) H a (ns.map V.int) →
        codeAny (model l.prog w) callerA (.call (.ref fa) ⟨[.ref a], []⟩) (CR CX0 [] l.prog w H s (fun v _ => v = .bl true) E0) s) :
    PySem.W.WalkO q loose XP YP l.row.toRowW d [] (fun f vs => PySem.call f vs) := by
  refine Att.attach_callB hn hdf fun w s0 s mg mb fa o pm cd doc a vs ns G Y ho hd hcd hmg la ia hl hbits gs => ?_
  have inK := hY w _ Y
  exact law_in inK G.T.g G.T.b G.T.builtins G.T.nolimit gs la ia (Nat.le_trans hl hn2) fun base H e0 sq => F w mg fa _ inK G.T.g hmg base s H a ns hl hbits e0 sq
section
variable {K : PySem.W.Frag} {mg : Str → Option Value} {h : Heap}
theorem at_mk {x : Str} {st : Stmt} {ps : List Str} {f : Addr} {oc : Value} {od an : Option Addr} {osl : Array (Option Value)} {kV doc pm cdv ct : Value} (inK : K.In h) (G : h.Ns mainGlobals mg) (a : PySem.W.nsIn K mainGlobals x = some (some (.ref f)))
    (l : K.lookup f = some ⟨oc, od, .func (PySem.W.fnOf x x (defArgs st) (defBody st) (defScope st) .none kV doc pm an cdv ct), osl⟩) (c : PySem.W.codeIn K cdv x = true) (k : PySem.W.keepIn K (.ref f) = true)
    (b : ∀ (kV doc pm : Value) (an : Option Addr) (cdv ct : Value) (us : List Value), us.length = ps.length → bindArgs (PySem.W.fnOf x x (defArgs st) (defBody st) (defScope st) .none kV doc pm an cdv ct) ⟨us, []⟩ = pure (ps.zip us)) : At K mg x st ps :=
  ⟨f, _, fun_mk l c k, PySem.W.mg_of inK G a, (fun_mk l c k).binds b⟩
theorem xc_mk {x : Str} {C : Addr} (inK : K.In h) (G : h.Ns mainGlobals mg) (g : PySem.W.nsIn K mainGlobals x = some (some (.ref C))) (k : PySem.W.keepIn K (.ref C) = true)
    (q : PySem.W.excIn K C [.type "ValueError", .type "Exception", .type "BaseException", .type "object"] "ValueError.__new__" = true) (b : PySem.W.subIn K (.ref C) (.type "BaseException") = some true) (t : PySem.W.typeIn K (.ref C) = some (.type "type")) (c : PySem.W.isClsIn K C = true)
    (e1 : PySem.W.findIn K (.ref C) "__getattribute__" = some (some (.builtin "BaseException.__getattribute__"))) (e2 : PySem.W.findIn K (.ref C) "__getattr__" = some none) (e4 : PySem.W.hasDictIn K C = true) (e5 : PySem.W.findIn K (.ref C) "__class__" = some (some (.builtin "object.__class__")))
    (e6 : PySem.W.specialIn K (.builtin "object.__class__") "__get__" = some (some (.builtin "getset_descriptor.__get__"))) (e7 : PySem.W.takesIn K (.builtin "object.__class__") = some true) (e8 : PySem.W.mroIn K C (.type "object") = some true) : XC K mg x C :=
  ⟨PySem.W.mg_of inK G g, k, q, b, t, c, ⟨e1, e2, b, e4, e5, e6, e7, e8⟩⟩
theorem tup_mk {a : Addr} {items : Array Value} {dd : Option Addr} {n : Nat} {sl : Array (Option Value)} (l : K.lookup a = some ⟨.type "tuple", dd, .seq items n, sl⟩) : ∃ (dd : Option Addr) (n : Nat) (sl : Array (Option Value)), K.lookup a = some ⟨.type "tuple", dd, .seq items n, sl⟩ := ⟨_, _, _, l⟩
theorem tup2s_mk {a : Addr} {x y : Str} {t1 t2 : Tok} {dd : Option Addr} {n : Nat} {sl : Array (Option Value)} (l : K.lookup a = some ⟨.type "tuple", dd, .seq #[.str x t1, .str y t2] n, sl⟩) : ∃ (dd : Option Addr) (n : Nat) (sl : Array (Option Value)) (t1 t2 : Tok), K.lookup a = some ⟨.type "tuple", dd, .seq #[.str x t1, .str y t2] n, sl⟩ := ⟨_, _, _, _, _, l⟩
theorem kit_mk {D C : Addr} {b : Bool} (n : (Value.ref D == Value.ref C) = false) (c : PySem.W.isClsIn K C = true) (t : PySem.W.typeIn K (.ref C) = some (.type "type")) (s : PySem.W.subIn K (.ref D) (.ref C) = some b) : PySem.W.kitOne K (.ref D) (.ref C) = some b := by
  have e : ((PySem.W.clsIn K C).isSome && PySem.W.typeIn K (.ref C) == some (.type "type")) = true := by
    have c' : (PySem.W.clsIn K C).isSome = true := c
    rw [c', t] <;> rfl
  show (if (Value.ref D == Value.ref C) = true then some true else (if ((PySem.W.clsIn K C).isSome && PySem.W.typeIn K (.ref C) == some (.type "type")) = true then PySem.W.subIn K (.ref D) (.ref C) else none)) = some b
  rw [if_neg (by rw [n]; exact Bool.false_ne_true), if_pos e]
  exact s
theorem kit_same {K : PySem.W.Frag} {D : Addr} : PySem.W.kitOne K (.ref D) (.ref D) = some true := by
  show (if (Value.ref D == Value.ref D) = true then some true else _) = some true
  rw [if_pos (beq_self_eq_true _)]
end
end FK

/-! Own readings: loops and comprehensions over a walk, what stands in the heap behind them. -/
namespace FK
open PySem PySem.Spec PyProof.Rows L2
/-- all but what stands at d is as it was -/
def But (d : Addr) (H H' : Hp) : Prop := ∀ b o, b ≠ d → H b = some o → H' b = some o
theorem But.refl {d : Addr} {H : Hp} : But d H H := fun _ _ _ h => h
theorem But.trans {d : Addr} {H H1 H2 : Hp} (a : But d H H1) (b : But d H1 H2) : But d H H2 := fun c o n h => b c o n (a c o n h)
theorem But.of {d : Addr} {H H' : Hp} (a : Same H H') : But d H H' := fun c o _ h => a c o h
theorem But.upd {d : Addr} {H : Hp} {o : HO} : But d H (upd H d o) := fun c u n h => by rw [upd_ne n]; exact h
theorem same_new {H : Hp} {p : Addr} {o : HO} (h : H p = none) : Same H (upd H p o) := fun b u e => by
  have n : b ≠ p := fun z => by rw [z, h] at e; cases e
  rw [upd_ne n]
  exact e
theorem Same.tupS {K : PySem.W.Frag} {H H' : Hp} {a : Addr} {xs : List V} (e : Same H H') (h : SqT K H a xs) : SqT K H' a xs := by
  rcases h with (h | ⟨o, h⟩) | h
  · exact .inl (.inl (e _ _ h))
  · exact .inl (.inr ⟨o, e _ _ h⟩)
  · exact .inr h
/-- a for over a walk, what is walked told by hw -/
theorem rd_for {wi : TI} {g : TG} {tb : TS} {D : Ends} {σ : L2.St} {H H1 : Hp} {J : It} {n : Nat} {G : Hp → Prop} {Y : Nat → Hp → V → Hp → Prop} (hw : ∀ R : It → Hp → Prop, R J H1 → wi σ H R) (w : Walk J n G Y) (Pv : Nat → L2.St → Hp → Prop)
    (h0 : Pv 0 σ H1) (hG : ∀ i σ H, i ≤ n → Pv i σ H → G H)
    (hs : ∀ i x σ H H', i < n → Pv i σ H → Y i H x H' → g x σ H' fun σ2 H2 => tb { D with nx := Pv (i + 1), ct := Pv (i + 1), bk := D.nx } σ2 H2) (hd : ∀ σ H, Pv n σ H → D.nx σ H) : tFor wi g tb D σ H :=
  hw _ (for_it w Pv h0 hG hs hd)
/-- a comprehension over a walk, one plain name, no test: Pv by the turn, the items made and the heap; the new list stands at D, told apart -/
theorem rd_lc {wi : TI} {i : Nat} {te : TE} {vs : List Nat} {σ : L2.St} {H H1 : Hp} {J : It} {n : Nat} {G : Hp → Prop} {Y : Nat → Hp → V → Hp → Prop} {Q : VK} (hw : ∀ R : It → Hp → Prop, R J H1 → wi σ H R) (w : Walk J n G Y)
    (Pv : Nat → List V → Hp → Prop) (h0 : ∀ D, H1 D = none → Pv 0 [] (upd H1 D (.lst [])))
    (hk : ∀ D i acc y H, H1 D = none → H D = some (.lst acc) → Pv i (acc ++ [y]) H → Pv i (acc ++ [y]) (upd H D (.lst (acc ++ [y]))))
    (hG : ∀ i acc H, i ≤ n → Pv i acc H → G H) (hl : n < sizeLine)
    (hv : ∀ x, wipe ((wipe σ vs).set i (some x)) vs = wipe σ vs)
    (hs : ∀ D j x acc H H' (R : VK), H1 D = none → j < n → acc.length = j → Pv j acc H → H D = some (.lst acc) → Y j H x H' →
      (∀ y H4, H4 D = some (.lst acc) → Pv (j + 1) (acc ++ [y]) H4 → R y H4) → te ((wipe σ vs).set i (some x)) H' R)
    (hd : ∀ D acc H, H1 D = none → acc.length = n → Pv n acc H → H D = some (.lst acc) → Q (.ref D) H) : tLc wi (gName i) tYes te vs σ H Q := by
  refine hw _ fun D hD => ?_
  refine lc_it w (fun j H => ∃ acc, acc.length = j ∧ H D = some (.lst acc) ∧ Pv j acc H) ⟨[], rfl, upd_same, h0 D hD⟩ (fun j H hj ⟨acc, _, _, p⟩ => hG j acc H hj p) ?_ ?_
  · intro j x H' H'' hj ⟨acc, ha, hD2, p⟩ y
    refine ⟨hv x, ?_⟩
    simp only [tYes, if_true]
    refine hs D j x acc H' H'' _ hD hj ha p hD2 y fun y' H4 z1 z2 => ?_
    exact ⟨acc, z1, by omega, acc ++ [y'], by rw [List.length_append, ha]; rfl, upd_same, hk D _ acc y' H4 hD z1 z2⟩
  · intro H' ⟨acc, ha, hD2, p⟩
    exact hd D acc H' hD ha p hD2
/-- a comprehension whose items touch nothing: the list zs is made at a new place -/
theorem rd_lc_pure {wi : TI} {i : Nat} {te : TE} {vs : List Nat} {σ : L2.St} {H H1 : Hp} {J : It} {G : Hp → Prop} {Y : Nat → Hp → V → Hp → Prop} {Q : VK} (zs : List V) (hw : ∀ R : It → Hp → Prop, R J H1 → wi σ H R) (w : Walk J zs.length G Y)
    (hG : ∀ D o, H1 D = none → G (upd H1 D o)) (hl : zs.length < sizeLine) (hv : ∀ x, wipe ((wipe σ vs).set i (some x)) vs = wipe σ vs)
    (hs : ∀ D j x z H' H'' (R : VK), H1 D = none → zs[j]? = some z → H' = upd H1 D (.lst (zs.take j)) → Y j H' x H'' → R z H'' → te ((wipe σ vs).set i (some x)) H'' R)
    (hd : ∀ D, H1 D = none → Q (.ref D) (upd H1 D (.lst zs))) (hY : ∀ j H' x H'', Y j H' x H'' → H'' = H') : tLc wi (gName i) tYes te vs σ H Q := by
  have one : ∀ {D D2 : Addr} {o : HO} {u : HO}, H1 D = none → upd H1 D2 o D = some u → D = D2 := fun {D D2 o u} h1 h2 => by
    by_cases c : D = D2
    · exact c
    · rw [upd_ne c, h1] at h2; cases h2
  refine rd_lc hw w (fun j acc H' => ∃ D acc0, H1 D = none ∧ H' = upd H1 D (.lst acc0) ∧ acc = zs.take j) (fun D hD => ⟨D, [], hD, rfl, by simp⟩) ?_ ?_ hl hv ?_ ?_
  · rintro D j acc y H' hD hD2 ⟨D2, acc0, hD3, rfl, e⟩
    have e2 := one hD hD2
    subst e2
    exact ⟨D, _, hD, upd_upd, e⟩
  · rintro j acc H' _ ⟨D, acc0, hD, rfl, _⟩
    exact hG D _ hD
  · rintro D j x acc H' H'' R hD hj ha ⟨D2, acc0, hD3, rfl, rfl⟩ hD2 y go
    have e2 := one hD hD2
    subst e2
    rw [upd_same] at hD2
    cases hD2
    have e3 := hY _ _ _ _ y
    subst e3
    refine hs D j x zs[j] _ _ R hD (List.getElem?_eq_getElem hj) rfl y ?_
    exact go zs[j] _ upd_same ⟨D, _, hD, rfl, by rw [List.take_add_one, List.getElem?_eq_getElem hj]; rfl⟩
  · rintro D acc H' hD ha ⟨D2, acc0, hD3, rfl, rfl⟩ hD2
    have e2 := one hD hD2
    subst e2
    rw [upd_same] at hD2
    cases hD2
    rw [List.take_length]
    exact hd D hD
theorem same_at {H H' : Hp} {p : Addr} {o : HO} (h : H p = none) (s : Same H H') : Same H (upd H' p o) := fun b u e => by
  have n : b ≠ p := fun z => by rw [z, h] at e; cases e
  rw [upd_ne n]
  exact s b u e
/-- a comprehension whose items only lay new things: the list zs is made -/
theorem rd_lc_same {wi : TI} {i : Nat} {te : TE} {vs : List Nat} {σ : L2.St} {H H1 : Hp} {J : It} {G : Hp → Prop} {Y : Nat → Hp → V → Hp → Prop} {Q : VK} (zs : List V) (hw : ∀ R : It → Hp → Prop, R J H1 → wi σ H R) (w : Walk J zs.length G Y)
    (hG : ∀ H', Same H1 H' → G H') (hl : zs.length < sizeLine) (hv : ∀ x, wipe ((wipe σ vs).set i (some x)) vs = wipe σ vs)
    (hs : ∀ j x z H' H'' (R : VK), zs[j]? = some z → Same H1 H' → Y j H' x H'' → (∀ H4, Same H'' H4 → R z H4) → te ((wipe σ vs).set i (some x)) H'' R)
    (hd : ∀ D H', H1 D = none → Same H1 H' → H' D = some (.lst zs) → Q (.ref D) H') (hY : ∀ j H' x H'', Y j H' x H'' → Same H' H'') : tLc wi (gName i) tYes te vs σ H Q := by
  refine rd_lc hw w (fun j acc H' => Same H1 H' ∧ acc = zs.take j) (fun D hD => ⟨same_new hD, by simp⟩) ?_ ?_ hl hv ?_ ?_
  · rintro D j acc y H' hD hD2 ⟨s, e⟩
    exact ⟨same_at hD s, e⟩
  · rintro j acc H' _ ⟨s, _⟩
    exact hG _ s
  · rintro D j x acc H' H'' R hD hj ha ⟨s, rfl⟩ hD2 y go
    refine hs j x zs[j] _ _ R (List.getElem?_eq_getElem hj) s y fun H4 s4 => ?_
    have s5 := (hY _ _ _ _ y).trans s4
    exact go zs[j] _ (s5 _ _ hD2) ⟨s.trans s5, by rw [List.take_add_one, List.getElem?_eq_getElem hj]; rfl⟩
  · rintro D acc H' hD ha ⟨s, rfl⟩ hD2
    rw [List.take_length] at hD2
    exact hd D H' hD s hD2
/-- a comprehension with a test whose items touch nothing -/
theorem rd_lc_filter {wi : TI} {i : Nat} {tt : TT} {te : TE} {vs : List Nat} {σ : L2.St} {H H1 : Hp} {J : It} {G : Hp → Prop} {Q : VK} (xs : List V) (p : V → Bool) (f : V → V) (hw : ∀ R : It → Hp → Prop, R J H1 → wi σ H R) (w : Walk J xs.length G (YAt xs))
    (hG : ∀ D o, H1 D = none → G (upd H1 D o)) (hl : xs.length < sizeLine) (hv : ∀ x, wipe ((wipe σ vs).set i (some x)) vs = wipe σ vs)
    (ht : ∀ x H' (R : Bool → Hp → Prop), x ∈ xs → R (p x) H' → tt ((wipe σ vs).set i (some x)) H' R)
    (hs : ∀ x H' (R : VK), x ∈ xs → p x = true → R (f x) H' → te ((wipe σ vs).set i (some x)) H' R)
    (hd : ∀ D, H1 D = none → Q (.ref D) (upd H1 D (.lst ((xs.filter p).map f)))) : tLc wi (gName i) tt te vs σ H Q := by
  refine hw _ fun D hD => ?_
  refine lc_it w (fun j H' => H' = upd H1 D (.lst (((xs.take j).filter p).map f))) (by simp) (fun j H' hj e => by rw [e]; exact hG D _ hD) ?_ ?_
  · rintro j x H' H'' hj rfl ⟨rfl, hx⟩
    have hm : x ∈ xs := List.mem_of_getElem? hx
    have et : xs.take (j + 1) = xs.take j ++ [x] := by rw [List.take_add_one, hx]; rfl
    refine ⟨hv x, ht x _ _ hm ?_⟩
    cases e : p x with
    | true =>
      refine iteT (hs x _ _ hm e ⟨_, upd_same, ?_, ?_⟩)
      · rw [List.length_map]
        exact Nat.lt_of_le_of_lt (Nat.le_trans (List.length_filter_le _ _) (by rw [List.length_take]; exact Nat.min_le_right _ _)) hl
      · rw [upd_upd, et, List.filter_append, List.map_append]
        simp [e]
    | false =>
      refine iteF ?_
      rw [et, List.filter_append]
      simp [e]
  · rintro H' rfl
    rw [List.take_length]
    exact hd D hD
end FK

/-! Polynomials as lists of integers: trimming, primitive parts, remainders; what scaling does. -/
namespace P13
def trim (xs : List Int) : List Int := (xs.reverse.dropWhile (· == 0)).reverse
def scale (t : Int) (xs : List Int) : List Int := xs.map (t * ·)
theorem scale_length (t : Int) (xs : List Int) : (scale t xs).length = xs.length := List.length_map _
theorem scale_nil {t : Int} : scale t [] = [] := rfl
theorem scale_scale (s t : Int) (xs : List Int) : scale s (scale t xs) = scale (s * t) xs := by
  unfold scale
  rw [List.map_map]
  congr 1
  funext x
  show s * (t * x) = s * t * x
  rw [Int.mul_assoc]
theorem scale_one (xs : List Int) : scale 1 xs = xs := by
  unfold scale
  have : (fun x : Int => 1 * x) = id := by funext x; exact Int.one_mul x
  rw [this, List.map_id]
theorem trim_scale {t : Int} (ht : t ≠ 0) (xs : List Int) : trim (scale t xs) = scale t (trim xs) := by
  unfold trim scale
  rw [← List.map_reverse, List.dropWhile_map, List.map_reverse]
  congr 2
  congr 1
  funext x
  show (t * x == 0) = (x == 0)
  by_cases h : x = 0
  · subst h; simp
  · rw [beq_eq_false_iff_ne.mpr h, beq_eq_false_iff_ne.mpr (Int.mul_ne_zero ht h)]
/-- the greatest common divisor of the items -/
def gcdl (xs : List Int) : Nat := xs.foldl (fun g n => Nat.gcd g n.natAbs) 0
theorem foldl_gcd (xs : List Int) : ∀ g : Nat, xs.foldl (fun g n => Nat.gcd g n.natAbs) g = Nat.gcd g (gcdl xs) := by
  induction xs with
  | nil => intro g; simp [gcdl]
  | cons x xs ih =>
    intro g
    show xs.foldl _ (Nat.gcd g x.natAbs) = Nat.gcd g (xs.foldl _ (Nat.gcd 0 x.natAbs))
    rw [ih, ih, Nat.gcd_zero_left, Nat.gcd_assoc]
theorem gcdl_cons (x : Int) (xs : List Int) : gcdl (x :: xs) = Nat.gcd x.natAbs (gcdl xs) := by
  show xs.foldl _ (Nat.gcd 0 x.natAbs) = _
  rw [foldl_gcd, Nat.gcd_zero_left]
theorem gcdl_append (xs : List Int) (x : Int) : gcdl (xs ++ [x]) = Nat.gcd (gcdl xs) x.natAbs := by
  unfold gcdl
  rw [List.foldl_append]
  rfl
theorem gcdl_dvd {x : Int} : ∀ {xs : List Int}, x ∈ xs → (gcdl xs : Int) ∣ x
  | y :: ys, h => by
    rw [gcdl_cons]
    rcases List.mem_cons.mp h with rfl | h
    · exact Int.ofNat_dvd_left.mpr (Nat.gcd_dvd_left _ _)
    · exact Int.dvd_trans (Int.natCast_dvd_natCast.mpr (Nat.gcd_dvd_right _ _)) (gcdl_dvd h)
theorem gcdl_scale (t : Int) (xs : List Int) : gcdl (scale t xs) = t.natAbs * gcdl xs := by
  induction xs with
  | nil => simp [gcdl, scale]
  | cons x xs ih =>
    show gcdl ((t * x) :: scale t xs) = _
    rw [gcdl_cons, gcdl_cons, ih, Int.natAbs_mul, Nat.gcd_mul_left]
/-- divided by the common divisor -/
def prim (xs : List Int) : List Int := xs.map (· / (gcdl xs : Int))
theorem prim_length (xs : List Int) : (prim xs).length = xs.length := List.length_map _
theorem prim_nil : prim [] = [] := rfl
theorem gcdl_pos {xs : List Int} {x : Int} (h : x ∈ xs) (h0 : x ≠ 0) : 0 < gcdl xs := by
  rcases Nat.eq_zero_or_pos (gcdl xs) with e | e
  · have d := gcdl_dvd h
    rw [e] at d
    exact absurd (Int.zero_dvd.mp d) h0
  · exact e
theorem scale_prim (xs : List Int) : scale (gcdl xs) (prim xs) = xs := by
  unfold scale prim
  rw [List.map_map]
  have : ∀ x ∈ xs, ((fun y : Int => (gcdl xs : Int) * y) ∘ fun y : Int => y / (gcdl xs : Int)) x = x := fun x hx => Int.mul_ediv_cancel' (gcdl_dvd hx)
  rw [List.map_congr_left this]
  exact List.map_id _
theorem prim_scale {t : Int} (ht : t ≠ 0) (xs : List Int) (h : gcdl xs = 1) : prim (scale t xs) = scale t.sign xs := by
  unfold prim
  rw [gcdl_scale, h, Nat.mul_one]
  unfold scale
  rw [List.map_map]
  congr 1
  funext x
  show t * x / (t.natAbs : Int) = t.sign * x
  have e : t = t.sign * (t.natAbs : Int) := (Int.sign_mul_natAbs t).symm
  have n0 : (t.natAbs : Int) ≠ 0 := by omega
  conv => lhs; arg 1; rw [e]
  rw [Int.mul_assoc, Int.mul_comm (t.natAbs : Int) x, ← Int.mul_assoc, Int.mul_ediv_cancel _ n0]
theorem gcdl_prim {xs : List Int} (h : 0 < gcdl xs) : gcdl (prim xs) = 1 := by
  have e := gcdl_scale (gcdl xs : Int) (prim xs)
  rw [scale_prim, Int.natAbs_natCast] at e
  have : gcdl xs * 1 = gcdl xs * gcdl (prim xs) := by rw [Nat.mul_one]; exact e
  exact (Nat.eq_of_mul_eq_mul_left h this).symm
theorem prim_le {xs : List Int} {y : Int} (hy : y ∈ prim xs) : ∃ x ∈ xs, y.natAbs ≤ x.natAbs := by
  obtain ⟨x, hx, rfl⟩ := List.mem_map.mp hy
  exact ⟨x, hx, by
    have := Int.natAbs_ediv_le_natAbs x (gcdl xs : Int)
    exact this⟩
/-- one step of a division with remainder, everything multiplied by the divisor's last coefficient -/
def raw (left other : List Int) : List Int := left.mapIdx fun k x => x * other.getLastD 0 - (if k < left.length - other.length then 0 else left.getLastD 0 * other.getD (k - (left.length - other.length)) 0)
def es (left other : List Int) : List Int := trim (raw left other)
theorem raw_length (left other : List Int) : (raw left other).length = left.length := List.length_mapIdx
theorem getLastD_scale (t : Int) (xs : List Int) : (scale t xs).getLastD 0 = t * xs.getLastD 0 := by
  unfold scale
  rw [List.getLastD_eq_getLast?, List.getLastD_eq_getLast?, List.getLast?_map]
  cases xs.getLast? with
  | none => simp
  | some x => rfl
theorem getD_scale (t : Int) (xs : List Int) (k : Nat) : (scale t xs).getD k 0 = t * xs.getD k 0 := by
  unfold scale
  rw [List.getD_eq_getElem?_getD, List.getD_eq_getElem?_getD, List.getElem?_map]
  cases xs[k]? with
  | none => simp
  | some x => rfl
theorem raw_get (left other : List Int) (k : Nat) : (raw left other)[k]? = (left[k]?).map fun x => x * other.getLastD 0 - (if k < left.length - other.length then 0 else left.getLastD 0 * other.getD (k - (left.length - other.length)) 0) := by
  unfold raw
  rw [List.getElem?_mapIdx]
theorem scale_get (t : Int) (xs : List Int) (k : Nat) : (scale t xs)[k]? = (xs[k]?).map (t * ·) := by
  unfold scale
  rw [List.getElem?_map]
theorem raw_scale_left (t : Int) (left other : List Int) : raw (scale t left) other = scale t (raw left other) := by
  refine List.ext_getElem? fun k => ?_
  rw [raw_get, scale_get, scale_get, raw_get, scale_length, getLastD_scale]
  cases left[k]? with
  | none => rfl
  | some x =>
    show some (t * x * _ - _) = some (t * (x * _ - _))
    by_cases c : k < left.length - other.length
    · rw [if_pos c, if_pos c, Int.sub_zero, Int.sub_zero, Int.mul_assoc]
    · rw [if_neg c, if_neg c, Int.mul_sub, Int.mul_assoc, Int.mul_assoc]
theorem raw_scale_right (t : Int) (left other : List Int) : raw left (scale t other) = scale t (raw left other) := by
  refine List.ext_getElem? fun k => ?_
  rw [raw_get, scale_get, raw_get, scale_length, getLastD_scale, getD_scale]
  cases left[k]? with
  | none => rfl
  | some x =>
    show some (x * (t * _) - _) = some (t * (x * _ - _))
    by_cases c : k < left.length - other.length
    · rw [if_pos c, if_pos c, Int.sub_zero, Int.sub_zero, Int.mul_left_comm]
    · rw [if_neg c, if_neg c, Int.mul_sub, Int.mul_left_comm, Int.mul_left_comm (left.getLastD 0)]
theorem es_scale_left {t : Int} (ht : t ≠ 0) (left other : List Int) : es (scale t left) other = scale t (es left other) := by
  unfold es
  rw [raw_scale_left, trim_scale ht]
theorem es_scale_right {t : Int} (ht : t ≠ 0) (left other : List Int) : es left (scale t other) = scale t (es left other) := by
  unfold es
  rw [raw_scale_right, trim_scale ht]
/-! lengths -/
theorem dropWhile_length_le {α : Type} (p : α → Bool) : ∀ xs : List α, (xs.dropWhile p).length ≤ xs.length
  | [] => Nat.le_refl _
  | x :: xs => by
    rw [List.dropWhile_cons]
    split
    · exact Nat.le_succ_of_le (dropWhile_length_le p xs)
    · exact Nat.le_refl _
theorem trim_length_le (xs : List Int) : (trim xs).length ≤ xs.length := by
  unfold trim
  rw [List.length_reverse, ← List.length_reverse (as := xs)]
  exact dropWhile_length_le _ _
theorem trim_snoc_zero (xs : List Int) : trim (xs ++ [0]) = trim xs := by
  unfold trim
  rw [List.reverse_append]
  rfl
theorem trim_snoc {x : Int} (h : x ≠ 0) (xs : List Int) : trim (xs ++ [x]) = xs ++ [x] := by
  unfold trim
  rw [List.reverse_append]
  show (List.dropWhile (· == 0) (x :: xs.reverse)).reverse = _
  rw [List.dropWhile_cons, if_neg (by simpa using h)]
  simp
/-- trimmed: empty, or the last item is not 0 -/
def Pol (xs : List Int) : Prop := xs = [] ∨ xs.getLastD 0 ≠ 0
theorem snoc_cases (xs : List Int) : xs = [] ∨ ∃ ys y, xs = ys ++ [y] := by
  cases h : xs.reverse with
  | nil => exact .inl (List.reverse_eq_nil_iff.mp h)
  | cons y ys => exact .inr ⟨ys.reverse, y, by rw [← List.reverse_reverse (as := xs), h, List.reverse_cons]⟩
theorem getLastD_snoc (xs : List Int) (x : Int) : (xs ++ [x]).getLastD 0 = x := by
  rw [List.getLastD_eq_getLast?, List.getLast?_append]
  rfl
theorem pol_trim : ∀ (n : Nat) (xs : List Int), xs.length ≤ n → Pol (trim xs)
  | 0, xs, h => by
    have : xs = [] := List.eq_nil_of_length_eq_zero (by omega)
    subst this
    exact .inl rfl
  | n + 1, xs, h => by
    rcases snoc_cases xs with rfl | ⟨ys, y, rfl⟩
    · exact .inl rfl
    · by_cases e : y = 0
      · subst e
        rw [trim_snoc_zero]
        exact pol_trim n ys (by simpa using h)
      · rw [trim_snoc e]
        exact .inr (by rw [getLastD_snoc]; exact e)
theorem trim_pol {xs : List Int} (h : Pol xs) : trim xs = xs := by
  rcases snoc_cases xs with rfl | ⟨ys, y, rfl⟩
  · rfl
  · rcases h with h | h
    · simp at h
    · rw [getLastD_snoc] at h
      exact trim_snoc h ys
theorem trim_lt {xs : List Int} (h : xs ≠ []) (h0 : xs.getLastD 0 = 0) : (trim xs).length < xs.length := by
  rcases snoc_cases xs with rfl | ⟨ys, y, rfl⟩
  · exact absurd rfl h
  · rw [getLastD_snoc] at h0
    subst h0
    rw [trim_snoc_zero]
    have := trim_length_le ys
    rw [List.length_append, List.length_singleton]
    omega
theorem getLastD_get (xs : List Int) : xs.getLastD 0 = xs.getD (xs.length - 1) 0 := by
  rw [List.getLastD_eq_getLast?, List.getLast?_eq_getElem?, List.getD_eq_getElem?_getD]
theorem es_length {left other : List Int} (h : other ≠ []) (hl : other.length ≤ left.length) : (es left other).length < left.length := by
  have ho : 0 < other.length := List.length_pos_iff.mpr h
  have hne : raw left other ≠ [] := fun e => by
    have := raw_length left other
    rw [e] at this
    simp at this
    omega
  have z : (raw left other).getLastD 0 = 0 := by
    rw [getLastD_get, raw_length, List.getD_eq_getElem?_getD, raw_get]
    have hx : left[left.length - 1]? = some (left.getLastD 0) := by
      rw [getLastD_get, List.getD_eq_getElem?_getD]
      rw [List.getElem?_eq_getElem (by omega)]
      rfl
    rw [hx]
    show left.getLastD 0 * other.getLastD 0 - (if left.length - 1 < left.length - other.length then 0 else left.getLastD 0 * other.getD (left.length - 1 - (left.length - other.length)) 0) = 0
    rw [if_neg (by omega), show left.length - 1 - (left.length - other.length) = other.length - 1 by omega, ← getLastD_get, Int.sub_self]
  have := trim_lt hne z
  rw [raw_length] at this
  exact this
/-! remainders -/
def remF : Nat → List Int → List Int → List Int
  | 0, left, _ => left
  | n + 1, left, other => if left.length < other.length then left else remF n (es left other) other
def lremF : Nat → List Int → List Int → List Int
  | 0, left, _ => left
  | n + 1, left, other => if left.length < other.length then left else lremF n (prim (es left other)) other
theorem remF_done {n : Nat} {left other : List Int} (h : left.length < other.length) : remF n left other = left := by
  cases n with
  | zero => rfl
  | succ n => show (if _ then _ else _) = _; rw [if_pos h]
theorem lremF_done {n : Nat} {left other : List Int} (h : left.length < other.length) : lremF n left other = left := by
  cases n with
  | zero => rfl
  | succ n => show (if _ then _ else _) = _; rw [if_pos h]
theorem remF_length : ∀ (n : Nat) (left other : List Int), other ≠ [] → left.length ≤ n → (remF n left other).length < other.length
  | 0, left, other, h, hl => by
    show left.length < _
    have := List.length_pos_iff.mpr h
    omega
  | n + 1, left, other, h, hl => by
    show (if left.length < other.length then left else remF n (es left other) other).length < _
    by_cases c : left.length < other.length
    · rw [if_pos c]; exact c
    · rw [if_neg c]
      have := es_length h (Nat.le_of_not_lt c)
      exact remF_length n _ _ h (by omega)
theorem lremF_length : ∀ (n : Nat) (left other : List Int), other ≠ [] → left.length ≤ n → (lremF n left other).length < other.length
  | 0, left, other, h, hl => by
    show left.length < _
    have := List.length_pos_iff.mpr h
    omega
  | n + 1, left, other, h, hl => by
    show (if left.length < other.length then left else lremF n (prim (es left other)) other).length < _
    by_cases c : left.length < other.length
    · rw [if_pos c]; exact c
    · rw [if_neg c]
      have := es_length h (Nat.le_of_not_lt c)
      exact lremF_length n _ _ h (by rw [prim_length]; omega)
theorem last_mem {xs : List Int} (h : xs ≠ []) : xs.getLastD 0 ∈ xs := by
  rcases snoc_cases xs with rfl | ⟨ys, y, rfl⟩
  · exact absurd rfl h
  · rw [getLastD_snoc]
    simp
theorem pol_gcd {xs : List Int} (h : Pol xs) (hne : xs ≠ []) : 0 < gcdl xs := by
  rcases h with h | h
  · exact absurd h hne
  · exact gcdl_pos (last_mem hne) h
/-- empty, or without a common divisor -/
def Good (xs : List Int) : Prop := xs = [] ∨ gcdl xs = 1
theorem good_prim {xs : List Int} (h : Pol xs) : Good (prim xs) := by
  by_cases e : xs = []
  · subst e; exact .inl rfl
  · exact .inr (gcdl_prim (pol_gcd h e))
theorem prim_of_scale {a : Int} (ha : a ≠ 0) {xs : List Int} (h : Good xs) : prim (scale a xs) = scale a.sign xs := by
  rcases h with rfl | h
  · rfl
  · exact prim_scale ha xs h
theorem pol_es (left other : List Int) : Pol (es left other) := pol_trim _ _ (Nat.le_refl _)
theorem rem_rel : ∀ (n : Nat) (left other : List Int) (s t : Int), s ≠ 0 → t ≠ 0 → ∃ u : Int, u ≠ 0 ∧ remF n (scale t left) (scale s other) = scale u (lremF n left other)
  | 0, left, other, s, t, hs, ht => ⟨t, ht, rfl⟩
  | n + 1, left, other, s, t, hs, ht => by
    show ∃ u : Int, u ≠ 0 ∧ (if (scale t left).length < (scale s other).length then scale t left else remF n (es (scale t left) (scale s other)) (scale s other)) = scale u (if left.length < other.length then left else lremF n (prim (es left other)) other)
    rw [scale_length, scale_length]
    by_cases c : left.length < other.length
    · rw [if_pos c, if_pos c]
      exact ⟨t, ht, rfl⟩
    · rw [if_neg c, if_neg c, es_scale_left ht, es_scale_right hs, scale_scale]
      by_cases e : es left other = []
      · rw [e]
        obtain ⟨u, hu, h⟩ := rem_rel n [] other s 1 hs (by decide)
        exact ⟨u, hu, h⟩
      · have hg := pol_gcd (pol_es left other) e
        obtain ⟨u, hu, h⟩ := rem_rel n (prim (es left other)) other s (t * s * (gcdl (es left other) : Int)) hs (Int.mul_ne_zero (Int.mul_ne_zero ht hs) (by omega))
        rw [← scale_scale, scale_prim] at h
        exact ⟨u, hu, h⟩
theorem good_lrem : ∀ (n : Nat) (left other : List Int), Good left → Good (lremF n left other)
  | 0, left, _, h => h
  | n + 1, left, other, h => by
    show Good (if left.length < other.length then left else lremF n (prim (es left other)) other)
    by_cases c : left.length < other.length
    · rw [if_pos c]; exact h
    · rw [if_neg c]; exact good_lrem n _ _ (good_prim (pol_es left other))
/-! the common divisor -/
def comF : Nat → List Int → List Int → List Int
  | 0, one, _ => one
  | n + 1, one, other => if other = [] then one else comF n other (remF 200 (prim one) (prim other))
def lcomF : Nat → List Int → List Int → List Int
  | 0, first, _ => first
  | n + 1, first, second => if second = [] then first else lcomF n second (lremF 200 first second)
theorem scale_eq_nil {t : Int} {xs : List Int} : scale t xs = [] ↔ xs = [] := List.map_eq_nil_iff
theorem sign_ne {a : Int} (h : a ≠ 0) : a.sign ≠ 0 := fun e => h (Int.sign_eq_zero_iff_zero.mp e)
theorem com_rel : ∀ (n : Nat) (first second : List Int) (a b : Int), a ≠ 0 → b ≠ 0 → Good first → Good second → (comF n (scale a first) (scale b second)).length = (lcomF n first second).length
  | 0, first, _, a, _, _, _, _, _ => scale_length a first
  | n + 1, first, second, a, b, ha, hb, gf, gs => by
    show (if scale b second = [] then scale a first else comF n (scale b second) (remF 200 (prim (scale a first)) (prim (scale b second)))).length = (if second = [] then first else lcomF n second (lremF 200 first second)).length
    by_cases c : second = []
    · rw [if_pos c, if_pos (scale_eq_nil.mpr c)]
      exact scale_length a first
    · rw [if_neg c, if_neg (fun z => c (scale_eq_nil.mp z)), prim_of_scale ha gf, prim_of_scale hb gs]
      obtain ⟨u, hu, h⟩ := rem_rel 200 first second b.sign a.sign (sign_ne hb) (sign_ne ha)
      rw [h]
      exact com_rel n second _ b u hb hu gs (good_lrem 200 first second gf)
/-! sizes -/
def Bd (b : Nat) (xs : List Int) : Prop := ∀ x ∈ xs, x.natAbs < 2 ^ b
theorem Bd.mono {b c : Nat} {xs : List Int} (h : Bd b xs) (hc : b ≤ c) : Bd c xs := fun x hx => Nat.lt_of_lt_of_le (h x hx) (Nat.pow_le_pow_right (by decide) hc)
theorem bd_nil {b : Nat} : Bd b [] := fun _ h => nomatch h
theorem bd_prim {b : Nat} {xs : List Int} (h : Bd b xs) : Bd b (prim xs) := fun y hy => by
  obtain ⟨x, hx, hle⟩ := prim_le hy
  exact Nat.lt_of_le_of_lt hle (h x hx)
theorem trim_sub {xs : List Int} {x : Int} (h : x ∈ trim xs) : x ∈ xs := by
  unfold trim at h
  have h2 := List.mem_reverse.mp h
  exact List.mem_reverse.mp ((List.dropWhile_sublist _).subset h2)
theorem bd_trim {b : Nat} {xs : List Int} (h : Bd b xs) : Bd b (trim xs) := fun x hx => h x (trim_sub hx)
theorem bd_getLastD {b : Nat} {xs : List Int} (h : Bd b xs) : (xs.getLastD 0).natAbs < 2 ^ b := by
  by_cases e : xs = []
  · subst e
    exact Nat.pow_pos (by decide)
  · exact h _ (last_mem e)
theorem bd_getD {b : Nat} {xs : List Int} (h : Bd b xs) (k : Nat) : (xs.getD k 0).natAbs < 2 ^ b := by
  rw [List.getD_eq_getElem?_getD]
  cases e : xs[k]? with
  | none => exact Nat.pow_pos (by decide)
  | some x => exact h x (List.mem_of_getElem? e)
theorem mul_lt {p q : Nat} {x y : Int} (hx : x.natAbs < 2 ^ p) (hy : y.natAbs < 2 ^ q) : (x * y).natAbs < 2 ^ (p + q) := by
  rw [Int.natAbs_mul, Nat.pow_add]
  exact Nat.mul_lt_mul'' hx hy
theorem sub_lt {p : Nat} {x y : Int} (hx : x.natAbs < 2 ^ p) (hy : y.natAbs < 2 ^ p) : (x - y).natAbs < 2 ^ (p + 1) := by
  rw [Nat.pow_succ]
  omega
theorem bd_raw {p q : Nat} {left other : List Int} (hl : Bd p left) (ho : Bd q other) : Bd (p + q + 1) (raw left other) := fun z hz => by
  obtain ⟨k, hk⟩ := List.getElem?_of_mem hz
  rw [raw_get] at hk
  cases e : left[k]? with
  | none => rw [e] at hk; cases hk
  | some x =>
    rw [e] at hk
    cases hk
    refine sub_lt (mul_lt (hl x (List.mem_of_getElem? e)) (bd_getLastD ho)) ?_
    by_cases c : k < left.length - other.length
    · rw [if_pos c]
      exact Nat.pow_pos (by decide)
    · rw [if_neg c]
      exact mul_lt (bd_getLastD hl) (bd_getD ho _)
theorem bd_es {p q : Nat} {left other : List Int} (hl : Bd p left) (ho : Bd q other) : Bd (p + q + 1) (es left other) := bd_trim (bd_raw hl ho)
theorem bd_rem : ∀ (n p q : Nat) (left other : List Int), other ≠ [] → Bd p left → Bd q other → Bd (p + (left.length + 1 - other.length) * (q + 1)) (remF n left other)
  | 0, p, q, left, other, _, hl, _ => hl.mono (Nat.le_add_right _ _)
  | n + 1, p, q, left, other, h, hl, ho => by
    show Bd _ (if left.length < other.length then left else remF n (es left other) other)
    by_cases c : left.length < other.length
    · rw [if_pos c]; exact hl.mono (Nat.le_add_right _ _)
    · rw [if_neg c]
      have hlen := es_length h (Nat.le_of_not_lt c)
      have ih := bd_rem n (p + q + 1) q (es left other) other h (bd_es hl ho) ho
      refine ih.mono ?_
      have e : left.length + 1 - other.length = (left.length - other.length) + 1 := by omega
      rw [e, Nat.succ_mul]
      have : (es left other).length + 1 - other.length ≤ left.length - other.length := by omega
      have := Nat.mul_le_mul_right (q + 1) this
      omega
theorem bd_lrem : ∀ (n p q : Nat) (left other : List Int), other ≠ [] → Bd p left → Bd q other → Bd (p + (left.length + 1 - other.length) * (q + 1)) (lremF n left other)
  | 0, p, q, left, other, _, hl, _ => hl.mono (Nat.le_add_right _ _)
  | n + 1, p, q, left, other, h, hl, ho => by
    show Bd _ (if left.length < other.length then left else lremF n (prim (es left other)) other)
    by_cases c : left.length < other.length
    · rw [if_pos c]; exact hl.mono (Nat.le_add_right _ _)
    · rw [if_neg c]
      have hlen := es_length h (Nat.le_of_not_lt c)
      have ih := bd_lrem n (p + q + 1) q (prim (es left other)) other h (bd_prim (bd_es hl ho)) ho
      refine ih.mono ?_
      rw [prim_length]
      have e : left.length + 1 - other.length = (left.length - other.length) + 1 := by omega
      rw [e, Nat.succ_mul]
      have : (es left other).length + 1 - other.length ≤ left.length - other.length := by omega
      have := Nat.mul_le_mul_right (q + 1) this
      omega
/-- how many bits the later one of two neighbours has, by the length of the earlier one -/
def BB : Nat → Nat
  | 0 | 1 | 2 => 2855
  | 3 => 1182
  | 4 => 489
  | 5 => 202
  | 6 => 83
  | 7 => 34
  | 8 => 13
  | _ => 6
theorem bb_next : ∀ l : Fin 9, ∀ m : Fin 9, m.1 < l.1 → (2 ≤ m.1 → BB (l.1 + 1) + (l.1 + 1 - m.1) * (BB l.1 + 1) ≤ BB m.1) ∧ BB l.1 ≤ BB (m.1 + 1) := by decide
theorem bb_mid : ∀ l : Fin 9, 2 ≤ l.1 → BB (l.1 + 1) + (l.1 - 2) * (BB l.1 + 1) ≤ 1950 := by decide
theorem bb_first : ∀ l : Fin 9, ∀ m : Fin 9, 6 + (l.1 + 1 - m.1) * 7 ≤ BB m.1 ∧ 6 ≤ BB (m.1 + 1) ∧ 6 + (l.1 - 2) * 7 ≤ 1950 := by decide
theorem bb_le : ∀ l : Fin 10, BB l.1 ≤ 2855 := by decide
/-! the greatest common divisor by divisions: how many it takes -/
def euc : Nat → Nat → Nat → Nat × Nat
  | 0, d, n => (d, n)
  | k + 1, d, n => if n = 0 then (d, n) else euc k n (d % n)
theorem euc_gcd : ∀ (k d n : Nat), Nat.gcd (euc k d n).1 (euc k d n).2 = Nat.gcd d n
  | 0, _, _ => rfl
  | k + 1, d, n => by
    show Nat.gcd (if n = 0 then (d, n) else euc k n (d % n)).1 (if n = 0 then (d, n) else euc k n (d % n)).2 = _
    by_cases c : n = 0
    · rw [if_pos c]
    · rw [if_neg c, euc_gcd k, Nat.gcd_comm n, ← Nat.gcd_rec, Nat.gcd_comm]
theorem euc_done : ∀ (b k d n : Nat), n < 2 ^ b → 2 * b < k → (euc k d n).2 = 0
  | 0, k, d, n, h, hk => by
    have : n = 0 := by simpa using h
    subst this
    cases k with
    | zero => omega
    | succ k => show (if _ then _ else _ : Nat × Nat).2 = 0; rw [if_pos rfl]
  | b + 1, k, d, n, h, hk => by
    obtain ⟨k, rfl⟩ : ∃ j, k = j + 2 := ⟨k - 2, by omega⟩
    show (if n = 0 then (d, n) else euc (k + 1) n (d % n)).2 = 0
    by_cases c : n = 0
    · rw [if_pos c]; exact c
    · rw [if_neg c]
      have h1 : d % n < n := Nat.mod_lt _ (Nat.pos_of_ne_zero c)
      show (if d % n = 0 then (n, d % n) else euc k (d % n) (n % (d % n))).2 = 0
      by_cases c2 : d % n = 0
      · rw [if_pos c2]; exact c2
      · rw [if_neg c2]
        refine euc_done b k _ _ ?_ (by omega)
        have h2 : n % (d % n) < d % n := Nat.mod_lt _ (Nat.pos_of_ne_zero c2)
        have h3 := Nat.div_add_mod n (d % n)
        have h4 : 1 ≤ n / (d % n) := Nat.div_pos (Nat.le_of_lt h1) (Nat.pos_of_ne_zero c2)
        have h5 := Nat.mul_le_mul_left (d % n) h4
        rw [Nat.pow_succ] at h
        omega
theorem euc_zero {k n : Nat} (h : 2 ≤ k) : (euc k 0 n).2 = 0 := by
  obtain ⟨k, rfl⟩ : ∃ j, k = j + 2 := ⟨k - 2, by omega⟩
  show (if n = 0 then (0, n) else euc (k + 1) n (0 % n)).2 = 0
  by_cases c : n = 0
  · rw [if_pos c]; exact c
  · rw [if_neg c, Nat.zero_mod]
    show (if (0 : Nat) = 0 then (n, 0) else _ : Nat × Nat).2 = 0
    rw [if_pos rfl]
/-! the loop of one step of a division -/
def part (left other : List Int) (i : Nat) : List Int := left.mapIdx fun k x => x * other.getLastD 0 - (if k < left.length - other.length ∨ i ≤ k - (left.length - other.length) then 0 else left.getLastD 0 * other.getD (k - (left.length - other.length)) 0)
theorem part_length (left other : List Int) (i : Nat) : (part left other i).length = left.length := List.length_mapIdx
theorem part_get (left other : List Int) (i k : Nat) : (part left other i)[k]? = (left[k]?).map fun x => x * other.getLastD 0 - (if k < left.length - other.length ∨ i ≤ k - (left.length - other.length) then 0 else left.getLastD 0 * other.getD (k - (left.length - other.length)) 0) := by
  unfold part
  rw [List.getElem?_mapIdx]
theorem part_zero (left other : List Int) : part left other 0 = left.map (· * other.getLastD 0) := by
  refine List.ext_getElem? fun k => ?_
  rw [part_get, List.getElem?_map]
  cases left[k]? with
  | none => rfl
  | some x =>
    show some (_ - _) = some _
    rw [if_pos (.inr (Nat.zero_le _)), Int.sub_zero]
theorem part_full (left other : List Int) (h : other.length ≤ left.length) : part left other other.length = raw left other := by
  refine List.ext_getElem? fun k => ?_
  rw [part_get, raw_get]
  cases e : left[k]? with
  | none => rfl
  | some x =>
    have hk : k < left.length := by
      have := List.getElem?_eq_some_iff.mp e
      exact this.1
    show some (_ - _) = some (_ - _)
    by_cases c : k < left.length - other.length
    · rw [if_pos (.inl c), if_pos c]
    · rw [if_neg (by omega), if_neg c]
theorem part_item {left other : List Int} {i : Nat} (h : other.length ≤ left.length) (hi : i < other.length) : ∃ x, (part left other i)[i + (left.length - other.length)]? = some x ∧
    (part left other i).set (i + (left.length - other.length)) (x - left.getLastD 0 * other.getD i 0) = part left other (i + 1) := by
  have hk : i + (left.length - other.length) < left.length := by omega
  have hg : left[i + (left.length - other.length)]? = some left[i + (left.length - other.length)] := List.getElem?_eq_getElem hk
  refine ⟨_, by rw [part_get, hg]; rfl, ?_⟩
  refine List.ext_getElem? fun k => ?_
  rw [List.getElem?_set, part_length, part_get, part_get]
  by_cases e : i + (left.length - other.length) = k
  · subst e
    rw [if_pos rfl, if_pos hk, hg]
    show some (_ - _ - _) = some (_ - _)
    rw [if_pos (.inr (by omega)), if_neg (by omega), Int.sub_zero, show i + (left.length - other.length) - (left.length - other.length) = i by omega]
  · rw [if_neg e]
    cases left[k]? with
    | none => rfl
    | some x =>
      show some (_ - _) = some (_ - _)
      by_cases c : k < left.length - other.length
      · rw [if_pos (.inl c), if_pos (.inl c)]
      · by_cases c2 : i ≤ k - (left.length - other.length)
        · rw [if_pos (.inr c2), if_pos (.inr (by omega))]
        · rw [if_neg (by omega), if_neg (by omega)]
theorem pol_prim {xs : List Int} (h : Pol xs) : Pol (prim xs) := by
  rcases h with rfl | h
  · exact .inl rfl
  · refine .inr fun e => h ?_
    have e2 := getLastD_scale (gcdl xs : Int) (prim xs)
    rw [scale_prim, e, Int.mul_zero] at e2
    exact e2
theorem pol_rem : ∀ (n : Nat) (left other : List Int), Pol left → Pol (remF n left other)
  | 0, _, _, h => h
  | n + 1, left, other, h => by
    show Pol (if left.length < other.length then left else remF n (es left other) other)
    by_cases c : left.length < other.length
    · rw [if_pos c]; exact h
    · rw [if_neg c]; exact pol_rem n _ _ (pol_es left other)
theorem pol_lrem : ∀ (n : Nat) (left other : List Int), Pol left → Pol (lremF n left other)
  | 0, _, _, h => h
  | n + 1, left, other, h => by
    show Pol (if left.length < other.length then left else lremF n (prim (es left other)) other)
    by_cases c : left.length < other.length
    · rw [if_pos c]; exact h
    · rw [if_neg c]; exact pol_lrem n _ _ (pol_prim (pol_es left other))
/-- the sizes of two neighbours -/
def CInv (one other : List Int) : Prop := one.length ≤ 8 ∧ other.length ≤ 8 ∧ ((Bd 6 one ∧ Bd 6 other) ∨ (other.length < one.length ∧ Bd (BB (one.length + 1)) one ∧ Bd (BB one.length) other))
theorem bb_le' (l : Nat) : BB l ≤ 2855 := by
  by_cases h : l < 10
  · exact bb_le ⟨l, h⟩
  · match l, h with
    | l + 10, _ => exact (by decide : 6 ≤ 2855)
theorem cinv_bd {one other : List Int} (h : CInv one other) (hne : other ≠ []) : ∃ p q, Bd p one ∧ Bd q other ∧ p ≤ 2855 ∧ q ≤ 2855 ∧ (2 ≤ other.length → p + (one.length + 1 - other.length) * (q + 1) ≤ BB other.length) ∧ q ≤ BB (other.length + 1) ∧ (2 ≤ one.length → p + (one.length - 2) * (q + 1) ≤ 1950) := by
  obtain ⟨h1, h2, h | ⟨h3, h4, h5⟩⟩ := h
  · obtain ⟨c1, c2, c3⟩ := bb_first ⟨one.length, by omega⟩ ⟨other.length, by omega⟩
    exact ⟨6, 6, h.1, h.2, by decide, by decide, fun _ => c1, c2, fun _ => c3⟩
  · obtain ⟨c1, c2⟩ := bb_next ⟨one.length, by omega⟩ ⟨other.length, by omega⟩ h3
    exact ⟨_, _, h4, h5, bb_le' _, bb_le' _, c1, c2, fun z => bb_mid ⟨one.length, by omega⟩ z⟩
theorem cinv_next {one other r : List Int} (h : CInv one other) (hne : other ≠ []) (hr : r.length < other.length) (hb : ∀ p q, Bd p one → Bd q other → Bd (p + (one.length + 1 - other.length) * (q + 1)) r) : CInv other r := by
  obtain ⟨p, q, h1, h2, h3, h4, h5, h6, h7⟩ := cinv_bd h hne
  refine ⟨h.2.1, by have := h.2.1; omega, .inr ⟨hr, h2.mono h6, ?_⟩⟩
  by_cases c : 2 ≤ other.length
  · exact (hb p q h1 h2).mono (h5 c)
  · have : r = [] := List.eq_nil_of_length_eq_zero (by omega)
    subst this
    exact bd_nil
theorem prim_ne {xs : List Int} (h : xs ≠ []) : prim xs ≠ [] := fun e => h (List.eq_nil_of_length_eq_zero (by rw [← prim_length, e]; rfl))
theorem cinv_rem {one other : List Int} (h : CInv one other) (hne : other ≠ []) : CInv other (remF 200 (prim one) (prim other)) := by
  have hl := remF_length 200 (prim one) (prim other) (prim_ne hne) (by rw [prim_length]; have := h.1; omega)
  rw [prim_length] at hl
  refine cinv_next h hne hl fun p q h1 h2 => ?_
  have := bd_rem 200 p q (prim one) (prim other) (prim_ne hne) (bd_prim h1) (bd_prim h2)
  rw [prim_length, prim_length] at this
  exact this
theorem cinv_lrem {one other : List Int} (h : CInv one other) (hne : other ≠ []) : CInv other (lremF 200 one other) :=
  cinv_next h hne (lremF_length 200 one other hne (by have := h.1; omega)) fun p q h1 h2 => bd_lrem 200 p q one other hne h1 h2
theorem cinv_prim {one other : List Int} (h : CInv one other) : CInv (prim one) (prim other) := by
  obtain ⟨h1, h2, h3⟩ := h
  unfold CInv
  rw [prim_length, prim_length]
  exact ⟨h1, h2, h3.imp (fun c => ⟨bd_prim c.1, bd_prim c.2⟩) fun c => ⟨c.1, bd_prim c.2.1, bd_prim c.2.2⟩⟩
end P13

/-! The series of a fraction, and products, as lists. -/
namespace P13
/-- what the coefficients before take away -/
def sb (ys F : List Int) (n : Nat) : Nat → Int
  | 0 => 0
  | k + 1 => sb ys F n k + ys.getD (k + 1) 0 * F.getD (n - (k + 1)) 0
def ser (xs ys : List Int) : Nat → List Int
  | 0 => []
  | n + 1 => ser xs ys n ++ [xs.getD n 0 - sb ys (ser xs ys n) n (min n (ys.length - 1))]
theorem ser_length (xs ys : List Int) : ∀ n, (ser xs ys n).length = n
  | 0 => rfl
  | n + 1 => by
    show (ser xs ys n ++ [_]).length = _
    rw [List.length_append, ser_length xs ys n]
    rfl
theorem ser_getD (xs ys : List Int) {i : Nat} : ∀ {n m : Nat}, i < n → n ≤ m → (ser xs ys m).getD i 0 = (ser xs ys n).getD i 0 := by
  intro n m hi hm
  induction m with
  | zero => omega
  | succ m ih =>
    by_cases e : n = m + 1
    · rw [e]
    · rw [← ih (by omega)]
      show (ser xs ys m ++ [_]).getD i 0 = _
      rw [List.getD_eq_getElem?_getD, List.getElem?_append_left (by rw [ser_length]; omega), ← List.getD_eq_getElem?_getD]
theorem sb_congr {ys F G : List Int} {n : Nat} : ∀ {k : Nat}, k ≤ n → (∀ i, i < n → F.getD i 0 = G.getD i 0) → sb ys F n k = sb ys G n k
  | 0, _, _ => rfl
  | k + 1, hk, h => by
    show sb ys F n k + _ = sb ys G n k + _
    rw [sb_congr (by omega) h, h _ (by omega)]
theorem ser_last (xs ys : List Int) {n m : Nat} (h : n < m) : (ser xs ys m).getD n 0 = xs.getD n 0 - sb ys (ser xs ys m) n (min n (ys.length - 1)) := by
  rw [ser_getD xs ys (Nat.lt_succ_self n) h]
  rw [sb_congr (G := ser xs ys n) (Nat.min_le_left _ _) fun i hi => ser_getD xs ys hi (Nat.le_of_lt h)]
  show (ser xs ys n ++ [_]).getD n 0 = _
  rw [List.getD_eq_getElem?_getD, List.getElem?_append_right (by rw [ser_length]; exact Nat.le_refl _), ser_length, Nat.sub_self]
  rfl
theorem getD_len {xs : List Int} {k : Nat} (h : xs.length ≤ k) : xs.getD k 0 = 0 := by
  rw [List.getD_eq_getElem?_getD, List.getElem?_eq_none h]
  rfl
theorem sb_full {ys F : List Int} {n : Nat} : ∀ (k : Nat), sb ys F n k = sb ys F n (min k (ys.length - 1))
  | 0 => by rw [Nat.zero_min]
  | k + 1 => by
    by_cases c : k + 1 ≤ ys.length - 1
    · rw [Nat.min_eq_left c]
    · show sb ys F n k + ys.getD (k + 1) 0 * _ = _
      rw [getD_len (by omega), Int.zero_mul, Int.add_zero, sb_full k]
      congr 1
      omega
/-- a coefficient of a product, by the first so many items of the one -/
def csum (xs ys : List Int) (k : Nat) : Nat → Int
  | 0 => 0
  | i + 1 => csum xs ys k i + (if i ≤ k then xs.getD i 0 * ys.getD (k - i) 0 else 0)
theorem csum_more {xs ys : List Int} {k : Nat} : ∀ {m : Nat}, k + 1 ≤ m → csum xs ys k m = csum xs ys k (k + 1)
  | 0, h => by omega
  | m + 1, h => by
    by_cases e : m = k
    · rw [e]
    · show csum xs ys k m + _ = _
      rw [if_neg (by omega), Int.add_zero]
      exact csum_more (by omega)
def rsum (xs ys : List Int) (k : Nat) : Nat → Int
  | 0 => 0
  | t + 1 => rsum xs ys k t + ys.getD t 0 * xs.getD (k - t) 0
theorem rsum_csum {xs ys : List Int} {k : Nat} : ∀ {t : Nat}, t ≤ k + 1 → csum xs ys k (k + 1 - t) + rsum xs ys k t = csum xs ys k (k + 1)
  | 0, _ => by show _ + 0 = _; rw [Int.add_zero, Nat.sub_zero]
  | t + 1, h => by
    rw [← rsum_csum (t := t) (by omega)]
    rw [show k + 1 - t = (k - t) + 1 by omega, show k + 1 - (t + 1) = k - t by omega]
    show _ + (_ + _) = (_ + (if k - t ≤ k then xs.getD (k - t) 0 * ys.getD (k - (k - t)) 0 else 0)) + _
    rw [if_pos (by omega), show k - (k - t) = t by omega, Int.mul_comm (ys.getD t 0)]
    omega
theorem rsum_sb {xs ys : List Int} {k : Nat} : ∀ t : Nat, rsum xs ys k (t + 1) = ys.getD 0 0 * xs.getD k 0 + sb ys xs k t
  | 0 => by
    show 0 + _ = _ + 0
    rw [Int.zero_add, Int.add_zero]
    rfl
  | t + 1 => by
    show rsum xs ys k (t + 1) + _ = _ + (sb ys xs k t + _)
    rw [rsum_sb t, Int.add_assoc]
/-- the series times the denominator is the numerator -/
theorem ser_prod {xs ys : List Int} {k m : Nat} (h0 : ys.getD 0 0 = 1) (hk : k < m) : csum (ser xs ys m) ys k m = xs.getD k 0 := by
  rw [csum_more hk, ← rsum_csum (t := k + 1) (Nat.le_refl _), Nat.sub_self]
  show 0 + _ = _
  rw [rsum_sb, h0, Int.one_mul, Int.zero_add, ser_last xs ys hk, ← sb_full k]
  omega
/-! sizes of the series -/
theorem sb_lt {ys F : List Int} {n p : Nat} (hy : Bd 6 ys) (hF : Bd p F) : ∀ k, (sb ys F n k).natAbs ≤ k * 2 ^ (p + 6)
  | 0 => by show (0 : Int).natAbs ≤ _; exact Nat.zero_le _
  | k + 1 => by
    have h1 := sb_lt (n := n) hy hF k
    have h2 := mul_lt (bd_getD hy (k + 1)) (bd_getD hF (n - (k + 1)))
    have h3 := Int.natAbs_add_le (sb ys F n k) (ys.getD (k + 1) 0 * F.getD (n - (k + 1)) 0)
    show (sb ys F n k + _).natAbs ≤ _
    rw [Nat.succ_mul]
    rw [Nat.add_comm 6 p] at h2
    omega
theorem ser_bd {xs ys : List Int} (hx : Bd 6 xs) (hy : Bd 6 ys) (hl : ys.length ≤ 8) : ∀ n, Bd (10 * n) (ser xs ys n)
  | 0 => bd_nil
  | n + 1 => fun z hz => by
    have ih := ser_bd hx hy hl n
    rcases List.mem_append.mp hz with hz | hz
    · exact (ih.mono (by omega)) z hz
    · rw [List.mem_singleton] at hz
      subst hz
      have h1 := sb_lt (n := n) hy ih (min n (ys.length - 1))
      have h2 : min n (ys.length - 1) * 2 ^ (10 * n + 6) ≤ 7 * 2 ^ (10 * n + 6) := Nat.mul_le_mul_right _ (by omega)
      have h3 := bd_getD hx n
      have h4 := Int.natAbs_sub_le (xs.getD n 0) (sb ys (ser xs ys n) n (min n (ys.length - 1)))
      have h5 : 2 ^ (10 * (n + 1)) = 16 * 2 ^ (10 * n + 6) := by
        rw [show 10 * (n + 1) = 4 + (10 * n + 6) by omega, Nat.pow_add]
      have h6 : 2 ^ 6 ≤ 2 ^ (10 * n + 6) := Nat.pow_le_pow_right (by decide) (by omega)
      omega
/-! the product as it is made -/
def pp (xs ys : List Int) (i j : Nat) : List Int := (List.range (xs.length + ys.length - 1)).map fun k => csum xs ys k i + (if i ≤ k ∧ k - i < j then xs.getD i 0 * ys.getD (k - i) 0 else 0)
theorem pp_length (xs ys : List Int) (i j : Nat) : (pp xs ys i j).length = xs.length + ys.length - 1 := by
  unfold pp
  rw [List.length_map, List.length_range]
theorem pp_get (xs ys : List Int) (i j k : Nat) : (pp xs ys i j)[k]? = if k < xs.length + ys.length - 1 then some (csum xs ys k i + (if i ≤ k ∧ k - i < j then xs.getD i 0 * ys.getD (k - i) 0 else 0)) else none := by
  unfold pp
  rw [List.getElem?_map]
  by_cases c : k < xs.length + ys.length - 1
  · rw [if_pos c, List.getElem?_range c]
    rfl
  · rw [if_neg c, List.getElem?_eq_none (by rw [List.length_range]; omega)]
    rfl
theorem pp_zero (xs ys : List Int) : pp xs ys 0 0 = List.replicate (xs.length + ys.length - 1) 0 := by
  refine List.ext_getElem? fun k => ?_
  rw [pp_get, List.getElem?_replicate]
  by_cases c : k < xs.length + ys.length - 1
  · rw [if_pos c, if_pos c, if_neg (by omega)]
    rfl
  · rw [if_neg c, if_neg c]
theorem pp_turn (xs ys : List Int) (i : Nat) : pp xs ys i ys.length = pp xs ys (i + 1) 0 := by
  refine List.ext_getElem? fun k => ?_
  rw [pp_get, pp_get]
  by_cases c : k < xs.length + ys.length - 1
  · rw [if_pos c, if_pos c, if_neg (show ¬ (i + 1 ≤ k ∧ k - (i + 1) < 0) by omega), Int.add_zero]
    show _ = some (csum xs ys k i + (if i ≤ k then xs.getD i 0 * ys.getD (k - i) 0 else 0))
    by_cases c1 : i ≤ k
    · rw [if_pos c1]
      by_cases c2 : k - i < ys.length
      · rw [if_pos ⟨c1, c2⟩]
      · rw [if_neg (fun z => c2 z.2), getD_len (show ys.length ≤ k - i by omega), Int.mul_zero]
    · rw [if_neg c1, if_neg (fun z => c1 z.1)]
  · rw [if_neg c, if_neg c]
theorem pp_item {xs ys : List Int} {i j : Nat} (hi : i < xs.length) (hj : j < ys.length) : ∃ x, (pp xs ys i j)[i + j]? = some x ∧ (pp xs ys i j).set (i + j) (x + xs.getD i 0 * ys.getD j 0) = pp xs ys i (j + 1) := by
  have hk : i + j < xs.length + ys.length - 1 := by omega
  refine ⟨_, by rw [pp_get, if_pos hk], ?_⟩
  refine List.ext_getElem? fun k => ?_
  rw [List.getElem?_set, pp_length, pp_get, pp_get]
  by_cases e : i + j = k
  · subst e
    rw [if_pos rfl, if_pos hk, if_pos hk, if_neg (by omega), if_pos (by omega), show i + j - i = j by omega, Int.add_zero]
  · rw [if_neg e]
    by_cases c : k < xs.length + ys.length - 1
    · rw [if_pos c, if_pos c]
      by_cases c2 : i ≤ k ∧ k - i < j
      · rw [if_pos c2, if_pos (by omega)]
      · rw [if_neg c2, if_neg (by omega)]
    · rw [if_neg c, if_neg c]
/-- the product of two lists -/
def prod (xs ys : List Int) : List Int := if xs = [] ∨ ys = [] then [] else pp xs ys xs.length 0
theorem prod_get {xs ys : List Int} {k : Nat} (hx : xs ≠ []) (hy : ys ≠ []) (hk : k < xs.length + ys.length - 1) : (prod xs ys)[k]? = some (csum xs ys k xs.length) := by
  unfold prod
  rw [if_neg (fun z => z.elim hx hy), pp_get, if_pos hk, if_neg]
  · rw [Int.add_zero]
  · omega
theorem prod_length {xs ys : List Int} (hx : xs ≠ []) (hy : ys ≠ []) : (prod xs ys).length = xs.length + ys.length - 1 := by
  unfold prod
  rw [if_neg (fun z => z.elim hx hy), pp_length]
end P13

/-! What the law's own numbers are. -/
namespace P13
theorem rsum_le {xs ys : List Int} {k : Nat} (hx : ∀ z ∈ xs, z.natAbs ≤ 4) (hy : ∀ z ∈ ys, z.natAbs ≤ 4) : ∀ t : Nat, (rsum xs ys k t).natAbs ≤ 16 * min t ys.length
  | 0 => by show (0 : Int).natAbs ≤ _; exact Nat.zero_le _
  | t + 1 => by
    have ih := rsum_le (k := k) hx hy t
    show (rsum xs ys k t + ys.getD t 0 * xs.getD (k - t) 0).natAbs ≤ _
    have hxk : (xs.getD (k - t) 0).natAbs ≤ 4 := by
      rw [List.getD_eq_getElem?_getD]
      cases e : xs[k - t]? with
      | none => exact Nat.zero_le _
      | some x => exact hx x (List.mem_of_getElem? e)
    by_cases c : t < ys.length
    · have hyt : (ys.getD t 0).natAbs ≤ 4 := by
        rw [List.getD_eq_getElem?_getD, List.getElem?_eq_getElem c]
        exact hy _ (List.getElem_mem c)
      have h3 := Int.natAbs_add_le (rsum xs ys k t) (ys.getD t 0 * xs.getD (k - t) 0)
      rw [Int.natAbs_mul] at h3
      have h4 := Nat.mul_le_mul hyt hxk
      rw [Nat.min_eq_left (by omega)] at ih ⊢
      omega
    · rw [getD_len (by omega), Int.zero_mul, Int.add_zero, Nat.min_eq_right (by omega)]
      rw [Nat.min_eq_right (by omega)] at ih
      exact ih
theorem csum_stop {xs ys : List Int} {k : Nat} : ∀ {m : Nat}, xs.length ≤ m → csum xs ys k m = csum xs ys k xs.length
  | 0, h => by rw [Nat.le_zero.mp h]
  | m + 1, h => by
    by_cases e : xs.length = m + 1
    · rw [e]
    · show csum xs ys k m + _ = _
      rw [getD_len (show xs.length ≤ m by omega), Int.zero_mul, ite_self, Int.add_zero]
      exact csum_stop (by omega)
theorem csum_full {xs ys : List Int} {k : Nat} : csum xs ys k xs.length = csum xs ys k (k + 1) := by
  by_cases c : xs.length ≤ k + 1
  · exact (csum_stop c).symm
  · exact csum_more (by omega)
theorem csum_rsum {xs ys : List Int} {k : Nat} : csum xs ys k xs.length = rsum xs ys k (k + 1) := by
  rw [csum_full, ← rsum_csum (t := k + 1) (Nat.le_refl _), Nat.sub_self]
  show 0 + _ = _
  rw [Int.zero_add]
theorem bd_small {xs : List Int} (h : ∀ z ∈ xs, z.natAbs ≤ 4) : Bd 6 xs := fun z hz => Nat.lt_of_le_of_lt (h z hz) (by decide)
theorem prod_bd {xs ys : List Int} (hx : ∀ z ∈ xs, z.natAbs ≤ 4) (hy : ∀ z ∈ ys, z.natAbs ≤ 4) (hl : ys.length ≤ 3) : Bd 6 (prod xs ys) := fun z hz => by
  unfold prod at hz
  by_cases c : xs = [] ∨ ys = []
  · rw [if_pos c] at hz
    exact nomatch hz
  · rw [if_neg c] at hz
    obtain ⟨k, hk⟩ := List.getElem?_of_mem hz
    rw [pp_get] at hk
    by_cases c2 : k < xs.length + ys.length - 1
    · rw [if_pos c2, if_neg (by omega), Int.add_zero, csum_rsum] at hk
      cases hk
      have := rsum_le (k := k) hx hy (k + 1)
      show _ < 64
      omega
    · rw [if_neg c2] at hk
      cases hk
theorem csum_zero {xs ys : List Int} {k : Nat} : ∀ {m : Nat}, m + ys.length ≤ k + 1 → csum xs ys k m = 0
  | 0, _ => rfl
  | m + 1, h => by
    show csum xs ys k m + _ = _
    rw [csum_zero (by omega), getD_len (show ys.length ≤ k - m by omega), Int.mul_zero, ite_self]
    rfl
theorem prod_pol {xs ys : List Int} (hx : Pol xs) (hy : Pol ys) : Pol (prod xs ys) := by
  by_cases c : xs = [] ∨ ys = []
  · exact .inl (if_pos c)
  · have cx : xs ≠ [] := fun z => c (.inl z)
    have cy : ys ≠ [] := fun z => c (.inr z)
    have lx := List.length_pos_iff.mpr cx
    have ly := List.length_pos_iff.mpr cy
    refine .inr ?_
    have hg := prod_get (k := xs.length + ys.length - 2) cx cy (by omega)
    rw [getLastD_get, prod_length cx cy, show xs.length + ys.length - 1 - 1 = xs.length + ys.length - 2 by omega, List.getD_eq_getElem?_getD, hg]
    show csum xs ys (xs.length + ys.length - 2) xs.length ≠ 0
    obtain ⟨m, hm⟩ : ∃ m, xs.length = m + 1 := ⟨xs.length - 1, by omega⟩
    rw [hm]
    show csum xs ys (m + 1 + ys.length - 2) m + _ ≠ 0
    rw [csum_zero (by omega), if_pos (by omega), Int.zero_add]
    refine Int.mul_ne_zero ?_ ?_
    · have e := getLastD_get xs
      rw [hm] at e
      rw [show m = m + 1 - 1 by omega, ← e]
      exact hx.resolve_left cx
    · have e := getLastD_get ys
      rw [show m + 1 + ys.length - 2 - m = ys.length - 1 by omega, ← e]
      exact hy.resolve_left cy
theorem prod_head {xs ys : List Int} (hx : xs.head? = some 1) (hy : ys.head? = some 1) : (prod xs ys).head? = some 1 := by
  match xs, ys, hx, hy with
  | x :: xs, y :: ys, hx, hy =>
    cases hx
    cases hy
    rw [List.head?_eq_getElem?, prod_get (List.cons_ne_nil _ _) (List.cons_ne_nil _ _) (by simp only [List.length_cons]; omega), csum_full]
    rfl
theorem prod_le {xs ys : List Int} : (prod xs ys).length ≤ xs.length + ys.length - 1 := by
  unfold prod
  by_cases c : xs = [] ∨ ys = []
  · rw [if_pos c]
    exact Nat.zero_le _
  · rw [if_neg c, pp_length]
    exact Nat.le_refl _
theorem pol_cons {ys : List Int} (h : Pol ys) : Pol (1 :: ys) := by
  refine .inr ?_
  rcases h with rfl | h
  · decide
  · cases ys with
    | nil => exact absurd rfl h
    | cons y ys =>
      have e : (1 :: y :: ys : List Int).getLastD 0 = (y :: ys).getLastD 0 := by
        rw [getLastD_get, getLastD_get]
        rfl
      rw [e]
      exact h
theorem scale_prim_pol {xs : List Int} (h : Pol xs) : ∃ a : Int, a ≠ 0 ∧ scale a (prim xs) = xs := by
  by_cases c : xs = []
  · subst c
    exact ⟨1, by decide, rfl⟩
  · have := pol_gcd h c
    exact ⟨gcdl xs, by omega, scale_prim xs⟩
theorem com_prim {xs ys : List Int} (hx : Pol xs) (hy : Pol ys) : (comF 200 xs ys).length = (lcomF 200 (prim xs) (prim ys)).length := by
  obtain ⟨a, ha, e1⟩ := scale_prim_pol hx
  obtain ⟨b, hb, e2⟩ := scale_prim_pol hy
  have := com_rel 200 (prim xs) (prim ys) a b ha hb (good_prim hx) (good_prim hy)
  rw [e1, e2] at this
  exact this
end P13

namespace K13
open PySem PySem.Spec PyProof.Rows L2
def topS (i : Nat) : Stmt := PySem.Challenge.pw_foldfloor_k13_expansions.main.body.getD i (.Pass ⟨0, 0, 0, 0⟩)
abbrev s_trimmed : Stmt := topS 6
abbrev s_primitive : Stmt := topS 7
abbrev s_remainder : Stmt := topS 8
abbrev s_common_divisor : Stmt := topS 9
abbrev s_is_polynomial : Stmt := topS 12
abbrev s_check_fraction : Stmt := topS 13
abbrev s_terms : Stmt := topS 14
abbrev s_expand : Stmt := topS 15
abbrev s_is_reduced : Stmt := topS 16
abbrev s_law_number : Stmt := topS 18
abbrev s_law_draws : Stmt := topS 19
abbrev s_law_draw : Stmt := topS 20
abbrev s_law_pick : Stmt := topS 21
abbrev s_law_product : Stmt := topS 22
abbrev s_law_trimmed : Stmt := topS 23
abbrev s_law_primitive : Stmt := topS 24
abbrev s_law_rest : Stmt := topS 25
abbrev s_law_degree : Stmt := topS 26
abbrev s_law_polynomial : Stmt := topS 27
abbrev s_law_told : Stmt := topS 28
abbrev s_law : Stmt := topS 29
theorem sc_trimmed : FnScope ["numbers", "many"] ["numbers"] (defScope s_trimmed) := ⟨rfl, rfl, rfl, by decide +kernel, rfl, by decide +kernel, by decide +kernel⟩
theorem sc_primitive : FnScope ["polynomial", "common", "number"] ["polynomial"] (defScope s_primitive) := ⟨rfl, rfl, rfl, by decide +kernel, rfl, by decide +kernel, by decide +kernel⟩
theorem sc_remainder : FnScope ["one", "other", "left", "shift", "lead", "at", "number"] ["one", "other"] (defScope s_remainder) := ⟨rfl, rfl, rfl, by decide +kernel, rfl, by decide +kernel, by decide +kernel⟩
theorem sc_common_divisor : FnScope ["one", "other"] ["one", "other"] (defScope s_common_divisor) := ⟨rfl, rfl, rfl, by decide +kernel, rfl, by decide +kernel, by decide +kernel⟩
theorem sc_is_polynomial : FnScope ["numbers"] ["numbers"] (defScope s_is_polynomial) := ⟨rfl, rfl, rfl, by decide +kernel, rfl, by decide +kernel, by decide +kernel⟩
theorem sc_check_fraction : FnScope ["fraction", "above", "below"] ["fraction"] (defScope s_check_fraction) := ⟨rfl, rfl, rfl, by decide +kernel, rfl, by decide +kernel, by decide +kernel⟩
theorem sc_terms : FnScope ["fraction", "many", "found", "at", "above", "below", "number", "back"] ["fraction", "many"] (defScope s_terms) := ⟨rfl, rfl, rfl, by decide +kernel, rfl, by decide +kernel, by decide +kernel⟩
theorem sc_expand : FnScope ["fraction", "n"] ["fraction", "n"] (defScope s_expand) := ⟨rfl, rfl, rfl, by decide +kernel, rfl, by decide +kernel, by decide +kernel⟩
theorem sc_is_reduced : FnScope ["fraction", "above", "below"] ["fraction"] (defScope s_is_reduced) := ⟨rfl, rfl, rfl, by decide +kernel, rfl, by decide +kernel, by decide +kernel⟩
theorem sc_law_number : FnScope ["cell"] ["cell"] (defScope s_law_number) := ⟨rfl, rfl, rfl, by decide +kernel, rfl, by decide +kernel, by decide +kernel⟩
theorem sc_law_draws : FnScope ["script", "draws", "seed", "cell", "k", "rest", "once", "twice"] ["script"] (defScope s_law_draws) := ⟨rfl, rfl, rfl, by decide +kernel, rfl, by decide +kernel, by decide +kernel⟩
theorem sc_law_draw : FnScope ["draws"] ["draws"] (defScope s_law_draw) := ⟨rfl, rfl, rfl, by decide +kernel, rfl, by decide +kernel, by decide +kernel⟩
theorem sc_law_pick : FnScope ["draws", "many"] ["draws", "many"] (defScope s_law_pick) := ⟨rfl, rfl, rfl, by decide +kernel, rfl, by decide +kernel, by decide +kernel⟩
theorem sc_law_product : FnScope ["one", "other", "result", "i", "j"] ["one", "other"] (defScope s_law_product) := ⟨rfl, rfl, rfl, by decide +kernel, rfl, by decide +kernel, by decide +kernel⟩
theorem sc_law_trimmed : FnScope ["numbers", "size", "k"] ["numbers"] (defScope s_law_trimmed) := ⟨rfl, rfl, rfl, by decide +kernel, rfl, by decide +kernel, by decide +kernel⟩
theorem sc_law_primitive : FnScope ["numbers", "divisor", "number", "one", "k"] ["numbers"] (defScope s_law_primitive) := ⟨rfl, rfl, rfl, by decide +kernel, rfl, by decide +kernel, by decide +kernel⟩
theorem sc_law_rest : FnScope ["one", "other", "rest", "k", "shift", "last", "j", "number"] ["one", "other"] (defScope s_law_rest) := ⟨rfl, rfl, rfl, by decide +kernel, rfl, by decide +kernel, by decide +kernel⟩
theorem sc_law_degree : FnScope ["one", "other", "first", "second", "k"] ["one", "other"] (defScope s_law_degree) := ⟨rfl, rfl, rfl, by decide +kernel, rfl, by decide +kernel, by decide +kernel⟩
theorem sc_law_polynomial : FnScope ["draws", "many", "k"] ["draws", "many"] (defScope s_law_polynomial) := ⟨rfl, rfl, rfl, by decide +kernel, rfl, by decide +kernel, by decide +kernel⟩
theorem sc_law_told : FnScope ["way", "fraction", "n", "e"] ["way", "fraction", "n"] (defScope s_law_told) := ⟨rfl, rfl, rfl, by decide +kernel, rfl, by decide +kernel, by decide +kernel⟩
theorem sc_law : FnScope ["script", "draws", "numerator", "denominator", "n", "bad", "way", "given", "reduced", "told", "product", "k", "common", "number"] ["script"] (defScope s_law) := ⟨rfl, rfl, rfl, by decide +kernel, rfl, by decide +kernel, by decide +kernel⟩
/-- where the top's classes and constants stand -/
structure Xs where
  FoldError : Addr
  NotSeries : Addr
  BadNumber : Addr
  t_MOST_TERMS : Tok
/-- what the top has written -/
structure Txt (K : PySem.W.Frag) (mg : Str → Option Value) (cx : Xs) : Prop where
  d_trimmed : FK.At K mg "trimmed" s_trimmed ["numbers"]
  d_primitive : FK.At K mg "primitive" s_primitive ["polynomial"]
  d_remainder : FK.At K mg "remainder" s_remainder ["one", "other"]
  d_common_divisor : FK.At K mg "common_divisor" s_common_divisor ["one", "other"]
  d_is_polynomial : FK.At K mg "is_polynomial" s_is_polynomial ["numbers"]
  d_check_fraction : FK.At K mg "check_fraction" s_check_fraction ["fraction"]
  d_terms : FK.At K mg "terms" s_terms ["fraction", "many"]
  d_expand : FK.At K mg "expand" s_expand ["fraction", "n"]
  d_is_reduced : FK.At K mg "is_reduced" s_is_reduced ["fraction"]
  d_law_number : FK.At K mg "_law_number" s_law_number ["cell"]
  d_law_draws : FK.At K mg "_law_draws" s_law_draws ["script"]
  d_law_draw : FK.At K mg "_law_draw" s_law_draw ["draws"]
  d_law_pick : FK.At K mg "_law_pick" s_law_pick ["draws", "many"]
  d_law_product : FK.At K mg "_law_product" s_law_product ["one", "other"]
  d_law_trimmed : FK.At K mg "_law_trimmed" s_law_trimmed ["numbers"]
  d_law_primitive : FK.At K mg "_law_primitive" s_law_primitive ["numbers"]
  d_law_rest : FK.At K mg "_law_rest" s_law_rest ["one", "other"]
  d_law_degree : FK.At K mg "_law_degree" s_law_degree ["one", "other"]
  d_law_polynomial : FK.At K mg "_law_polynomial" s_law_polynomial ["draws", "many"]
  d_law_told : FK.At K mg "_law_told" s_law_told ["way", "fraction", "n"]
  d_law : FK.At K mg "law" s_law ["script"]
  n_abs : mg "abs" = none
  n_bool : mg "bool" = none
  n_enumerate : mg "enumerate" = none
  n_int : mg "int" = none
  n_isinstance : mg "isinstance" = none
  n_len : mg "len" = none
  n_list : mg "list" = none
  n_min : mg "min" = none
  n_range : mg "range" = none
  x_FoldError : FK.XC K mg "FoldError" cx.FoldError
  x_NotSeries : FK.XC K mg "NotSeries" cx.NotSeries
  x_BadNumber : FK.XC K mg "BadNumber" cx.BadNumber
  c_MOST_TERMS : mg "MOST_TERMS" = some (.int 200 cx.t_MOST_TERMS)
  exm_NotSeries : PySem.W.exmOne K (.ref cx.NotSeries) (.ref cx.FoldError) = some true
  kit_NotSeries_NotSeries : PySem.W.kitOne K (.ref cx.NotSeries) (.ref cx.NotSeries) = some true
  kit_NotSeries_BadNumber : PySem.W.kitOne K (.ref cx.NotSeries) (.ref cx.BadNumber) = some false
  exm_BadNumber : PySem.W.exmOne K (.ref cx.BadNumber) (.ref cx.FoldError) = some true
  kit_BadNumber_NotSeries : PySem.W.kitOne K (.ref cx.BadNumber) (.ref cx.NotSeries) = some false
  kit_BadNumber_BadNumber : PySem.W.kitOne K (.ref cx.BadNumber) (.ref cx.BadNumber) = some true
  n_gcd : mg "gcd" = some (.builtin "math.gcd")
theorem mk_txt {K : PySem.W.Frag} {mg : Str → Option Value} {y0 : Addr} {y1 : Addr} {y2 : Addr} {y3 : Tok} (T : Txt K mg ⟨y0, y1, y2, y3⟩) : ∃ cx : Xs, Txt K mg cx := ⟨_, T⟩
section
variable {P : Program} {w : World} {K : PySem.W.Frag} {mg : Str → Option Value} {base : Heap} {cx : Xs}
open P13
def spTrimmed (K : PySem.W.Frag) : Sp := fun vs H Q _ => ∃ (a : Addr) (xs : List Int), vs = [.ref a] ∧ SqL K H a (xs.map V.int) ∧ xs.length ≤ 1000 ∧ ∀ p, H p = none → Q (.ref p) (upd H p (.lst ((trim xs).map V.int)))
theorem take_trim {xs : List Int} {k : Nat} (hk : k < xs.length) (h0 : xs[k]? = some 0) (e : trim (xs.take (k + 1)) = trim xs) : trim (xs.take k) = trim xs := by
  rw [List.take_add_one, h0] at e
  show trim (xs.take k) = _
  rw [← e]
  exact (trim_snoc_zero _).symm
theorem take_stop {xs : List Int} {k : Nat} {z : Int} (hk : xs[k]? = some z) (h0 : z ≠ 0) (e : trim (xs.take (k + 1)) = trim xs) : xs.take (k + 1) = trim xs := by
  rw [List.take_add_one, hk] at e ⊢
  rw [← e]
  exact (trim_snoc h0 _).symm
theorem cut_to {xs : List V} {k : Nat} (hk : k ≤ xs.length) : cutV xs none (some (k : Int)) = xs.take k := by
  unfold cutV
  rw [HT.sIx_none, HT.sIx_nat, Nat.min_eq_left hk, List.drop_zero, Nat.sub_zero]
theorem ok_trimmed (T : Txt K mg cx) : FK.Has P w K mg base CX0 1 "trimmed" ["numbers"] (spTrimmed K) := by
  refine T.d_trimmed.ok sc_trimmed (fun vs H Q E h => ?_) (fun f cdv A outer s H vs Q E hr h => ?_)
  · obtain ⟨a, ns, rfl, _⟩ := h
    rfl
  · obtain ⟨a, xs, rfl, hS, hl, q⟩ := h
    refine ⟨_, (pss_cons (ps_set (i := 1) sc_trimmed.nd rfl (Or.inl rfl) (by exact (pe_callB call_len_seq (by rfl) T.n_len PySem.boot_len (pa_cons (pv 0) pa_nil))))
  (pss_cons (ps_while PassesOwn.never (PW.pt (pw_and (pt_cmpR op_gt (pv 1) pe_int (nomark _)) (pw_and1 (pt_cmpR op_eq (pe_ix (r := rIxL K) ix_list (pv 0) (pe_op op_sub (pv 1) pe_int) (fun _ _ => rfl)) pe_int (nomark _))))) (pss_one (ps_aug (i := 1) sc_trimmed.nd rfl (Or.inl rfl) pe_int iop_sub)))
  (pss_one (ps_ret (pe_slice sl_list (pv 0) po_none (po_some (pv 1))))))), ?_⟩
    simp only [tSeq, tIfS, tOr, tAnd, tB, tTest, tCB, tCons, tVar, tC, tNil, tNot, tNotV, tRet, tRetN, tNext, tBreak, tOrV, tAndV, tOp, tUn, rEq, rNe, tChain, rI0, rI, rU, tAsg, gName, tDrop, tAug, ipI, tIf, tCall, tCallS, tLst, tTup, tBM, tBM0, rAppend, rExtend, rPop, rReverse, tyV, rIxL, rIxT, rIxS, L2.start, List.map_cons, List.map_nil, List.length_cons, List.length_nil, List.replicate, List.cons_append, List.nil_append, List.append_nil, List.getElem?_cons_zero, List.getElem?_cons_succ, List.set_cons_zero, List.set_cons_succ, Nat.reduceAdd, Nat.reduceSub, Option.some.injEq, exists_eq_left', exists_eq_left, V.int.injEq, V.bl.injEq, V.str.injEq, V.ref.injEq, List.cons.injEq, and_true, true_and, and_assoc, reduceCtorEq, false_and, exists_false, or_false, false_or, exists_and_left, exists_const, scal, Int.reduceLT, Int.reduceLE, Int.reduceSub, Int.reduceAdd, Int.reduceNeg, if_true, if_false]
    refine ⟨_, .inl hS, ?_⟩
    refine ⟨fun m σ H' => ∃ k : Nat, k ≤ xs.length ∧ m = k ∧ (σ = [some (.ref a), some (.int k)] ∧ H' = H) ∧ trim (xs.take k) = trim xs, ⟨xs.length, xs.length, Nat.le_refl _, rfl, ⟨by rw [List.length_map], rfl⟩, by rw [List.take_length]⟩, ?_⟩
    rintro m σ H' ⟨k, hk, rfl, ⟨rfl, rfl⟩, e⟩
    have fin : trim xs = xs.take m → tRet (tSl (rSlL K) (tVar 0) tNoPart (tPart (tVar 1))) { nx := fun x H' => Q V.non H', rt := Q } [some (.ref a), some (.int m)] H' := fun e2 => by
      simp only [tSeq, tIfS, tOr, tAnd, tB, tTest, tCB, tCons, tVar, tC, tNil, tNot, tNotV, tRet, tRetN, tNext, tBreak, tOrV, tAndV, tOp, tUn, rEq, rNe, tChain, rI0, rI, rU, tAsg, gName, tDrop, tAug, ipI, tIf, tCall, tCallS, tLst, tTup, tBM, tBM0, rAppend, rExtend, rPop, rReverse, tyV, rIxL, rIxT, rIxS, L2.start, List.map_cons, List.map_nil, List.length_cons, List.length_nil, List.replicate, List.cons_append, List.nil_append, List.append_nil, List.getElem?_cons_zero, List.getElem?_cons_succ, List.set_cons_zero, List.set_cons_succ, Nat.reduceAdd, Nat.reduceSub, Option.some.injEq, exists_eq_left', exists_eq_left, V.int.injEq, V.bl.injEq, V.str.injEq, V.ref.injEq, List.cons.injEq, and_true, true_and, and_assoc, reduceCtorEq, false_and, exists_false, or_false, false_or, exists_and_left, exists_const, scal, Int.reduceLT, Int.reduceLE, Int.reduceSub, Int.reduceAdd, Int.reduceNeg, if_true, if_false, tSl, tNoPart, tPart, rSlL]
      refine ⟨_, hS, fun p hp => ?_⟩
      rw [cut_to (by rw [List.length_map]; exact hk), ← List.map_take, ← e2]
      exact q p hp
    refine ⟨_, rfl, _, _, rfl, rfl, _, rfl, ?_⟩
    cases m with
    | zero => exact iteF (iteF (fin (by rw [← e]; rfl)))
    | succ k =>
      have hk2 : k < xs.length := by omega
      have hg : xs[k]? = some xs[k] := List.getElem?_eq_getElem hk2
      have ha : atI (xs.map V.int) (((k + 1 : Nat) : Int) - 1) = some (.int xs[k]) := by
        rw [show ((k + 1 : Nat) : Int) - 1 = (k : Int) by omega]
        exact atI_nat (by rw [List.getElem?_map, hg]; rfl)
      rw [show decide ((0 : Int) < ((k + 1 : Nat) : Int)) = true from decide_eq_true (by omega)]
      refine iteT ⟨_, rfl, _, rfl, _, _, rfl, rfl, a, _, _, _, rfl, rfl, hS, ha, rfl, _, rfl, ?_⟩
      by_cases z : xs[k] = 0
      · rw [z, decide_eq_true rfl]
        refine iteT ⟨fun σ' H'' => σ' = [some (.ref a), some (.int k)] ∧ H'' = H', ?_, ?_⟩
        · rintro σ' H'' ⟨rfl, rfl⟩
          exact ⟨k, Nat.lt_succ_self k, k, Nat.le_of_lt hk2, rfl, ⟨rfl, rfl⟩, take_trim hk2 (by rw [hg, z]) e⟩
        · refine ⟨_, rfl, _, _, rfl, rfl, ?_, rfl⟩
          show [some (V.ref a), some (V.int (((k + 1 : Nat) : Int) - 1))] = _
          rw [show ((k + 1 : Nat) : Int) - 1 = (k : Int) by omega]
      · rw [decide_eq_false (fun y => z (V.int.inj y))]
        exact iteF (fin (take_stop hg z e).symm)
def spPrimitive (K : PySem.W.Frag) : Sp := fun vs H Q _ => ∃ (a : Addr) (xs : List Int), vs = [.ref a] ∧ SqL K H a (xs.map V.int) ∧ xs.length ≤ 1000 ∧ Pol xs ∧ Bd 8000 xs ∧ ∀ p, H p = none → Q (.ref p) (upd H p (.lst ((prim xs).map V.int)))
theorem log2_lt {n b : Nat} (h : n < 2 ^ b) (hb : 0 < b) : n.log2 < b := by
  by_cases z : n = 0
  · subst z
    rw [Nat.log2_zero]
    exact hb
  · exact (Nat.log2_lt z).mpr h
theorem ok_primitive (T : Txt K mg cx) : FK.Has P w K mg base CX0 1 "primitive" ["polynomial"] (spPrimitive K) := by
  refine T.d_primitive.ok sc_primitive (fun vs H Q E h => ?_) (fun f cdv A outer s H vs Q E hr h => ?_)
  · obtain ⟨a, ns, rfl, _⟩ := h
    rfl
  · obtain ⟨a, xs, rfl, hS, hl, hp, hb, q⟩ := h
    refine ⟨_, (pss_cons (ps_set (i := 1) sc_primitive.nd rfl (Or.inr rfl) (by exact pe_int))
  (pss_cons (ps_for PassesOwn.never rfl (pi_list (pv 0)) (pg_name (i := 2) sc_primitive.nd rfl (Or.inl rfl))
  (pss_one (ps_set (i := 1) sc_primitive.nd rfl (Or.inr rfl) (by exact (pe_callBfun cr_gcd (by rfl) T.n_gcd (pa_cons (pv 1) (pa_cons (pv 2) pa_nil)))))))
  (pss_one (ps_ret (pe_lc (own := [("number", 2)]) (g := gName 2) (tt := tYes) rfl sc_primitive.nd (pi_list (pv 0)) (blkOk_by (own := [("number", 2)]) (N := ["polynomial", "common", "number"]) (sc := defScope s_primitive) (by decide +kernel)) (fun _ _ _ _ _ => (pg_name (i := 2) sc_primitive.nd rfl (Or.inl rfl))) (fun _ _ _ _ _ => pts_nil) (fun _ _ _ _ _ => (pe_op op_fdivW (pv 2) (pv 1)))))))), ?_⟩
    simp only [tSeq, tIfS, tOr, tAnd, tB, tTest, tCB, tCons, tVar, tC, tNil, tNot, tNotV, tRet, tRetN, tNext, tBreak, tOrV, tAndV, tOp, tUn, rEq, rNe, tChain, rI0, rI, rU, tAsg, gName, tDrop, tAug, ipI, tIf, tCall, tCallS, tLst, tTup, tBM, tBM0, rAppend, rExtend, rPop, rReverse, tyV, rIxL, rIxT, rIxS, L2.start, List.map_cons, List.map_nil, List.length_cons, List.length_nil, List.replicate, List.cons_append, List.nil_append, List.append_nil, List.getElem?_cons_zero, List.getElem?_cons_succ, List.set_cons_zero, List.set_cons_succ, Nat.reduceAdd, Nat.reduceSub, Option.some.injEq, exists_eq_left', exists_eq_left, V.int.injEq, V.bl.injEq, V.str.injEq, V.ref.injEq, List.cons.injEq, and_true, true_and, and_assoc, reduceCtorEq, false_and, exists_false, or_false, false_or, exists_and_left, exists_const, scal, Int.reduceLT, Int.reduceLE, Int.reduceSub, Int.reduceAdd, Int.reduceNeg, if_true, if_false]
    refine FK.rd_for (J := Itl K a) (H1 := H) (fun R r => ⟨_, rfl, a, rfl, ⟨_, hS⟩, r⟩) (walk_list (xs := xs.map V.int))
      (fun i σ H' => ∃ v2 : Option V, (σ = [some (.ref a), some (.int (gcdl (xs.take i) : Nat)), v2] ∧ H' = H)) ⟨none, rfl, rfl⟩ (fun i σ H' _ ⟨_, _, e⟩ => by rw [e]; exact hS) ?_ ?_
    · rintro i v σ H' H'' hi ⟨v2, rfl, rfl⟩ ⟨rfl, hv⟩
      rw [List.getElem?_map] at hv
      cases en : xs[i]? with
      | none => rw [en] at hv; cases hv
      | some n =>
        rw [en] at hv
        cases hv
        simp only [tSeq, tIfS, tOr, tAnd, tB, tTest, tCB, tCons, tVar, tC, tNil, tNot, tNotV, tRet, tRetN, tNext, tBreak, tOrV, tAndV, tOp, tUn, rEq, rNe, tChain, rI0, rI, rU, tAsg, gName, tDrop, tAug, ipI, tIf, tCall, tCallS, tLst, tTup, tBM, tBM0, rAppend, rExtend, rPop, rReverse, tyV, rIxL, rIxT, rIxS, L2.start, List.map_cons, List.map_nil, List.length_cons, List.length_nil, List.replicate, List.cons_append, List.nil_append, List.append_nil, List.getElem?_cons_zero, List.getElem?_cons_succ, List.set_cons_zero, List.set_cons_succ, Nat.reduceAdd, Nat.reduceSub, Option.some.injEq, exists_eq_left', exists_eq_left, V.int.injEq, V.bl.injEq, V.str.injEq, V.ref.injEq, List.cons.injEq, and_true, true_and, and_assoc, reduceCtorEq, false_and, exists_false, or_false, false_or, exists_and_left, exists_const, scal, Int.reduceLT, Int.reduceLE, Int.reduceSub, Int.reduceAdd, Int.reduceNeg, if_true, if_false, rGcd]
        refine ⟨?_, _, rfl⟩
        rw [List.take_add_one, en]
        show _ = ((gcdl (xs.take i ++ [n]) : Nat) : Int)
        rw [gcdl_append, Int.natAbs_natCast]
    · rintro σ H' ⟨v2, rfl, rfl⟩
      rw [List.length_map, List.take_length]
      simp only [tSeq, tIfS, tOr, tAnd, tB, tTest, tCB, tCons, tVar, tC, tNil, tNot, tNotV, tRet, tRetN, tNext, tBreak, tOrV, tAndV, tOp, tUn, rEq, rNe, tChain, rI0, rI, rU, tAsg, gName, tDrop, tAug, ipI, tIf, tCall, tCallS, tLst, tTup, tBM, tBM0, rAppend, rExtend, rPop, rReverse, tyV, rIxL, rIxT, rIxS, L2.start, List.map_cons, List.map_nil, List.length_cons, List.length_nil, List.replicate, List.cons_append, List.nil_append, List.append_nil, List.getElem?_cons_zero, List.getElem?_cons_succ, List.set_cons_zero, List.set_cons_succ, Nat.reduceAdd, Nat.reduceSub, Option.some.injEq, exists_eq_left', exists_eq_left, V.int.injEq, V.bl.injEq, V.str.injEq, V.ref.injEq, List.cons.injEq, and_true, true_and, and_assoc, reduceCtorEq, false_and, exists_false, or_false, false_or, exists_and_left, exists_const, scal, Int.reduceLT, Int.reduceLE, Int.reduceSub, Int.reduceAdd, Int.reduceNeg, if_true, if_false]
      have hpl : ((prim xs).map V.int).length = (xs.map V.int).length := by rw [List.length_map, List.length_map, prim_length]
      refine FK.rd_lc_pure (J := Itl K a) (H1 := H') ((prim xs).map V.int) (fun R r => ⟨_, rfl, a, rfl, ⟨_, hS⟩, r⟩) (by rw [hpl]; exact walk_list) (fun D o hD => (FK.same_new hD).seq hS)
        (by rw [hpl, List.length_map]; exact Nat.lt_of_le_of_lt hl (by decide)) (fun _ => rfl) ?_ (fun D hD => q D hD) (fun _ _ _ _ (z : _ ∧ _) => z.1)
      rintro D j x z H1 H2 R hD hz rfl ⟨rfl, hx⟩ go
      rw [List.getElem?_map] at hx hz
      unfold prim at hz
      rw [List.getElem?_map] at hz
      cases en : xs[j]? with
      | none => rw [en] at hx; cases hx
      | some n =>
        rw [en] at hx hz
        cases hx
        cases hz
        have hmem := List.mem_of_getElem? en
        have hne : xs ≠ [] := fun z => by rw [z] at hmem; exact nomatch hmem
        have gp := pol_gcd hp hne
        have gl : gcdl xs < 2 ^ 8000 := by
          have h1 := last_mem hne
          have h2 := gcdl_dvd h1
          have h3 : xs.getLastD 0 ≠ 0 := by
            rcases hp with hp | hp
            · exact absurd hp hne
            · exact hp
          exact Nat.lt_of_le_of_lt (Nat.le_of_dvd (by omega) (Int.ofNat_dvd_left.mp h2)) (hb _ h1)
        simp only [tSeq, tIfS, tOr, tAnd, tB, tTest, tCB, tCons, tVar, tC, tNil, tNot, tNotV, tRet, tRetN, tNext, tBreak, tOrV, tAndV, tOp, tUn, rEq, rNe, tChain, rI0, rI, rU, tAsg, gName, tDrop, tAug, ipI, tIf, tCall, tCallS, tLst, tTup, tBM, tBM0, rAppend, rExtend, rPop, rReverse, tyV, rIxL, rIxT, rIxS, L2.start, List.map_cons, List.map_nil, List.length_cons, List.length_nil, List.replicate, List.cons_append, List.nil_append, List.append_nil, List.getElem?_cons_zero, List.getElem?_cons_succ, List.set_cons_zero, List.set_cons_succ, Nat.reduceAdd, Nat.reduceSub, Option.some.injEq, exists_eq_left', exists_eq_left, V.int.injEq, V.bl.injEq, V.str.injEq, V.ref.injEq, List.cons.injEq, and_true, true_and, and_assoc, reduceCtorEq, false_and, exists_false, or_false, false_or, exists_and_left, exists_const, scal, Int.reduceLT, Int.reduceLE, Int.reduceSub, Int.reduceAdd, Int.reduceNeg, if_true, if_false, wipe]
        refine ⟨⟨by omega, ?_⟩, go⟩
        rw [Int.natAbs_natCast]
        exact Nat.lt_of_lt_of_le (log2_lt gl (by decide)) (by decide)
/-- for at, number in enumerate(..): a new pair a turn -/
theorem enum_gt {i j k : Nat} {x : V} {tp : Addr} {σ : L2.St} {H : Hp} {R : L2.St → Hp → Prop} (h : R ((σ.set j (some (.int (i : Nat)))).set k (some x)) (upd H tp (.tup [.int (i : Nat), x]))) :
    gTup K 2 (gCons (gName j) (gCons (gName k) gNil)) (.ref tp) σ (upd H tp (.tup [.int (i : Nat), x])) R := ⟨tp, _, rfl, SqT.of upd_same, rfl, _, _, rfl, _, _, rfl, rfl, h⟩
def spRemainder (K : PySem.W.Frag) : Sp := fun vs H Q _ => ∃ (a b : Addr) (xs ys : List Int) (p q : Nat), vs = [.ref a, .ref b] ∧ SqL K H a (xs.map V.int) ∧ SqL K H b (ys.map V.int) ∧ ys ≠ [] ∧ xs.length ≤ 100 ∧ ys.length ≤ 100 ∧ Bd p xs ∧ Bd q ys ∧ p + 101 * (q + 1) ≤ 400000 ∧
  ∀ D H', H D = none → Same H H' → H' D = some (.lst ((remF 200 xs ys).map V.int)) → Q (.ref D) H'
/-- the state ahead of a turn of the loop -/
def RemSt (K : PySem.W.Frag) (H : Hp) (a b : Addr) (xs ys : List Int) (p q : Nat) (m : Nat) (σ : L2.St) (H' : Hp) : Prop := ∃ (ls : List Int) (D : Addr) (c n : Nat) (v3 v4 v5 v6 : Option V), σ = [some (.ref a), some (.ref b), some (.ref D), v3, v4, v5, v6] ∧ H D = none ∧ Same H H' ∧ H' D = some (.lst (ls.map V.int)) ∧ m = ls.length ∧ Bd c ls ∧ c + ls.length * (q + 1) ≤ p + xs.length * (q + 1) ∧ ls.length ≤ xs.length ∧ ls.length ≤ n ∧ remF n ls ys = remF 200 xs ys
def RemNx (K : PySem.W.Frag) (H : Hp) (a b : Addr) (xs ys : List Int) (p q : Nat) (ls : List Int) (σ : L2.St) (H' : Hp) : Prop := ∃ (D : Addr) (v3 v4 v5 v6 : Option V), σ = [some (.ref a), some (.ref b), some (.ref D), v3, v4, v5, v6] ∧ H D = none ∧ Same H H' ∧ H' D = some (.lst ((es ls ys).map V.int))
theorem at_last {ls : List Int} (h : ls ≠ []) : atI (ls.map V.int) (-1) = some (.int (ls.getLastD 0)) := by
  rcases snoc_cases ls with rfl | ⟨ys, y, rfl⟩
  · exact absurd rfl h
  · rw [List.map_append, getLastD_snoc]
    exact atI_last _ _
theorem ixN_nat {n j : Nat} (hj : j < n) : ixN n (j : Int) = some j := by
  unfold ixN
  rw [if_pos (by omega), if_pos (by omega), Int.toNat_natCast]
theorem back {H H' : Hp} {p : Addr} (s : Same H H') (h : H' p = none) : H p = none := by
  cases e0 : H p with
  | none => rfl
  | some u => rw [s _ _ e0] at h; cases h
theorem cmul {p q : Nat} {x y : Int} (hx : x.natAbs < 2 ^ p) (hy : y.natAbs < 2 ^ q) (h : p + q < 999998) : CMulW x y := by
  have hx2 := log2_lt (Nat.lt_of_lt_of_le hx (Nat.pow_le_pow_right (by decide) (Nat.le_succ p))) (Nat.succ_pos p)
  have hy2 := log2_lt (Nat.lt_of_lt_of_le hy (Nat.pow_le_pow_right (by decide) (Nat.le_succ q))) (Nat.succ_pos q)
  show _ + _ < _
  omega
theorem ok_remainder (T : Txt K mg cx) : FK.Has P w K mg base CX0 2 "remainder" ["one", "other"] (spRemainder K) := by
  have H_trimmed := ok_trimmed (P := P) (w := w) (base := base) T
  refine T.d_remainder.ok sc_remainder (fun vs H Q E h => ?_) (fun f cdv A outer s H vs Q E hr h => ?_)
  · obtain ⟨a, b, xs, ys, p, q, rfl, _⟩ := h
    rfl
  · obtain ⟨a, b, xs, ys, p, q, rfl, hX, hY, hne, hlx, hly, bx, by_, hpq, fin⟩ := h
    have hyl : 0 < ys.length := List.length_pos_iff.mpr hne
    refine ⟨_, (pss_cons (ps_set (i := 2) sc_remainder.nd rfl (Or.inl rfl) (by exact (pe_callTy call_list_of (by rfl) T.n_list (by decide +kernel) (pa_cons (pv 0) pa_nil))))
  (pss_cons (ps_while PassesOwn.never (pt_cmpR op_ge (pe_callB call_len_seq (by rfl) T.n_len PySem.boot_len (pa_cons (pv 2) pa_nil)) (pe_callB call_len_seq (by rfl) T.n_len PySem.boot_len (pa_cons (pv 1) pa_nil)) (nomark _)) (pss_cons (ps_set (i := 3) sc_remainder.nd rfl (Or.inl rfl) (by exact (pe_op op_sub (pe_callB call_len_seq (by rfl) T.n_len PySem.boot_len (pa_cons (pv 2) pa_nil)) (pe_callB call_len_seq (by rfl) T.n_len PySem.boot_len (pa_cons (pv 1) pa_nil)))))
  (pss_cons (ps_set (i := 4) sc_remainder.nd rfl (Or.inl rfl) (by exact (pe_ix (r := rIxL K) ix_list (pv 2) (pe_un un_neg pe_int) (fun _ _ => rfl))))
  (pss_cons (ps_setLc (i := 2) (own := [("number", 6)]) (g := gName 6) (tt := tYes) rfl sc_remainder.nd rfl rfl (sw_true rfl rfl rfl (by decide +kernel)) (pi_list (pv 2)) (blkOk_by (own := [("number", 6)]) (N := ["one", "other", "left", "shift", "lead", "at", "number"]) (sc := defScope s_remainder) (by decide +kernel)) (fun _ _ _ _ _ => (pg_name (i := 6) sc_remainder.nd rfl (Or.inl rfl))) (fun _ _ _ _ _ => pts_nil) (fun _ _ _ _ _ => (pe_op op_mulW (pv 6) (pe_ix (r := rIxL K) ix_list (pv 1) (pe_un un_neg pe_int) (fun _ _ => rfl)))))
  (pss_cons (ps_for PassesOwn.never rfl (pi_enum (by rfl) T.n_enumerate (pa_cons (pv 1) pa_nil)) (pg_tup rfl (pgs_cons (pg_name (i := 5) sc_remainder.nd rfl (Or.inl rfl)) (pgs_cons (pg_name (i := 6) sc_remainder.nd rfl (Or.inl rfl)) pgs_nil)))
  (pss_one (ps_augS (pv 2) (pe_op op_add (pv 5) (pv 3)) FK.pget_list (pe_op op_mulW (pv 4) (pv 6)) iop_sub set_list)))
  (pss_one (ps_set (i := 2) sc_remainder.nd rfl (Or.inl rfl) (by exact (FK.pe_h (E := E0) H_trimmed (hr.mono (by decide)) pass0 (pa_cons (pv 2) pa_nil))))))))))
  (pss_one (ps_ret (pv 2))))), ?_⟩
    simp only [tSeq, tIfS, tOr, tAnd, tB, tTest, tCB, tCons, tVar, tC, tNil, tNot, tNotV, tRet, tRetN, tNext, tBreak, tOrV, tAndV, tOp, tUn, rEq, rNe, tChain, rI0, rI, rU, tAsg, gName, tDrop, tAug, ipI, tIf, tCall, tCallS, tLst, tTup, tBM, tBM0, rAppend, rExtend, rPop, rReverse, tyV, rIxL, rIxT, rIxS, L2.start, List.map_cons, List.map_nil, List.length_cons, List.length_nil, List.replicate, List.cons_append, List.nil_append, List.append_nil, List.getElem?_cons_zero, List.getElem?_cons_succ, List.set_cons_zero, List.set_cons_succ, Nat.reduceAdd, Nat.reduceSub, Option.some.injEq, exists_eq_left', exists_eq_left, V.int.injEq, V.bl.injEq, V.str.injEq, V.ref.injEq, List.cons.injEq, and_true, true_and, and_assoc, reduceCtorEq, false_and, exists_false, or_false, false_or, exists_and_left, exists_const, scal, Int.reduceLT, Int.reduceLE, Int.reduceSub, Int.reduceAdd, Int.reduceNeg, if_true, if_false]
    refine ⟨_, .inl hX, fun D hD => ?_⟩
    refine ⟨RemSt K H a b xs ys p q, ⟨xs.length, xs, D, p, 200, none, none, none, none, rfl, hD, FK.same_new hD, upd_same, rfl, bx, Nat.le_refl _, Nat.le_refl _, Nat.le_trans hlx (by decide), rfl⟩, ?_⟩
    rintro m σ H' ⟨ls, D, c, n, v3, v4, v5, v6, rfl, hD, sm, hL, rfl, hb, hc, hlx2, hn, he⟩
    have hY2 := sm.seq hY
    have hL2 : SqL K H' D (ls.map V.int) := .inl (.inl hL)
    simp only [tSeq, tIfS, tOr, tAnd, tB, tTest, tCB, tCons, tVar, tC, tNil, tNot, tNotV, tRet, tRetN, tNext, tBreak, tOrV, tAndV, tOp, tUn, rEq, rNe, tChain, rI0, rI, rU, tAsg, gName, tDrop, tAug, ipI, tIf, tCall, tCallS, tLst, tTup, tBM, tBM0, rAppend, rExtend, rPop, rReverse, tyV, rIxL, rIxT, rIxS, L2.start, List.map_cons, List.map_nil, List.length_cons, List.length_nil, List.replicate, List.cons_append, List.nil_append, List.append_nil, List.getElem?_cons_zero, List.getElem?_cons_succ, List.set_cons_zero, List.set_cons_succ, Nat.reduceAdd, Nat.reduceSub, Option.some.injEq, exists_eq_left', exists_eq_left, V.int.injEq, V.bl.injEq, V.str.injEq, V.ref.injEq, List.cons.injEq, and_true, true_and, and_assoc, reduceCtorEq, false_and, exists_false, or_false, false_or, exists_and_left, exists_const, scal, Int.reduceLT, Int.reduceLE, Int.reduceSub, Int.reduceAdd, Int.reduceNeg, if_true, if_false]
    refine ⟨_, .inl hL2, _, .inl hY2, ?_⟩
    rw [List.length_map, List.length_map]
    by_cases c1 : ys.length ≤ ls.length
    · rw [decide_eq_true (show (ys.length : Int) ≤ (ls.length : Int) by omega)]
      have hl1 : ls ≠ [] := fun z => hne (List.eq_nil_of_length_eq_zero (Nat.le_zero.mp (by rw [z] at c1; exact c1)))
      refine iteT ⟨RemNx K H a b xs ys p q ls, ?_, _, .inl hL2, _, .inl hY2, _, hL2, _, at_last hl1, ?_⟩
      · rintro σ' H'' ⟨D2, w3, w4, w5, w6, rfl, hD2, sm2, hL3⟩
        have hlt := es_length hne c1
        refine ⟨_, hlt, es ls ys, D2, c + q + 1, n - 1, w3, w4, w5, w6, rfl, hD2, sm2, hL3, rfl, bd_es hb by_, ?_, by omega, by omega, ?_⟩
        · have h1 := Nat.mul_le_mul_right (q + 1) (show (es ls ys).length + 1 ≤ ls.length by omega)
          rw [Nat.succ_mul] at h1
          omega
        · rw [← he]
          obtain ⟨k, rfl⟩ : ∃ k, n = k + 1 := ⟨n - 1, by omega⟩
          show _ = (if ls.length < ys.length then ls else remF k (es ls ys) ys)
          rw [if_neg (by omega)]
          rfl
      · have hcc : c + q < 999998 := by
          have h1 := Nat.mul_le_mul_right (q + 1) hlx
          omega
        have hp0 : ((part ls ys 0).map V.int).length = (ls.map V.int).length := by rw [List.length_map, List.length_map, part_length]
        refine FK.rd_lc_pure (J := Itl K D) (H1 := H') ((part ls ys 0).map V.int) (fun R r => ⟨_, rfl, D, rfl, ⟨_, hL2⟩, r⟩) (by rw [hp0]; exact walk_list) (fun E o hE => (FK.same_new hE).seq hL2)
          (by rw [hp0, List.length_map]; exact Nat.lt_of_le_of_lt (Nat.le_trans hlx2 hlx) (by decide)) (fun _ => rfl) ?_ ?_ (fun _ _ _ _ (z : _ ∧ _) => z.1)
        · rintro D2 j x z H1 H2 R hD2 hz rfl ⟨rfl, hx⟩ go
          rw [part_zero, List.map_map, List.getElem?_map] at hz
          rw [List.getElem?_map] at hx
          cases en : ls[j]? with
          | none => rw [en] at hx; cases hx
          | some n =>
            rw [en] at hx hz
            cases hx
            cases hz
            simp only [tSeq, tIfS, tOr, tAnd, tB, tTest, tCB, tCons, tVar, tC, tNil, tNot, tNotV, tRet, tRetN, tNext, tBreak, tOrV, tAndV, tOp, tUn, rEq, rNe, tChain, rI0, rI, rU, tAsg, gName, tDrop, tAug, ipI, tIf, tCall, tCallS, tLst, tTup, tBM, tBM0, rAppend, rExtend, rPop, rReverse, tyV, rIxL, rIxT, rIxS, L2.start, List.map_cons, List.map_nil, List.length_cons, List.length_nil, List.replicate, List.cons_append, List.nil_append, List.append_nil, List.getElem?_cons_zero, List.getElem?_cons_succ, List.set_cons_zero, List.set_cons_succ, Nat.reduceAdd, Nat.reduceSub, Option.some.injEq, exists_eq_left', exists_eq_left, V.int.injEq, V.bl.injEq, V.str.injEq, V.ref.injEq, List.cons.injEq, and_true, true_and, and_assoc, reduceCtorEq, false_and, exists_false, or_false, false_or, exists_and_left, exists_const, scal, Int.reduceLT, Int.reduceLE, Int.reduceSub, Int.reduceAdd, Int.reduceNeg, if_true, if_false, wipe]
            exact ⟨_, (FK.same_new hD2).seq hY2, _, at_last hne, _, rfl, cmul (hb _ (List.mem_of_getElem? en)) (bd_getLastD by_) hcc, go⟩
        · intro D2 hD2
          have hD20 : H D2 = none := back sm hD2
          refine FK.rd_for (J := Ite K b) (H1 := upd H' D2 (.lst ((part ls ys 0).map V.int))) (fun R r => ⟨_, rfl, _, _, rfl, (FK.same_new hD2).seq hY2, r⟩) (walk_enum (xs := ys.map V.int))
            (fun i σ H'' => ∃ w5 w6 : Option V, σ = [some (.ref a), some (.ref b), some (.ref D2), some (.int ((ls.length : Int) - ys.length)), some (.int (ls.getLastD 0)), w5, w6] ∧ Same H' H'' ∧ H'' D2 = some (.lst ((part ls ys i).map V.int))) ?_ ?_ ?_ ?_
          · exact ⟨v5, v6, by rw [List.length_map, List.length_map], FK.same_new hD2, upd_same⟩
          · rintro i σ H'' _ ⟨w5, w6, rfl, sm2, _⟩
            exact sm2.seq hY2
          · rintro i v σ H'' H3 hi ⟨w5, w6, rfl, sm2, hP⟩ ⟨tp, x, y, rfl, htp, rfl, hx, hy⟩
            rw [List.length_map] at hi
            have hyn : ys[i]? = some ys[i] := List.getElem?_eq_getElem hi
            replace hy : (ys.map V.int)[i]? = some y := hy
            rw [List.getElem?_map, hyn] at hy
            cases hx
            cases hy
            obtain ⟨z, hz1, hz2⟩ := part_item c1 hi
            have hne2 : D2 ≠ tp := fun e => by rw [← e, hP] at htp; cases htp
            refine enum_gt ?_
            have hix : ((i : Int) + ((ls.length : Int) - ys.length)) = ((i + (ls.length - ys.length) : Nat) : Int) := by omega
            have hP2 : upd H'' tp (.tup [.int (i : Nat), .int ys[i]]) D2 = some (.lst ((part ls ys i).map V.int)) := by rw [upd_ne hne2]; exact hP
            have hlen : i + (ls.length - ys.length) < ((part ls ys i).map V.int).length := by rw [List.length_map, part_length]; omega
            simp only [tSeq, tIfS, tOr, tAnd, tB, tTest, tCB, tCons, tVar, tC, tNil, tNot, tNotV, tRet, tRetN, tNext, tBreak, tOrV, tAndV, tOp, tUn, rEq, rNe, tChain, rI0, rI, rU, tAsg, gName, tDrop, tAug, ipI, tIf, tCall, tCallS, tLst, tTup, tBM, tBM0, rAppend, rExtend, rPop, rReverse, tyV, rIxL, rIxT, rIxS, L2.start, List.map_cons, List.map_nil, List.length_cons, List.length_nil, List.replicate, List.cons_append, List.nil_append, List.append_nil, List.getElem?_cons_zero, List.getElem?_cons_succ, List.set_cons_zero, List.set_cons_succ, Nat.reduceAdd, Nat.reduceSub, Option.some.injEq, exists_eq_left', exists_eq_left, V.int.injEq, V.bl.injEq, V.str.injEq, V.ref.injEq, List.cons.injEq, and_true, true_and, and_assoc, reduceCtorEq, false_and, exists_false, or_false, false_or, exists_and_left, exists_const, scal, Int.reduceLT, Int.reduceLE, Int.reduceSub, Int.reduceAdd, Int.reduceNeg, if_true, if_false, tAugS, rSetL]
            rw [hix]
            refine ⟨Int.natCast_nonneg _, _, .inl (.inl hP2), .int z, atI_nat (by rw [List.getElem?_map, hz1]; rfl), cmul (bd_getLastD hb) (by_ _ (List.getElem_mem hi)) hcc, z, rfl, _, hP2, _, ixN_nat hlen, FK.same_at hD2 (sm2.trans (FK.same_new htp)), ?_⟩
            rw [show ys.getD i 0 = ys[i] by rw [List.getD_eq_getElem?_getD, hyn]; rfl] at hz2
            rw [upd_same, ← List.map_set (f := V.int), hz2]
          · rintro σ H'' ⟨w5, w6, rfl, sm2, hP⟩
            rw [List.length_map, part_full _ _ c1] at hP
            simp only [tSeq, tIfS, tOr, tAnd, tB, tTest, tCB, tCons, tVar, tC, tNil, tNot, tNotV, tRet, tRetN, tNext, tBreak, tOrV, tAndV, tOp, tUn, rEq, rNe, tChain, rI0, rI, rU, tAsg, gName, tDrop, tAug, ipI, tIf, tCall, tCallS, tLst, tTup, tBM, tBM0, rAppend, rExtend, rPop, rReverse, tyV, rIxL, rIxT, rIxS, L2.start, List.map_cons, List.map_nil, List.length_cons, List.length_nil, List.replicate, List.cons_append, List.nil_append, List.append_nil, List.getElem?_cons_zero, List.getElem?_cons_succ, List.set_cons_zero, List.set_cons_succ, Nat.reduceAdd, Nat.reduceSub, Option.some.injEq, exists_eq_left', exists_eq_left, V.int.injEq, V.bl.injEq, V.str.injEq, V.ref.injEq, List.cons.injEq, and_true, true_and, and_assoc, reduceCtorEq, false_and, exists_false, or_false, false_or, exists_and_left, exists_const, scal, Int.reduceLT, Int.reduceLE, Int.reduceSub, Int.reduceAdd, Int.reduceNeg, if_true, if_false]
            exact ⟨D2, raw ls ys, rfl, .inl (.inl hP), by rw [raw_length]; omega, fun p' hp' => ⟨p', _, _, _, _, rfl, back (sm.trans sm2) hp', FK.same_at (back (sm.trans sm2) hp') (sm.trans sm2), upd_same⟩⟩
    · rw [decide_eq_false (show ¬ (ys.length : Int) ≤ (ls.length : Int) by omega)]
      refine iteF ?_
      rw [remF_done (by omega)] at he
      rw [← he] at fin
      exact fin D H' hD sm hL
theorem dpAll_ints {K : PySem.W.Frag} {H : Hp} : ∀ xs : List Int, DpAll K H (xs.map V.int) (xs.map PyData.int)
  | [] => .nil
  | x :: xs => .cons (.int x) (dpAll_ints xs)
theorem canLay_ints : ∀ xs : List Int, PyData.canLayAll0 (xs.map PyData.int) = true
  | [] => rfl
  | x :: xs => canLay_ints xs
theorem depth_ints : ∀ xs : List Int, PyData.depthAll (xs.map PyData.int) ≤ 2
  | [] => by simp only [List.map_nil, PyData.depthAll]; decide
  | x :: xs => by
    have := depth_ints xs
    simp only [List.map_cons, PyData.depthAll, PyData.depth]
    omega
theorem shaped_ints (xs : List Int) : SeqAt.shaped (.list (xs.map PyData.int)) = true := by
  unfold SeqAt.shaped
  rw [show PyData.canLay0 (.list (xs.map PyData.int)) = PyData.canLayAll0 (xs.map PyData.int) from rfl, canLay_ints, Bool.true_and]
  refine decide_eq_true ?_
  have := depth_ints xs
  simp only [PyData.depth]
  omega
theorem eqv_ints : ∀ xs ys : List Int, PyData.eqvAll (xs.map PyData.int) (ys.map PyData.int) = decide (xs = ys)
  | [], [] => rfl
  | [], y :: ys => rfl
  | x :: xs, [] => rfl
  | x :: xs, y :: ys => by
    rw [List.map_cons, List.map_cons, PyData.eqvAll, eqv_ints xs ys, PyData.eqv]
    by_cases h : x = y
    · subst h
      simp
    · simp [h]
theorem eqD_ints {K : PySem.W.Frag} {H : Hp} {a b : Addr} {xs ys : List Int} {Q : VK} (ha : SqL K H a (xs.map V.int)) (hb : SqL K H b (ys.map V.int)) (q : Q (.bl (decide (xs = ys))) H) : rEqD K (.ref a) (.ref b) H Q :=
  ⟨_, _, .lst ha (dpAll_ints xs), .lst hb (dpAll_ints ys), shaped_ints xs, shaped_ints ys, by rw [PyData.eqv, eqv_ints]; exact q⟩
theorem neD_ints {K : PySem.W.Frag} {H : Hp} {a b : Addr} {xs ys : List Int} {Q : VK} (ha : SqL K H a (xs.map V.int)) (hb : SqL K H b (ys.map V.int)) (q : Q (.bl (!decide (xs = ys))) H) : rNeD K (.ref a) (.ref b) H Q :=
  ⟨_, _, .lst ha (dpAll_ints xs), .lst hb (dpAll_ints ys), shaped_ints xs, shaped_ints ys, by rw [PyData.eqv, eqv_ints]; exact q⟩
def spCommon (K : PySem.W.Frag) : Sp := fun vs H Q _ => ∃ (a b : Addr) (xs ys : List Int), vs = [.ref a, .ref b] ∧ SqL K H a (xs.map V.int) ∧ SqL K H b (ys.map V.int) ∧ Pol xs ∧ Pol ys ∧ CInv xs ys ∧
  ∀ D H', H D = none → Same H H' → H' D = some (.lst ((prim (comF 200 xs ys)).map V.int)) → Q (.ref D) H'
def ComSt (K : PySem.W.Frag) (H : Hp) (xs ys : List Int) (m : Nat) (σ : L2.St) (H' : Hp) : Prop := ∃ (one other : List Int) (a b : Addr) (n : Nat), σ = [some (.ref a), some (.ref b)] ∧ Same H H' ∧ SqL K H' a (one.map V.int) ∧ SqL K H' b (other.map V.int) ∧ m = other.length ∧ CInv one other ∧ Pol one ∧ Pol other ∧ other.length ≤ n ∧ comF n one other = comF 200 xs ys
def ComNx (K : PySem.W.Frag) (H : Hp) (one other : List Int) (σ : L2.St) (H' : Hp) : Prop := ∃ (a b : Addr), σ = [some (.ref a), some (.ref b)] ∧ Same H H' ∧ SqL K H' a (other.map V.int) ∧ SqL K H' b ((remF 200 (prim one) (prim other)).map V.int)
theorem ok_common (T : Txt K mg cx) : FK.Has P w K mg base CX0 3 "common_divisor" ["one", "other"] (spCommon K) := by
  have H_primitive := ok_primitive (P := P) (w := w) (base := base) T
  have H_remainder := ok_remainder (P := P) (w := w) (base := base) T
  refine T.d_common_divisor.ok sc_common_divisor (fun vs H Q E h => ?_) (fun f cdv A outer s H vs Q E hr h => ?_)
  · obtain ⟨a, b, xs, ys, rfl, _⟩ := h
    rfl
  · obtain ⟨a, b, xs, ys, rfl, hX, hY, px, py, ci, fin⟩ := h
    refine ⟨_, (pss_cons (ps_while PassesOwn.never (pt_cmpR (op_neD hr.units) (pv 1) (pe_lst pa_nil) (nomark _)) (pss_one (ps_par (i := 0) (j := 1) (by rfl) sc_common_divisor.nd rfl rfl (by decide) rfl rfl (pa_cons (pv 1) (pa_cons (FK.pe_h (E := E0) H_remainder (hr.mono (by decide)) pass0 (pa_cons (FK.pe_h (E := E0) H_primitive (hr.mono (by decide)) pass0 (pa_cons (pv 0) pa_nil)) (pa_cons (FK.pe_h (E := E0) H_primitive (hr.mono (by decide)) pass0 (pa_cons (pv 1) pa_nil)) pa_nil))) pa_nil)) (by first | rfl | kernel_rfl | with_unfolding_all rfl))))
  (pss_one (ps_ret (FK.pe_h (E := E0) H_primitive (hr.mono (by decide)) pass0 (pa_cons (pv 0) pa_nil))))), ?_⟩
    simp only [tSeq, tIfS, tOr, tAnd, tB, tTest, tCB, tCons, tVar, tC, tNil, tNot, tNotV, tRet, tRetN, tNext, tBreak, tOrV, tAndV, tOp, tUn, rEq, rNe, tChain, rI0, rI, rU, tAsg, gName, tDrop, tAug, ipI, tIf, tCall, tCallS, tLst, tTup, tBM, tBM0, rAppend, rExtend, rPop, rReverse, tyV, rIxL, rIxT, rIxS, L2.start, List.map_cons, List.map_nil, List.length_cons, List.length_nil, List.replicate, List.cons_append, List.nil_append, List.append_nil, List.getElem?_cons_zero, List.getElem?_cons_succ, List.set_cons_zero, List.set_cons_succ, Nat.reduceAdd, Nat.reduceSub, Option.some.injEq, exists_eq_left', exists_eq_left, V.int.injEq, V.bl.injEq, V.str.injEq, V.ref.injEq, List.cons.injEq, and_true, true_and, and_assoc, reduceCtorEq, false_and, exists_false, or_false, false_or, exists_and_left, exists_const, scal, Int.reduceLT, Int.reduceLE, Int.reduceSub, Int.reduceAdd, Int.reduceNeg, if_true, if_false]
    refine ⟨ComSt K H xs ys, ⟨ys.length, xs, ys, a, b, 200, rfl, .refl _, hX, hY, rfl, ci, px, py, by have := ci.2.1; omega, rfl⟩, ?_⟩
    rintro m σ H' ⟨one, other, a, b, n, rfl, sm, hX, hY, rfl, ci, px, py, hn, he⟩
    simp only [tSeq, tIfS, tOr, tAnd, tB, tTest, tCB, tCons, tVar, tC, tNil, tNot, tNotV, tRet, tRetN, tNext, tBreak, tOrV, tAndV, tOp, tUn, rEq, rNe, tChain, rI0, rI, rU, tAsg, gName, tDrop, tAug, ipI, tIf, tCall, tCallS, tLst, tTup, tBM, tBM0, rAppend, rExtend, rPop, rReverse, tyV, rIxL, rIxT, rIxS, L2.start, List.map_cons, List.map_nil, List.length_cons, List.length_nil, List.replicate, List.cons_append, List.nil_append, List.append_nil, List.getElem?_cons_zero, List.getElem?_cons_succ, List.set_cons_zero, List.set_cons_succ, Nat.reduceAdd, Nat.reduceSub, Option.some.injEq, exists_eq_left', exists_eq_left, V.int.injEq, V.bl.injEq, V.str.injEq, V.ref.injEq, List.cons.injEq, and_true, true_and, and_assoc, reduceCtorEq, false_and, exists_false, or_false, false_or, exists_and_left, exists_const, scal, Int.reduceLT, Int.reduceLE, Int.reduceSub, Int.reduceAdd, Int.reduceNeg, if_true, if_false]
    refine ⟨Nat.zero_le _, fun p hp => neD_ints (ys := []) ((FK.same_new hp).seq hY) (.inl (.inl upd_same)) ⟨_, rfl, ?_⟩⟩
    have hX2 : SqL K (upd H' p (.lst [])) a (one.map V.int) := (FK.same_new hp).seq hX
    have hY2 : SqL K (upd H' p (.lst [])) b (other.map V.int) := (FK.same_new hp).seq hY
    have sm2 : Same H (upd H' p (.lst [])) := sm.trans (FK.same_new hp)
    have hb8 : Bd 8000 one ∧ Bd 8000 other := by
      obtain ⟨h1, h2, h | ⟨h3, h4, h5⟩⟩ := ci
      · exact ⟨h.1.mono (by decide), h.2.mono (by decide)⟩
      · exact ⟨h4.mono (Nat.le_trans (bb_le' _) (by decide)), h5.mono (Nat.le_trans (bb_le' _) (by decide))⟩
    by_cases c : other = []
    · rw [decide_eq_true c]
      subst c
      refine iteF ⟨a, one, rfl, hX2, Nat.le_trans ci.1 (by decide), px, hb8.1, fun p' hp' => ?_⟩
      have e2 : comF n one [] = one := by
        cases n with
        | zero => rfl
        | succ n => rfl
      rw [e2] at he
      rw [← he] at fin
      exact fin p' _ (back sm2 hp') (FK.same_at (back sm2 hp') sm2) upd_same
    · rw [decide_eq_false c]
      refine iteT ⟨ComNx K H one other, ?_, ?_⟩
      · rintro σ' H'' ⟨a2, b2, rfl, sm3, hX3, hY3⟩
        have hne := prim_ne c
        have hl := remF_length 200 (prim one) (prim other) hne (by rw [prim_length]; have := ci.1; omega)
        rw [prim_length] at hl
        refine ⟨_, hl, other, remF 200 (prim one) (prim other), a2, b2, n - 1, rfl, sm3, hX3, hY3, rfl, cinv_rem ci c, py, pol_rem _ _ _ (pol_prim px), by omega, ?_⟩
        rw [← he]
        obtain ⟨k, rfl⟩ : ∃ k, n = k + 1 := ⟨n - 1, by omega⟩
        show _ = (if other = [] then one else comF k other (remF 200 (prim one) (prim other)))
        rw [if_neg c]
        rfl
      · simp only [tSeq, tIfS, tOr, tAnd, tB, tTest, tCB, tCons, tVar, tC, tNil, tNot, tNotV, tRet, tRetN, tNext, tBreak, tOrV, tAndV, tOp, tUn, rEq, rNe, tChain, rI0, rI, rU, tAsg, gName, tDrop, tAug, ipI, tIf, tCall, tCallS, tLst, tTup, tBM, tBM0, rAppend, rExtend, rPop, rReverse, tyV, rIxL, rIxT, rIxS, L2.start, List.map_cons, List.map_nil, List.length_cons, List.length_nil, List.replicate, List.cons_append, List.nil_append, List.append_nil, List.getElem?_cons_zero, List.getElem?_cons_succ, List.set_cons_zero, List.set_cons_succ, Nat.reduceAdd, Nat.reduceSub, Option.some.injEq, exists_eq_left', exists_eq_left, V.int.injEq, V.bl.injEq, V.str.injEq, V.ref.injEq, List.cons.injEq, and_true, true_and, and_assoc, reduceCtorEq, false_and, exists_false, or_false, false_or, exists_and_left, exists_const, scal, Int.reduceLT, Int.reduceLE, Int.reduceSub, Int.reduceAdd, Int.reduceNeg, if_true, if_false, tPar]
        refine ⟨a, one, rfl, hX2, Nat.le_trans ci.1 (by decide), px, hb8.1, fun p1 hp1 => ?_⟩
        refine ⟨b, other, rfl, (FK.same_new hp1).seq hY2, Nat.le_trans ci.2.1 (by decide), py, hb8.2, fun p2 hp2 => ?_⟩
        obtain ⟨pb, qb, h1, h2, h3, h4, _⟩ := cinv_bd ci c
        refine ⟨p1, p2, prim one, prim other, pb, qb, rfl, .inl (.inl ?_), .inl (.inl upd_same), prim_ne c, by rw [prim_length]; exact Nat.le_trans ci.1 (by decide), by rw [prim_length]; exact Nat.le_trans ci.2.1 (by decide), bd_prim h1, bd_prim h2, by omega, fun D H' hD s3 hL => ?_⟩
        · exact (FK.same_new hp2) _ _ upd_same
        · exact ⟨b, D, rfl, sm2.trans ((FK.same_new hp1).trans ((FK.same_new hp2).trans s3)), s3.seq ((FK.same_new hp2).seq ((FK.same_new hp1).seq hY2)), .inl (.inl hL)⟩

end
end K13

namespace K13
open PySem PySem.Spec PyProof.Rows L2
section
variable {P : Program} {w : World} {K : PySem.W.Frag} {mg : Str → Option Value} {base : Heap} {cx : Xs}
open P13
def polB (xs : List Int) : Bool := decide (xs = []) || decide (xs.getLastD 0 ≠ 0)
theorem polB_pol {xs : List Int} (h : polB xs = true) : Pol xs := by
  unfold polB at h
  rw [Bool.or_eq_true] at h
  exact h.imp of_decide_eq_true of_decide_eq_true
def okFrac (xs ys : List Int) : Bool := polB xs && (polB ys && decide (ys.head? = some 1))
def spIsPol (K : PySem.W.Frag) : Sp := fun vs H Q _ => ∃ (a : Addr) (xs : List Int), vs = [.ref a] ∧ SqL K H a (xs.map V.int) ∧ ∀ H', Same H H' → Q (.bl (polB xs)) H'
theorem ok_is_polynomial (T : Txt K mg cx) : FK.Has P w K mg base CX0 1 "is_polynomial" ["numbers"] (spIsPol K) := by
  refine T.d_is_polynomial.ok sc_is_polynomial (fun vs H Q E h => ?_) (fun f cdv A outer s H vs Q E hr h => ?_)
  · obtain ⟨a, ns, rfl, _⟩ := h
    rfl
  · obtain ⟨a, xs, rfl, hS, q⟩ := h
    refine ⟨_, (pss_one (ps_ret (pe_or (pe_cmpR (op_eqD hr.units) (pv 0) (pe_lst pa_nil) (nomark _)) (pe_one (pe_cmpR op_ne (pe_ix (r := rIxL K) ix_list (pv 0) (pe_un un_neg pe_int) (fun _ _ => rfl)) pe_int (nomark _)))))), ?_⟩
    simp only [tSeq, tIfS, tOr, tAnd, tB, tTest, tCB, tCons, tVar, tC, tNil, tNot, tNotV, tRet, tRetN, tNext, tBreak, tOrV, tAndV, tOp, tUn, rEq, rNe, tChain, rI0, rI, rU, tAsg, gName, tDrop, tAug, ipI, tIf, tCall, tCallS, tLst, tTup, tBM, tBM0, rAppend, rExtend, rPop, rReverse, tyV, rIxL, rIxT, rIxS, L2.start, List.map_cons, List.map_nil, List.length_cons, List.length_nil, List.replicate, List.cons_append, List.nil_append, List.append_nil, List.getElem?_cons_zero, List.getElem?_cons_succ, List.set_cons_zero, List.set_cons_succ, Nat.reduceAdd, Nat.reduceSub, Option.some.injEq, exists_eq_left', exists_eq_left, V.int.injEq, V.bl.injEq, V.str.injEq, V.ref.injEq, List.cons.injEq, and_true, true_and, and_assoc, reduceCtorEq, false_and, exists_false, or_false, false_or, exists_and_left, exists_const, scal, Int.reduceLT, Int.reduceLE, Int.reduceSub, Int.reduceAdd, Int.reduceNeg, if_true, if_false]
    refine ⟨Nat.zero_le _, fun p hp => eqD_ints (ys := []) ((FK.same_new hp).seq hS) (.inl (.inl upd_same)) ⟨_, rfl, ?_⟩⟩
    have q2 := q _ (FK.same_new (o := .lst []) hp)
    unfold polB at q2
    by_cases c : xs = []
    · rw [decide_eq_true c] at q2 ⊢
      exact iteT q2
    · rw [decide_eq_false c] at q2 ⊢
      refine iteF ⟨_, (FK.same_new hp).seq hS, _, at_last c, rfl, ?_⟩
      rw [Bool.false_or, decide_not] at q2
      rw [show decide (V.int (xs.getLastD 0) = V.int 0) = decide (xs.getLastD 0 = 0) by simp]
      exact q2
/-- x, y = a pair -/
theorem pair_gt {t : Addr} {j k : Nat} {x y : V} {σ : L2.St} {H : Hp} {R : L2.St → Hp → Prop} (hT : SqT K H t [x, y]) (h : R ((σ.set j (some x)).set k (some y)) H) :
    gTup K 2 (gCons (gName j) (gCons (gName k) gNil)) (.ref t) σ H R := ⟨t, _, rfl, hT, rfl, _, _, rfl, _, _, rfl, rfl, h⟩
def spCheckF (K : PySem.W.Frag) (C : Addr) : Sp := fun vs H Q E => ∃ (t a b : Addr) (xs ys : List Int), vs = [.ref t] ∧ SqT K H t [.ref a, .ref b] ∧ SqL K H a (xs.map V.int) ∧ SqL K H b (ys.map V.int) ∧ (okFrac xs ys = false → ∀ H', Same H H' → E (.ref C) none H') ∧ (okFrac xs ys = true → ∀ H', Same H H' → Q .non H')
theorem ok_check_fraction (T : Txt K mg cx) : FK.Has P w K mg base (L2.CX P w) 2 "check_fraction" ["fraction"] (spCheckF K cx.NotSeries) := by
  have H_is_polynomial := ok_is_polynomial (P := P) (w := w) (base := base) T
  refine T.d_check_fraction.okX sc_check_fraction (fun vs H Q E h => ?_) (fun f cdv A outer s H vs Q E hr h => ?_)
  · obtain ⟨t, a, b, xs, ys, rfl, _⟩ := h
    rfl
  · obtain ⟨t, a, b, xs, ys, rfl, hT, hX, hY, qE, q⟩ := h
    refine ⟨_, (pss_cons (ps_asg (pv 0) (pg_tup rfl (pgs_cons (pg_name (i := 1) sc_check_fraction.nd rfl (Or.inl rfl)) (pgs_cons (pg_name (i := 2) sc_check_fraction.nd rfl (Or.inl rfl)) pgs_nil))))
  (pss_cons (ps_if (PW.pt (pw_or (pt_not (pt_val (FK.pe_h (E := E0) H_is_polynomial (hr.mono (by decide)) pass0 (pa_cons (pv 1) pa_nil)))) (pw_or1 (pt_not (pt_val (FK.pe_h (E := E0) H_is_polynomial (hr.mono (by decide)) pass0 (pa_cons (pv 2) pa_nil))))))) (pss_one (ps_raise rfl (takes_of rfl rfl rfl rfl) (pmk_own PySem.F.excBase_ValueError T.x_NotSeries.x T.x_NotSeries.g T.x_NotSeries.k (raises_own T.x_NotSeries.b T.x_NotSeries.t) (by exact rfl)))) pss_nil)
  (pss_one (ps_if (PW.pt (pw_or (pt_cmpR (op_eqD hr.units) (pv 2) (pe_lst pa_nil) (nomark _)) (pw_or1 (pt_cmpR op_ne (pe_ix (r := rIxL K) ix_list (pv 2) pe_int (fun _ _ => rfl)) pe_int (nomark _))))) (pss_one (ps_raise rfl (takes_of rfl rfl rfl rfl) (pmk_own PySem.F.excBase_ValueError T.x_NotSeries.x T.x_NotSeries.g T.x_NotSeries.k (raises_own T.x_NotSeries.b T.x_NotSeries.t) (by exact rfl)))) pss_nil)))), ?_⟩
    simp only [tSeq, tIfS, tOr, tAnd, tB, tTest, tCB, tCons, tVar, tC, tNil, tNot, tNotV, tRet, tRetN, tNext, tBreak, tOrV, tAndV, tOp, tUn, rEq, rNe, tChain, rI0, rI, rU, tAsg, gName, tDrop, tAug, ipI, tIf, tCall, tCallS, tLst, tTup, tBM, tBM0, rAppend, rExtend, rPop, rReverse, tyV, rIxL, rIxT, rIxS, L2.start, List.map_cons, List.map_nil, List.length_cons, List.length_nil, List.replicate, List.cons_append, List.nil_append, List.append_nil, List.getElem?_cons_zero, List.getElem?_cons_succ, List.set_cons_zero, List.set_cons_succ, Nat.reduceAdd, Nat.reduceSub, Option.some.injEq, exists_eq_left', exists_eq_left, V.int.injEq, V.bl.injEq, V.str.injEq, V.ref.injEq, List.cons.injEq, and_true, true_and, and_assoc, reduceCtorEq, false_and, exists_false, or_false, false_or, exists_and_left, exists_const, scal, Int.reduceLT, Int.reduceLE, Int.reduceSub, Int.reduceAdd, Int.reduceNeg, if_true, if_false]
    refine pair_gt hT ?_
    simp only [tSeq, tIfS, tOr, tAnd, tB, tTest, tCB, tCons, tVar, tC, tNil, tNot, tNotV, tRet, tRetN, tNext, tBreak, tOrV, tAndV, tOp, tUn, rEq, rNe, tChain, rI0, rI, rU, tAsg, gName, tDrop, tAug, ipI, tIf, tCall, tCallS, tLst, tTup, tBM, tBM0, rAppend, rExtend, rPop, rReverse, tyV, rIxL, rIxT, rIxS, L2.start, List.map_cons, List.map_nil, List.length_cons, List.length_nil, List.replicate, List.cons_append, List.nil_append, List.append_nil, List.getElem?_cons_zero, List.getElem?_cons_succ, List.set_cons_zero, List.set_cons_succ, Nat.reduceAdd, Nat.reduceSub, Option.some.injEq, exists_eq_left', exists_eq_left, V.int.injEq, V.bl.injEq, V.str.injEq, V.ref.injEq, List.cons.injEq, and_true, true_and, and_assoc, reduceCtorEq, false_and, exists_false, or_false, false_or, exists_and_left, exists_const, scal, Int.reduceLT, Int.reduceLE, Int.reduceSub, Int.reduceAdd, Int.reduceNeg, if_true, if_false]
    unfold okFrac at qE q
    refine ⟨a, xs, rfl, hX, fun H1 s1 => ⟨_, rfl, ?_⟩⟩
    cases e1 : polB xs with
    | false =>
      rw [e1] at qE
      exact iteT (qE rfl H1 s1)
    | true =>
      rw [e1] at qE q
      refine iteF ⟨b, ys, rfl, s1.seq hY, fun H2 s2 => ⟨_, rfl, ?_⟩⟩
      cases e2 : polB ys with
      | false =>
        rw [e2] at qE
        exact iteT (qE rfl H2 (s1.trans s2))
      | true =>
        rw [e2] at qE q
        refine iteF ⟨Nat.zero_le _, fun p hp => ?_⟩
        have s3 : Same H (upd H2 p (.lst [])) := s1.trans (s2.trans (FK.same_new hp))
        refine eqD_ints (ys := []) (s3.seq hY) (.inl (.inl upd_same)) ⟨_, rfl, ?_⟩
        cases ys with
        | nil => exact iteT (qE rfl _ s3)
        | cons y ys =>
          refine iteF ⟨_, s3.seq hY, .int y, atI_nat (j := 0) rfl, rfl, ?_⟩
          by_cases c : y = 1
          · subst c
            exact iteF (q rfl _ s3)
          · have e3 : decide ((y :: ys).head? = some 1) = false := decide_eq_false (fun z => c (Option.some.inj z))
            rw [e3] at qE
            rw [decide_eq_false (fun z => c (V.int.inj z))]
            exact iteT (qE rfl _ s3)
theorem atI_getD {xs : List Int} {k : Nat} (h : k < xs.length) : atI (xs.map V.int) (k : Int) = some (.int (xs.getD k 0)) :=
  atI_nat (by rw [List.getElem?_map, List.getD_eq_getElem?_getD, List.getElem?_eq_getElem h]; rfl)
theorem walk_nat {n : Nat} : Walk (Itr 0 n) n (fun _ => True) (YFn fun i => .int (i : Nat)) := by
  have e : (fun i : Nat => V.int (0 + (i : Nat))) = fun i : Nat => V.int (i : Nat) := by
    funext i
    rw [Int.zero_add]
  rw [← e]
  exact walk_range
def spTerms (K : PySem.W.Frag) : Sp := fun vs H Q _ => ∃ (t a b : Addr) (xs ys : List Int) (n : Nat), vs = [.ref t, .int n] ∧ SqT K H t [.ref a, .ref b] ∧ SqL K H a (xs.map V.int) ∧ SqL K H b (ys.map V.int) ∧ ys ≠ [] ∧ n ≤ 201 ∧ Bd 6 xs ∧ Bd 6 ys ∧ ys.length ≤ 8 ∧ ∀ D H', H D = none → Same H H' → H' D = some (.lst ((ser xs ys n).map V.int)) → Q (.ref D) H'
theorem ok_terms (T : Txt K mg cx) : FK.Has P w K mg base CX0 2 "terms" ["fraction", "many"] (spTerms K) := by
  refine T.d_terms.ok sc_terms (fun vs H Q E h => ?_) (fun f cdv A outer s H vs Q E hr h => ?_)
  · obtain ⟨t, a, b, xs, ys, n, rfl, _⟩ := h
    rfl
  · obtain ⟨t, a, b, xs, ys, n, rfl, hT, hX, hY, hy, hn, bx, by_, hl, q⟩ := h
    refine ⟨_, (C8.pss_cut (ps_asg (pv 0) (pg_tup rfl (pgs_cons (pg_name (i := 4) sc_terms.nd rfl (Or.inl rfl)) (pgs_cons (pg_name (i := 5) sc_terms.nd rfl (Or.inl rfl)) pgs_nil))))
  (C8.pss_cut (ps_set (i := 2) sc_terms.nd rfl (Or.inl rfl) (by exact (pe_lst pa_nil)))
  (C8.pss_cut (ps_for PassesOwn.never rfl (pi_range1 rfl T.n_range (pa_cons (pv 1) pa_nil)) (pg_name (i := 3) sc_terms.nd rfl (Or.inl rfl))
  (C8.pss_cut (ps_set (i := 6) sc_terms.nd rfl (Or.inl rfl) (by exact (pe_ifExp (pt_cmpR op_lt (pv 3) (pe_callB call_len_seq (by rfl) T.n_len PySem.boot_len (pa_cons (pv 4) pa_nil)) (nomark _)) (pe_ix (r := rIxL K) ix_list (pv 4) (pv 3) (fun _ _ => rfl)) pe_int)))
  (C8.pss_cut (ps_for PassesOwn.never rfl (pi_range2 (by rfl) T.n_range (pa_cons pe_int (pa_cons (pe_op op_add (pe_callB (call_min2 rfl) (by rfl) T.n_min (by decide +kernel) (pa_cons (pv 3) (pa_cons (pe_op op_sub (pe_callB call_len_seq (by rfl) T.n_len PySem.boot_len (pa_cons (pv 5) pa_nil)) pe_int) pa_nil))) pe_int) pa_nil))) (pg_name (i := 7) sc_terms.nd rfl (Or.inl rfl))
  (pss_one (ps_aug (i := 6) sc_terms.nd rfl (Or.inl rfl) (pe_op op_mulW (pe_ix (r := rIxL K) ix_list (pv 5) (pv 7) (fun _ _ => rfl)) (pe_ix (r := rIxL K) ix_list (pv 2) (pe_op op_sub (pv 3) (pv 7)) (fun _ _ => rfl))) iop_sub)))
  (pss_one (ps_expr (pe_bm PySem.F.plainAttrs_list PySem.F.slot_list_append PySem.F.type_list_append mt_append (pv 2) (pa_cons (pv 6) pa_nil)))))))
  (pss_one (ps_ret (pv 2)))))), ?_⟩
    have hyl : 0 < ys.length := List.length_pos_iff.mpr hy
    refine ⟨fun σ H' => σ = [some (.ref t), some (.int (n : Nat)), none, none, some (.ref a), some (.ref b), none, none] ∧ H' = H, ?_, ?_⟩
    · simp only [tSeq, tIfS, tOr, tAnd, tB, tTest, tCB, tCons, tVar, tC, tNil, tNot, tNotV, tRet, tRetN, tNext, tBreak, tOrV, tAndV, tOp, tUn, rEq, rNe, tChain, rI0, rI, rU, tAsg, gName, tDrop, tAug, ipI, tIf, tCall, tCallS, tLst, tTup, tBM, tBM0, rAppend, rExtend, rPop, rReverse, tyV, rIxL, rIxT, rIxS, L2.start, List.map_cons, List.map_nil, List.length_cons, List.length_nil, List.replicate, List.cons_append, List.nil_append, List.append_nil, List.getElem?_cons_zero, List.getElem?_cons_succ, List.set_cons_zero, List.set_cons_succ, Nat.reduceAdd, Nat.reduceSub, Option.some.injEq, exists_eq_left', exists_eq_left, V.int.injEq, V.bl.injEq, V.str.injEq, V.ref.injEq, List.cons.injEq, and_true, true_and, and_assoc, reduceCtorEq, false_and, exists_false, or_false, false_or, exists_and_left, exists_const, scal, Int.reduceLT, Int.reduceLE, Int.reduceSub, Int.reduceAdd, Int.reduceNeg, if_true, if_false]
      exact pair_gt hT ⟨rfl, rfl⟩
    rintro σ H' ⟨rfl, rfl⟩
    refine ⟨fun σ H1 => ∃ p : Addr, H' p = none ∧ σ = [some (.ref t), some (.int (n : Nat)), some (.ref p), none, some (.ref a), some (.ref b), none, none] ∧ H1 = upd H' p (.lst []), ?_, ?_⟩
    · simp only [tSeq, tIfS, tOr, tAnd, tB, tTest, tCB, tCons, tVar, tC, tNil, tNot, tNotV, tRet, tRetN, tNext, tBreak, tOrV, tAndV, tOp, tUn, rEq, rNe, tChain, rI0, rI, rU, tAsg, gName, tDrop, tAug, ipI, tIf, tCall, tCallS, tLst, tTup, tBM, tBM0, rAppend, rExtend, rPop, rReverse, tyV, rIxL, rIxT, rIxS, L2.start, List.map_cons, List.map_nil, List.length_cons, List.length_nil, List.replicate, List.cons_append, List.nil_append, List.append_nil, List.getElem?_cons_zero, List.getElem?_cons_succ, List.set_cons_zero, List.set_cons_succ, Nat.reduceAdd, Nat.reduceSub, Option.some.injEq, exists_eq_left', exists_eq_left, V.int.injEq, V.bl.injEq, V.str.injEq, V.ref.injEq, List.cons.injEq, and_true, true_and, and_assoc, reduceCtorEq, false_and, exists_false, or_false, false_or, exists_and_left, exists_const, scal, Int.reduceLT, Int.reduceLE, Int.reduceSub, Int.reduceAdd, Int.reduceNeg, if_true, if_false]
      exact ⟨Nat.zero_le _, fun p hp => ⟨p, hp, rfl, rfl⟩⟩
    rintro σ H1 ⟨p, hp, rfl, rfl⟩
    refine ⟨fun σ H1 => ∃ v3 v6 v7 : Option V, σ = [some (.ref t), some (.int (n : Nat)), some (.ref p), v3, some (.ref a), some (.ref b), v6, v7] ∧ H1 = upd H' p (.lst ((ser xs ys n).map V.int)), ?_, ?_⟩
    · refine FK.rd_for (J := Itr 0 n) (H1 := upd H' p (.lst [])) (fun R r => ?_) walk_nat
        (fun i σ H1 => ∃ v3 v6 v7 : Option V, σ = [some (.ref t), some (.int (n : Nat)), some (.ref p), v3, some (.ref a), some (.ref b), v6, v7] ∧ H1 = upd H' p (.lst ((ser xs ys i).map V.int))) ⟨_, _, _, rfl, rfl⟩ (fun _ _ _ _ _ => trivial) ?_ (fun _ _ z => z)
      · exact ⟨_, rfl, n, rfl, by omega, by omega, by rw [Int.toNat_natCast]; exact r⟩
      rintro i v σ H1 H2 hi ⟨v3, v6, v7, rfl, rfl⟩ ⟨rfl, hv⟩
      obtain rfl : v = .int (i : Nat) := hv
      have fr : ∀ {o : HO}, Same H' (upd H' p o) := fun {o} => FK.same_new hp
      refine ⟨fun σ H1 => σ = [some (.ref t), some (.int (n : Nat)), some (.ref p), some (.int (i : Nat)), some (.ref a), some (.ref b), some (.int (xs.getD i 0)), v7] ∧ H1 = upd H' p (.lst ((ser xs ys i).map V.int)), ?_, ?_⟩
      · simp only [tSeq, tIfS, tOr, tAnd, tB, tTest, tCB, tCons, tVar, tC, tNil, tNot, tNotV, tRet, tRetN, tNext, tBreak, tOrV, tAndV, tOp, tUn, rEq, rNe, tChain, rI0, rI, rU, tAsg, gName, tDrop, tAug, ipI, tIf, tCall, tCallS, tLst, tTup, tBM, tBM0, rAppend, rExtend, rPop, rReverse, tyV, rIxL, rIxT, rIxS, L2.start, List.map_cons, List.map_nil, List.length_cons, List.length_nil, List.replicate, List.cons_append, List.nil_append, List.append_nil, List.getElem?_cons_zero, List.getElem?_cons_succ, List.set_cons_zero, List.set_cons_succ, Nat.reduceAdd, Nat.reduceSub, Option.some.injEq, exists_eq_left', exists_eq_left, V.int.injEq, V.bl.injEq, V.str.injEq, V.ref.injEq, List.cons.injEq, and_true, true_and, and_assoc, reduceCtorEq, false_and, exists_false, or_false, false_or, exists_and_left, exists_const, scal, Int.reduceLT, Int.reduceLE, Int.reduceSub, Int.reduceAdd, Int.reduceNeg, if_true, if_false]
        refine ⟨_, .inl (fr.seq hX), ite2 (fun c => ?_) (fun c => ?_)⟩
        · have c := of_decide_eq_true c
          rw [List.length_map] at c
          have hi2 : i < xs.length := by omega
          have hg : xs[i]? = some (xs.getD i 0) := by rw [List.getD_eq_getElem?_getD, List.getElem?_eq_getElem hi2]; rfl
          exact ⟨_, fr.seq hX, _, atI_nat (by rw [List.getElem?_map, hg]; rfl), rfl⟩
        · have c : ¬ _ := fun z => c (decide_eq_true z)
          rw [List.length_map] at c
          rw [getD_len (by omega)]
      rintro σ H1 ⟨rfl, rfl⟩
      refine ⟨fun σ H1 => ∃ v7 : Option V, σ = [some (.ref t), some (.int (n : Nat)), some (.ref p), some (.int (i : Nat)), some (.ref a), some (.ref b), some (.int (xs.getD i 0 - sb ys (ser xs ys i) i (min i (ys.length - 1)))), v7] ∧ H1 = upd H' p (.lst ((ser xs ys i).map V.int)), ?_, ?_⟩
      · refine FK.rd_for (J := Itr 1 (min i (ys.length - 1))) (H1 := upd H' p (.lst ((ser xs ys i).map V.int))) (fun R r => ?_) walk_range
          (fun k σ H1 => ∃ v7 : Option V, σ = [some (.ref t), some (.int (n : Nat)), some (.ref p), some (.int (i : Nat)), some (.ref a), some (.ref b), some (.int (xs.getD i 0 - sb ys (ser xs ys i) i k)), v7] ∧ H1 = upd H' p (.lst ((ser xs ys i).map V.int)))
          ⟨_, by show _ = [_, _, _, _, _, _, some (V.int (xs.getD i 0 - 0)), _]; rw [Int.sub_zero], rfl⟩ (fun _ _ _ _ _ => trivial) ?_ (fun _ _ z => z)
        · simp only [iRng2, tSeq, tIfS, tOr, tAnd, tB, tTest, tCB, tCons, tVar, tC, tNil, tNot, tNotV, tRet, tRetN, tNext, tBreak, tOrV, tAndV, tOp, tUn, rEq, rNe, tChain, rI0, rI, rU, tAsg, gName, tDrop, tAug, ipI, tIf, tCall, tCallS, tLst, tTup, tBM, tBM0, rAppend, rExtend, rPop, rReverse, tyV, rIxL, rIxT, rIxS, L2.start, List.map_cons, List.map_nil, List.length_cons, List.length_nil, List.replicate, List.cons_append, List.nil_append, List.append_nil, List.getElem?_cons_zero, List.getElem?_cons_succ, List.set_cons_zero, List.set_cons_succ, Nat.reduceAdd, Nat.reduceSub, Option.some.injEq, exists_eq_left', exists_eq_left, V.int.injEq, V.bl.injEq, V.str.injEq, V.ref.injEq, List.cons.injEq, and_true, true_and, and_assoc, reduceCtorEq, false_and, exists_false, or_false, false_or, exists_and_left, exists_const, scal, Int.reduceLT, Int.reduceLE, Int.reduceSub, Int.reduceAdd, Int.reduceNeg, if_true, if_false]
          refine ⟨_, .inl (fr.seq hY), ?_⟩
          have e : (if (((ys.map V.int).length : Nat) : Int) - 1 < (i : Int) then (((ys.map V.int).length : Nat) : Int) - 1 else (i : Int)) = ((min i (ys.length - 1) : Nat) : Int) := by
            rw [List.length_map]
            split <;> omega
          rw [e]
          refine ⟨by decide, by decide, by omega, by omega, ?_⟩
          rw [show (((min i (ys.length - 1) : Nat) : Int) + 1 - 1).toNat = min i (ys.length - 1) by omega]
          exact r
        · rintro k v σ H1 H2 hk ⟨v7, rfl, rfl⟩ ⟨rfl, hv⟩
          obtain rfl : v = .int (1 + (k : Nat)) := hv
          simp only [tSeq, tIfS, tOr, tAnd, tB, tTest, tCB, tCons, tVar, tC, tNil, tNot, tNotV, tRet, tRetN, tNext, tBreak, tOrV, tAndV, tOp, tUn, rEq, rNe, tChain, rI0, rI, rU, tAsg, gName, tDrop, tAug, ipI, tIf, tCall, tCallS, tLst, tTup, tBM, tBM0, rAppend, rExtend, rPop, rReverse, tyV, rIxL, rIxT, rIxS, L2.start, List.map_cons, List.map_nil, List.length_cons, List.length_nil, List.replicate, List.cons_append, List.nil_append, List.append_nil, List.getElem?_cons_zero, List.getElem?_cons_succ, List.set_cons_zero, List.set_cons_succ, Nat.reduceAdd, Nat.reduceSub, Option.some.injEq, exists_eq_left', exists_eq_left, V.int.injEq, V.bl.injEq, V.str.injEq, V.ref.injEq, List.cons.injEq, and_true, true_and, and_assoc, reduceCtorEq, false_and, exists_false, or_false, false_or, exists_and_left, exists_const, scal, Int.reduceLT, Int.reduceLE, Int.reduceSub, Int.reduceAdd, Int.reduceNeg, if_true, if_false]
          rw [show (1 + (k : Int)) = ((k + 1 : Nat) : Int) by omega, show ((i : Int) - ((k + 1 : Nat) : Int)) = ((i - (k + 1) : Nat) : Int) by omega]
          refine ⟨_, fr.seq hY, _, atI_getD (by omega), _, .inl (.inl upd_same), _, atI_getD (by rw [ser_length]; omega), _, rfl, _, rfl, cmul (bd_getD by_ _) (bd_getD (ser_bd bx by_ hl i) _) (by omega), ?_, _, rfl⟩
          rw [sb, Int.sub_sub]
      rintro σ H1 ⟨v7, rfl, rfl⟩
      simp only [tSeq, tIfS, tOr, tAnd, tB, tTest, tCB, tCons, tVar, tC, tNil, tNot, tNotV, tRet, tRetN, tNext, tBreak, tOrV, tAndV, tOp, tUn, rEq, rNe, tChain, rI0, rI, rU, tAsg, gName, tDrop, tAug, ipI, tIf, tCall, tCallS, tLst, tTup, tBM, tBM0, rAppend, rExtend, rPop, rReverse, tyV, rIxL, rIxT, rIxS, L2.start, List.map_cons, List.map_nil, List.length_cons, List.length_nil, List.replicate, List.cons_append, List.nil_append, List.append_nil, List.getElem?_cons_zero, List.getElem?_cons_succ, List.set_cons_zero, List.set_cons_succ, Nat.reduceAdd, Nat.reduceSub, Option.some.injEq, exists_eq_left', exists_eq_left, V.int.injEq, V.bl.injEq, V.str.injEq, V.ref.injEq, List.cons.injEq, and_true, true_and, and_assoc, reduceCtorEq, false_and, exists_false, or_false, false_or, exists_and_left, exists_const, scal, Int.reduceLT, Int.reduceLE, Int.reduceSub, Int.reduceAdd, Int.reduceNeg, if_true, if_false]
      refine ⟨.inl ⟨_, .inl (.inl upd_same)⟩, _, upd_same, ?_, ?_⟩
      · rw [List.length_map, ser_length]
        exact Nat.lt_of_lt_of_le hi (Nat.le_trans hn (by decide))
      · rw [upd_upd, ser, List.map_append]
        rfl
    rintro σ H1 ⟨v3, v6, v7, rfl, rfl⟩
    simp only [tSeq, tIfS, tOr, tAnd, tB, tTest, tCB, tCons, tVar, tC, tNil, tNot, tNotV, tRet, tRetN, tNext, tBreak, tOrV, tAndV, tOp, tUn, rEq, rNe, tChain, rI0, rI, rU, tAsg, gName, tDrop, tAug, ipI, tIf, tCall, tCallS, tLst, tTup, tBM, tBM0, rAppend, rExtend, rPop, rReverse, tyV, rIxL, rIxT, rIxS, L2.start, List.map_cons, List.map_nil, List.length_cons, List.length_nil, List.replicate, List.cons_append, List.nil_append, List.append_nil, List.getElem?_cons_zero, List.getElem?_cons_succ, List.set_cons_zero, List.set_cons_succ, Nat.reduceAdd, Nat.reduceSub, Option.some.injEq, exists_eq_left', exists_eq_left, V.int.injEq, V.bl.injEq, V.str.injEq, V.ref.injEq, List.cons.injEq, and_true, true_and, and_assoc, reduceCtorEq, false_and, exists_false, or_false, false_or, exists_and_left, exists_const, scal, Int.reduceLT, Int.reduceLE, Int.reduceSub, Int.reduceAdd, Int.reduceNeg, if_true, if_false]
    exact q p _ hp (FK.same_new hp) upd_same
def spExpand (K : PySem.W.Frag) (CS CN : Addr) : Sp := fun vs H Q E => ∃ (t a b : Addr) (xs ys : List Int) (n : Int), vs = [.ref t, .int n] ∧ SqT K H t [.ref a, .ref b] ∧ SqL K H a (xs.map V.int) ∧ SqL K H b (ys.map V.int) ∧ (okFrac xs ys = true → Bd 6 xs ∧ Bd 6 ys ∧ ys.length ≤ 8) ∧
  (okFrac xs ys = false → ∀ H', Same H H' → E (.ref CS) none H') ∧ (okFrac xs ys = true → ¬ (0 ≤ n ∧ n ≤ 200) → ∀ H', Same H H' → E (.ref CN) none H') ∧
  (∀ m : Nat, n = m → okFrac xs ys = true → n ≤ 200 → ∀ D H', H D = none → Same H H' → H' D = some (.lst ((ser xs ys (m + 1)).map V.int)) → Q (.ref D) H')
theorem ok_expand (T : Txt K mg cx) : FK.Has P w K mg base (L2.CX P w) 3 "expand" ["fraction", "n"] (spExpand K cx.NotSeries cx.BadNumber) := by
  have H_check_fraction := ok_check_fraction (P := P) (w := w) (base := base) T
  have H_terms := ok_terms (P := P) (w := w) (base := base) T
  refine T.d_expand.okX sc_expand (fun vs H Q E h => ?_) (fun f cdv A outer s H vs Q E hr h => ?_)
  · obtain ⟨t, a, b, xs, ys, n, rfl, _⟩ := h
    rfl
  · obtain ⟨t, a, b, xs, ys, n, rfl, hT, hX, hY, hsz, qS, qN, q⟩ := h
    refine ⟨_, (pss_cons (ps_expr (FK.pe_h (E := E) H_check_fraction (hr.mono (by decide)) (passes_call (takes_of rfl rfl rfl rfl) (fun _ _ _ _ h => h)) (pa_cons (pv 0) pa_nil)))
  (pss_cons (ps_if (pt_not (pt_chain op_le op_le pe_int (pv 1) (pe_glob (v := .int 200) rfl T.c_MOST_TERMS ⟨_, rfl⟩))) (pss_one (ps_raise rfl (takes_of rfl rfl rfl rfl) (SkE.pmk_own1 PySem.F.excBase_ValueError T.x_BadNumber.x T.x_BadNumber.g T.x_BadNumber.k (raises_own T.x_BadNumber.b T.x_BadNumber.t) rfl (pe_joined (PJ.cons pe_str (PJ.cons (pe_fmt (pe_glob (v := .int 200) rfl T.c_MOST_TERMS ⟨_, rfl⟩)) PJ.nil)))))) pss_nil)
  (pss_one (ps_ret (FK.pe_h (E := E0) H_terms (hr.mono (by decide)) pass0 (pa_cons (pv 0) (pa_cons (pe_op op_add (pv 1) pe_int) pa_nil))))))), ?_⟩
    simp only [tSeq, tIfS, tOr, tAnd, tB, tTest, tCB, tCons, tVar, tC, tNil, tNot, tNotV, tRet, tRetN, tNext, tBreak, tOrV, tAndV, tOp, tUn, rEq, rNe, tChain, rI0, rI, rU, tAsg, gName, tDrop, tAug, ipI, tIf, tCall, tCallS, tLst, tTup, tBM, tBM0, rAppend, rExtend, rPop, rReverse, tyV, rIxL, rIxT, rIxS, L2.start, List.map_cons, List.map_nil, List.length_cons, List.length_nil, List.replicate, List.cons_append, List.nil_append, List.append_nil, List.getElem?_cons_zero, List.getElem?_cons_succ, List.set_cons_zero, List.set_cons_succ, Nat.reduceAdd, Nat.reduceSub, Option.some.injEq, exists_eq_left', exists_eq_left, V.int.injEq, V.bl.injEq, V.str.injEq, V.ref.injEq, List.cons.injEq, and_true, true_and, and_assoc, reduceCtorEq, false_and, exists_false, or_false, false_or, exists_and_left, exists_const, scal, Int.reduceLT, Int.reduceLE, Int.reduceSub, Int.reduceAdd, Int.reduceNeg, if_true, if_false]
    refine ⟨t, a, b, xs, ys, rfl, hT, hX, hY, qS, fun ok H1 s1 => ?_⟩
    obtain ⟨bx, by_, hl⟩ := hsz ok
    have bad : ¬ (0 ≤ n ∧ n ≤ 200) → tJs [tC (V.str "a series is expanded up to a number from 0 to "), tFmt (tC (V.int 200))] Str.empty [some (V.ref t), some (V.int n)] H1 fun out H1 => E (Value.ref cx.BadNumber) none H1 := fun c => by
      simp only [tJs, tFmt, tC]
      exact ⟨_, rfl, by decide +kernel, .inr ⟨200, rfl, by decide +kernel, _, rfl, by decide +kernel, qN ok c H1 s1⟩⟩
    by_cases c0 : 0 ≤ n
    · rw [decide_eq_true c0]
      refine iteT ?_
      by_cases c1 : n ≤ 200
      · rw [decide_eq_true c1]
        refine iteF ⟨t, a, b, xs, ys, (n + 1).toNat, by rw [Int.toNat_of_nonneg (by omega)], FK.Same.tupS s1 hT, s1.seq hX, s1.seq hY, ?_, by omega, bx, by_, hl, fun D H' hD hs hL => ?_⟩
        · rintro rfl
          unfold okFrac at ok
          simp at ok
        · have e : (n + 1).toNat = n.toNat + 1 := by omega
          rw [e] at hL
          exact q n.toNat (Int.toNat_of_nonneg c0).symm ok c1 D H' (back s1 hD) (s1.trans hs) hL
      · rw [decide_eq_false c1]
        exact iteT (bad fun z => c1 z.2)
    · rw [decide_eq_false c0]
      exact iteF (iteT (bad fun z => c0 z.1))
def spReduced (K : PySem.W.Frag) (CS : Addr) : Sp := fun vs H Q E => ∃ (t a b : Addr) (xs ys : List Int), vs = [.ref t] ∧ SqT K H t [.ref a, .ref b] ∧ SqL K H a (xs.map V.int) ∧ SqL K H b (ys.map V.int) ∧ (okFrac xs ys = true → CInv xs ys) ∧
  (okFrac xs ys = false → ∀ H', Same H H' → E (.ref CS) none H') ∧ (okFrac xs ys = true → ∀ H', Same H H' → Q (.bl (decide ((comF 200 xs ys).length = 1))) H')
theorem ok_is_reduced (T : Txt K mg cx) : FK.Has P w K mg base (L2.CX P w) 4 "is_reduced" ["fraction"] (spReduced K cx.NotSeries) := by
  have H_check_fraction := ok_check_fraction (P := P) (w := w) (base := base) T
  have H_common_divisor := ok_common (P := P) (w := w) (base := base) T
  refine T.d_is_reduced.okX sc_is_reduced (fun vs H Q E h => ?_) (fun f cdv A outer s H vs Q E hr h => ?_)
  · obtain ⟨t, a, b, xs, ys, rfl, _⟩ := h
    rfl
  · obtain ⟨t, a, b, xs, ys, rfl, hT, hX, hY, hsz, qS, q⟩ := h
    refine ⟨_, (pss_cons (ps_expr (FK.pe_h (E := E) H_check_fraction (hr.mono (by decide)) (passes_call (takes_of rfl rfl rfl rfl) (fun _ _ _ _ h => h)) (pa_cons (pv 0) pa_nil)))
  (pss_cons (ps_asg (pv 0) (pg_tup rfl (pgs_cons (pg_name (i := 1) sc_is_reduced.nd rfl (Or.inl rfl)) (pgs_cons (pg_name (i := 2) sc_is_reduced.nd rfl (Or.inl rfl)) pgs_nil))))
  (pss_one (ps_ret (pe_cmpR op_eq (pe_callB call_len_seq (by rfl) T.n_len PySem.boot_len (pa_cons (FK.pe_h (E := E0) H_common_divisor (hr.mono (by decide)) pass0 (pa_cons (pv 1) (pa_cons (pv 2) pa_nil))) pa_nil)) pe_int (nomark _)))))), ?_⟩
    simp only [tSeq, tIfS, tOr, tAnd, tB, tTest, tCB, tCons, tVar, tC, tNil, tNot, tNotV, tRet, tRetN, tNext, tBreak, tOrV, tAndV, tOp, tUn, rEq, rNe, tChain, rI0, rI, rU, tAsg, gName, tDrop, tAug, ipI, tIf, tCall, tCallS, tLst, tTup, tBM, tBM0, rAppend, rExtend, rPop, rReverse, tyV, rIxL, rIxT, rIxS, L2.start, List.map_cons, List.map_nil, List.length_cons, List.length_nil, List.replicate, List.cons_append, List.nil_append, List.append_nil, List.getElem?_cons_zero, List.getElem?_cons_succ, List.set_cons_zero, List.set_cons_succ, Nat.reduceAdd, Nat.reduceSub, Option.some.injEq, exists_eq_left', exists_eq_left, V.int.injEq, V.bl.injEq, V.str.injEq, V.ref.injEq, List.cons.injEq, and_true, true_and, and_assoc, reduceCtorEq, false_and, exists_false, or_false, false_or, exists_and_left, exists_const, scal, Int.reduceLT, Int.reduceLE, Int.reduceSub, Int.reduceAdd, Int.reduceNeg, if_true, if_false]
    refine ⟨t, a, b, xs, ys, rfl, hT, hX, hY, qS, fun ok H1 s1 => ?_⟩
    have ci := hsz ok
    refine pair_gt (FK.Same.tupS s1 hT) ?_
    simp only [tSeq, tIfS, tOr, tAnd, tB, tTest, tCB, tCons, tVar, tC, tNil, tNot, tNotV, tRet, tRetN, tNext, tBreak, tOrV, tAndV, tOp, tUn, rEq, rNe, tChain, rI0, rI, rU, tAsg, gName, tDrop, tAug, ipI, tIf, tCall, tCallS, tLst, tTup, tBM, tBM0, rAppend, rExtend, rPop, rReverse, tyV, rIxL, rIxT, rIxS, L2.start, List.map_cons, List.map_nil, List.length_cons, List.length_nil, List.replicate, List.cons_append, List.nil_append, List.append_nil, List.getElem?_cons_zero, List.getElem?_cons_succ, List.set_cons_zero, List.set_cons_succ, Nat.reduceAdd, Nat.reduceSub, Option.some.injEq, exists_eq_left', exists_eq_left, V.int.injEq, V.bl.injEq, V.str.injEq, V.ref.injEq, List.cons.injEq, and_true, true_and, and_assoc, reduceCtorEq, false_and, exists_false, or_false, false_or, exists_and_left, exists_const, scal, Int.reduceLT, Int.reduceLE, Int.reduceSub, Int.reduceAdd, Int.reduceNeg, if_true, if_false]
    have pp := ok
    unfold okFrac at pp
    rw [Bool.and_eq_true, Bool.and_eq_true] at pp
    refine ⟨a, b, xs, ys, rfl, s1.seq hX, s1.seq hY, polB_pol pp.1, polB_pol pp.2.1, ci, fun D H' hD hs hL => ?_⟩
    refine ⟨D, rfl, _, .inl (.inl (.inl hL)), ?_⟩
    rw [List.length_map, prim_length]
    have q2 := q ok H' (s1.trans hs)
    by_cases c : (comF 200 xs ys).length = 1
    · rw [decide_eq_true c] at q2
      rw [decide_eq_true (by omega)]
      exact q2
    · rw [decide_eq_false c] at q2
      rw [decide_eq_false (by omega)]
      exact q2

end
end K13

namespace K13
open PySem PySem.Spec PyProof.Rows L2
section
variable {P : Program} {w : World} {K : PySem.W.Frag} {mg : Str → Option Value} {base : Heap} {cx : Xs}
open P13
def spProd (K : PySem.W.Frag) : Sp := fun vs H Q _ => ∃ (a b : Addr) (xs ys : List Int) (p q : Nat), vs = [.ref a, .ref b] ∧ SqL K H a (xs.map V.int) ∧ SqL K H b (ys.map V.int) ∧ xs.length ≤ 1000 ∧ ys.length ≤ 1000 ∧ Bd p xs ∧ Bd q ys ∧ p + q < 999998 ∧
  ∀ D H', H D = none → Same H H' → H' D = some (.lst ((prod xs ys).map V.int)) → Q (.ref D) H'
theorem ok_law_product (T : Txt K mg cx) : FK.Has P w K mg base CX0 1 "_law_product" ["one", "other"] (spProd K) := by
  refine T.d_law_product.ok sc_law_product (fun vs H Q E h => ?_) (fun f cdv A outer s H vs Q E hr h => ?_)
  · obtain ⟨a, b, xs, ys, p, q, rfl, _⟩ := h
    rfl
  · obtain ⟨a, b, xs, ys, p, q, rfl, hX, hY, hlx, hly, bx, by_, hpq, fin⟩ := h
    refine ⟨_, (pss_cons (ps_if (PW.pt (pw_or (pt_not (pt_truth (pv 0) (by intro _; rfl))) (pw_or1 (pt_not (pt_truth (pv 1) (by intro _; rfl)))))) (pss_one (ps_ret (pe_lst pa_nil))) pss_nil)
  (pss_cons (ps_set (i := 2) sc_law_product.nd rfl (Or.inl rfl) (by exact (pe_op op_rep (pe_lst (pa_cons pe_int pa_nil)) (pe_op op_sub (pe_op op_add (pe_callB call_len_seq (by rfl) T.n_len PySem.boot_len (pa_cons (pv 0) pa_nil)) (pe_callB call_len_seq (by rfl) T.n_len PySem.boot_len (pa_cons (pv 1) pa_nil))) pe_int))))
  (pss_cons (ps_for PassesOwn.never rfl (pi_range1 rfl T.n_range (pa_cons (pe_callB call_len_seq (by rfl) T.n_len PySem.boot_len (pa_cons (pv 0) pa_nil)) pa_nil)) (pg_name (i := 3) sc_law_product.nd rfl (Or.inl rfl))
  (pss_one (ps_for PassesOwn.never rfl (pi_range1 rfl T.n_range (pa_cons (pe_callB call_len_seq (by rfl) T.n_len PySem.boot_len (pa_cons (pv 1) pa_nil)) pa_nil)) (pg_name (i := 4) sc_law_product.nd rfl (Or.inl rfl))
  (pss_one (ps_asg (pe_op op_add (pe_ix (r := rIxL K) ix_list (pv 2) (pe_op op_add (pv 3) (pv 4)) (fun _ _ => rfl)) (pe_op op_mulW (pe_ix (r := rIxL K) ix_list (pv 0) (pv 3) (fun _ _ => rfl)) (pe_ix (r := rIxL K) ix_list (pv 1) (pv 4) (fun _ _ => rfl)))) (pg_sub (pv 2) (pe_op op_add (pv 3) (pv 4)) set_list))))))
  (pss_one (ps_ret (pv 2)))))), ?_⟩
    simp only [tSeq, tIfS, tOr, tAnd, tB, tTest, tCB, tCons, tVar, tC, tNil, tNot, tNotV, tRet, tRetN, tNext, tBreak, tOrV, tAndV, tOp, tUn, rEq, rNe, tChain, rI0, rI, rU, tAsg, gName, tDrop, tAug, ipI, tIf, tCall, tCallS, tLst, tTup, tBM, tBM0, rAppend, rExtend, rPop, rReverse, tyV, rIxL, rIxT, rIxS, L2.start, List.map_cons, List.map_nil, List.length_cons, List.length_nil, List.replicate, List.cons_append, List.nil_append, List.append_nil, List.getElem?_cons_zero, List.getElem?_cons_succ, List.set_cons_zero, List.set_cons_succ, Nat.reduceAdd, Nat.reduceSub, Option.some.injEq, exists_eq_left', exists_eq_left, V.int.injEq, V.bl.injEq, V.str.injEq, V.ref.injEq, List.cons.injEq, and_true, true_and, and_assoc, reduceCtorEq, false_and, exists_false, or_false, false_or, exists_and_left, exists_const, scal, Int.reduceLT, Int.reduceLE, Int.reduceSub, Int.reduceAdd, Int.reduceNeg, if_true, if_false]
    have tl : ∀ {zs : List Int} {c : Addr}, SqL K H c (zs.map V.int) → TruV K (.ref c) H (!zs.isEmpty) := fun {zs c} h => .inl ⟨_, h, by cases zs <;> rfl⟩
    have nil : prod xs ys = [] → 0 ≤ sizeLine ∧ ∀ (p : Addr), H p = none → Q (V.ref p) (upd H p (HO.lst [])) := fun e => by
      rw [e] at fin
      exact ⟨Nat.zero_le _, fun p hp => fin p _ hp (FK.same_new hp) upd_same⟩
    refine ⟨_, tl hX, ?_⟩
    by_cases hxn : xs = []
    · subst hxn
      exact iteT (nil rfl)
    have exn : xs.isEmpty = false := by cases xs with
      | nil => exact absurd rfl hxn
      | cons _ _ => rfl
    rw [exn]
    refine iteF ⟨_, tl hY, ?_⟩
    by_cases hyn : ys = []
    · subst hyn
      exact iteT (nil (if_pos (.inr rfl)))
    have eyn : ys.isEmpty = false := by cases ys with
      | nil => exact absurd rfl hyn
      | cons _ _ => rfl
    rw [eyn]
    refine iteF ⟨by decide, fun p1 hp1 => ⟨_, .inl ((FK.same_new hp1).seq hX), _, .inl ((FK.same_new hp1).seq hY), p1, _, [.int 0], rfl, rfl, upd_same, ?_, ?_, ?_, fun D hD => ?_⟩⟩
    · rw [List.length_map, List.length_map]; omega
    · rw [List.length_map, List.length_map]; omega
    · rw [List.length_map, List.length_map, List.length_singleton, Nat.one_mul]
      exact Nat.le_trans (show _ ≤ 2000 by omega) (by decide)
    rw [List.length_map, List.length_map, show ((xs.length : Int) + ys.length - 1).toNat = xs.length + ys.length - 1 by omega]
    have e0 : (List.replicate (xs.length + ys.length - 1) [V.int 0]).flatten = (pp xs ys 0 0).map V.int := by
      rw [pp_zero, List.map_replicate, List.flatten_replicate_singleton]
    rw [e0]
    have fr : ∀ {o : HO}, Same H (upd (upd H p1 (.lst [.int 0])) D o) := fun {o} => (FK.same_new hp1).trans (FK.same_new hD)
    have hD0 : H D = none := back (FK.same_new hp1) hD
    have lenX : ∀ {o : HO} {R : It → Hp → Prop} {v : Option V} {x3 x4 : Option V}, R (Itr 0 xs.length) (upd (upd H p1 (.lst [.int 0])) D o) → ∃ p, V.ref a = V.ref p ∧ ∃ x, (SqL K (upd (upd H p1 (.lst [.int 0])) D o) p x ∨ SqT K (upd (upd H p1 (.lst [.int 0])) D o) p x) ∧ ∃ j : Int, [V.int (x.length : Nat)] = [V.int j] ∧ -(2 ^ 62) ≤ j ∧ j < 2 ^ 62 ∧ R (Itr 0 j.toNat) (upd (upd H p1 (.lst [.int 0])) D o) := fun {o R v x3 x4} r =>
      ⟨a, rfl, _, .inl (fr.seq hX), _, rfl, by rw [List.length_map]; omega, by rw [List.length_map]; omega, by rw [List.length_map, Int.toNat_natCast]; exact r⟩
    refine FK.rd_for (J := Itr 0 xs.length) (H1 := upd (upd H p1 (.lst [.int 0])) D (.lst ((pp xs ys 0 0).map V.int))) (fun R r => ⟨_, rfl, a, rfl, _, .inl (fr.seq hX), _, rfl, by rw [List.length_map]; omega, by rw [List.length_map]; omega, by rw [List.length_map, Int.toNat_natCast]; exact r⟩) walk_nat
      (fun i σ H' => ∃ v3 v4 : Option V, σ = [some (.ref a), some (.ref b), some (.ref D), v3, v4] ∧ H' = upd (upd H p1 (.lst [.int 0])) D (.lst ((pp xs ys i 0).map V.int))) ⟨_, _, rfl, rfl⟩ (fun _ _ _ _ _ => trivial) ?_ ?_
    · rintro i v σ H1 H2 hi ⟨v3, v4, rfl, rfl⟩ ⟨rfl, hv⟩
      obtain rfl : v = .int (i : Nat) := hv
      refine FK.rd_for (J := Itr 0 ys.length) (H1 := upd (upd H p1 (.lst [.int 0])) D (.lst ((pp xs ys i 0).map V.int))) (fun R r => ⟨_, rfl, b, rfl, _, .inl (fr.seq hY), _, rfl, by rw [List.length_map]; omega, by rw [List.length_map]; omega, by rw [List.length_map, Int.toNat_natCast]; exact r⟩) walk_nat
        (fun j σ H' => ∃ v4 : Option V, σ = [some (.ref a), some (.ref b), some (.ref D), some (.int (i : Nat)), v4] ∧ H' = upd (upd H p1 (.lst [.int 0])) D (.lst ((pp xs ys i j).map V.int))) ⟨_, rfl, rfl⟩ (fun _ _ _ _ _ => trivial) ?_ ?_
      · rintro j v σ H1 H2 hj ⟨v4, rfl, rfl⟩ ⟨rfl, hv⟩
        obtain rfl : v = .int (j : Nat) := hv
        obtain ⟨z, hz1, hz2⟩ := pp_item hi hj
        simp only [tSeq, tIfS, tOr, tAnd, tB, tTest, tCB, tCons, tVar, tC, tNil, tNot, tNotV, tRet, tRetN, tNext, tBreak, tOrV, tAndV, tOp, tUn, rEq, rNe, tChain, rI0, rI, rU, tAsg, gName, tDrop, tAug, ipI, tIf, tCall, tCallS, tLst, tTup, tBM, tBM0, rAppend, rExtend, rPop, rReverse, tyV, rIxL, rIxT, rIxS, L2.start, List.map_cons, List.map_nil, List.length_cons, List.length_nil, List.replicate, List.cons_append, List.nil_append, List.append_nil, List.getElem?_cons_zero, List.getElem?_cons_succ, List.set_cons_zero, List.set_cons_succ, Nat.reduceAdd, Nat.reduceSub, Option.some.injEq, exists_eq_left', exists_eq_left, V.int.injEq, V.bl.injEq, V.str.injEq, V.ref.injEq, List.cons.injEq, and_true, true_and, and_assoc, reduceCtorEq, false_and, exists_false, or_false, false_or, exists_and_left, exists_const, scal, Int.reduceLT, Int.reduceLE, Int.reduceSub, Int.reduceAdd, Int.reduceNeg, if_true, if_false, gSub, rSetL]
        rw [show ((i : Int) + (j : Int)) = ((i + j : Nat) : Int) by omega]
        have hlen : i + j < ((pp xs ys i j).map V.int).length := by rw [List.length_map, pp_length]; omega
        refine ⟨_, .inl (.inl upd_same), .int z, atI_nat (by rw [List.getElem?_map, hz1]; rfl), _, fr.seq hX, _, atI_getD hi, _, fr.seq hY, _, atI_getD hj, _, rfl, _, rfl, cmul (bd_getD bx _) (bd_getD by_ _) hpq, z, rfl, _, upd_same, _, ixN_nat hlen, ?_⟩
        rw [upd_upd, ← List.map_set (f := V.int), hz2]
      · rintro σ H1 ⟨v4, rfl, rfl⟩
        exact ⟨_, _, rfl, by rw [pp_turn]⟩
    · rintro σ H1 ⟨v3, v4, rfl, rfl⟩
      simp only [tSeq, tIfS, tOr, tAnd, tB, tTest, tCB, tCons, tVar, tC, tNil, tNot, tNotV, tRet, tRetN, tNext, tBreak, tOrV, tAndV, tOp, tUn, rEq, rNe, tChain, rI0, rI, rU, tAsg, gName, tDrop, tAug, ipI, tIf, tCall, tCallS, tLst, tTup, tBM, tBM0, rAppend, rExtend, rPop, rReverse, tyV, rIxL, rIxT, rIxS, L2.start, List.map_cons, List.map_nil, List.length_cons, List.length_nil, List.replicate, List.cons_append, List.nil_append, List.append_nil, List.getElem?_cons_zero, List.getElem?_cons_succ, List.set_cons_zero, List.set_cons_succ, Nat.reduceAdd, Nat.reduceSub, Option.some.injEq, exists_eq_left', exists_eq_left, V.int.injEq, V.bl.injEq, V.str.injEq, V.ref.injEq, List.cons.injEq, and_true, true_and, and_assoc, reduceCtorEq, false_and, exists_false, or_false, false_or, exists_and_left, exists_const, scal, Int.reduceLT, Int.reduceLE, Int.reduceSub, Int.reduceAdd, Int.reduceNeg, if_true, if_false]
      refine fin D _ hD0 fr ?_
      rw [upd_same]
      unfold prod
      rw [if_neg (fun z => z.elim hxn hyn)]
def TrSt (a : Addr) (H : Hp) (xs : List Int) (i : Nat) (σ : L2.St) (H' : Hp) : Prop := ∃ (m : Nat) (v2 : Option V), m + i = xs.length ∧ σ = [some (.ref a), some (.int m), v2] ∧ H' = H ∧ trim (xs.take m) = trim xs
def PrSt (a : Addr) (H : Hp) (g : Nat) (σ : L2.St) (H' : Hp) : Prop := ∃ v2 v3 v4 : Option V, σ = [some (.ref a), some (.int g), v2, v3, v4] ∧ Same H H'
def EuSt (a : Addr) (H : Hp) (v2 : Option V) (e : Nat × Nat) (i : Nat) (σ : L2.St) (H' : Hp) : Prop := ∃ (d n : Nat) (v4 : Option V), σ = [some (.ref a), some (.int d), v2, some (.int n), v4] ∧ Same H H' ∧ euc (4000 - i) d n = e
theorem prst {a : Addr} {H H' : Hp} {d g : Nat} {v2 v3 v4 : Option V} (h : d = g) (s : Same H H') : PrSt a H g [some (.ref a), some (.int d), v2, v3, v4] H' := by
  subst h
  exact ⟨_, _, _, rfl, s⟩
theorem ok_law_trimmed (T : Txt K mg cx) : FK.Has P w K mg base CX0 1 "_law_trimmed" ["numbers"] (spTrimmed K) := by
  refine T.d_law_trimmed.ok sc_law_trimmed (fun vs H Q E h => ?_) (fun f cdv A outer s H vs Q E hr h => ?_)
  · obtain ⟨a, ns, rfl, _⟩ := h
    rfl
  · obtain ⟨a, xs, rfl, hS, hl, q⟩ := h
    refine ⟨_, (pss_cons (ps_set (i := 1) sc_law_trimmed.nd rfl (Or.inl rfl) (by exact (pe_callB call_len_seq (by rfl) T.n_len PySem.boot_len (pa_cons (pv 0) pa_nil))))
  (pss_cons (ps_for PassesOwn.never rfl (pi_range1 rfl T.n_range (pa_cons (pe_callB call_len_seq (by rfl) T.n_len PySem.boot_len (pa_cons (pv 0) pa_nil)) pa_nil)) (pg_name (i := 2) sc_law_trimmed.nd rfl (Or.inl rfl))
  (pss_cons (ps_if (pt_cmpR op_ne (pe_ix (r := rIxL K) ix_list (pv 0) (pe_op op_sub (pv 1) pe_int) (fun _ _ => rfl)) pe_int (nomark _)) (pss_one ps_break) pss_nil)
  (pss_one (ps_set (i := 1) sc_law_trimmed.nd rfl (Or.inl rfl) (by exact (pe_op op_sub (pv 1) pe_int))))))
  (pss_one (ps_ret (pe_slice sl_list (pv 0) po_none (po_some (pv 1))))))), ?_⟩
    simp only [tSeq, tIfS, tOr, tAnd, tB, tTest, tCB, tCons, tVar, tC, tNil, tNot, tNotV, tRet, tRetN, tNext, tBreak, tOrV, tAndV, tOp, tUn, rEq, rNe, tChain, rI0, rI, rU, tAsg, gName, tDrop, tAug, ipI, tIf, tCall, tCallS, tLst, tTup, tBM, tBM0, rAppend, rExtend, rPop, rReverse, tyV, rIxL, rIxT, rIxS, L2.start, List.map_cons, List.map_nil, List.length_cons, List.length_nil, List.replicate, List.cons_append, List.nil_append, List.append_nil, List.getElem?_cons_zero, List.getElem?_cons_succ, List.set_cons_zero, List.set_cons_succ, Nat.reduceAdd, Nat.reduceSub, Option.some.injEq, exists_eq_left', exists_eq_left, V.int.injEq, V.bl.injEq, V.str.injEq, V.ref.injEq, List.cons.injEq, and_true, true_and, and_assoc, reduceCtorEq, false_and, exists_false, or_false, false_or, exists_and_left, exists_const, scal, Int.reduceLT, Int.reduceLE, Int.reduceSub, Int.reduceAdd, Int.reduceNeg, if_true, if_false]
    have fin : ∀ {σ2 : Option V} {k : Nat}, k ≤ xs.length → xs.take k = trim xs → tRet (tSl (rSlL K) (tVar 0) tNoPart (tPart (tVar 1))) { nx := fun x H' => Q V.non H', rt := Q } [some (.ref a), some (.int k), σ2] H := fun {σ2 k} hk e2 => by
      simp only [tSeq, tIfS, tOr, tAnd, tB, tTest, tCB, tCons, tVar, tC, tNil, tNot, tNotV, tRet, tRetN, tNext, tBreak, tOrV, tAndV, tOp, tUn, rEq, rNe, tChain, rI0, rI, rU, tAsg, gName, tDrop, tAug, ipI, tIf, tCall, tCallS, tLst, tTup, tBM, tBM0, rAppend, rExtend, rPop, rReverse, tyV, rIxL, rIxT, rIxS, L2.start, List.map_cons, List.map_nil, List.length_cons, List.length_nil, List.replicate, List.cons_append, List.nil_append, List.append_nil, List.getElem?_cons_zero, List.getElem?_cons_succ, List.set_cons_zero, List.set_cons_succ, Nat.reduceAdd, Nat.reduceSub, Option.some.injEq, exists_eq_left', exists_eq_left, V.int.injEq, V.bl.injEq, V.str.injEq, V.ref.injEq, List.cons.injEq, and_true, true_and, and_assoc, reduceCtorEq, false_and, exists_false, or_false, false_or, exists_and_left, exists_const, scal, Int.reduceLT, Int.reduceLE, Int.reduceSub, Int.reduceAdd, Int.reduceNeg, if_true, if_false, tSl, tNoPart, tPart, rSlL]
      refine ⟨_, hS, fun p hp => ?_⟩
      rw [cut_to (by rw [List.length_map]; exact hk), ← List.map_take, e2]
      exact q p hp
    refine ⟨_, .inl hS, ?_⟩
    refine FK.rd_for (J := Itr 0 xs.length) (H1 := H) (fun R r => ⟨_, rfl, a, rfl, _, .inl hS, _, rfl, by rw [List.length_map]; omega, by rw [List.length_map]; omega, by rw [List.length_map, Int.toNat_natCast]; exact r⟩) walk_nat
      (TrSt a H xs) ⟨xs.length, _, rfl, by rw [List.length_map], rfl, by rw [List.take_length]⟩ (fun _ _ _ _ _ => trivial) ?_ ?_
    · rintro i v σ H1 H2 hi ⟨m, v2, hm, rfl, rfl, e⟩ ⟨rfl, hv⟩
      obtain rfl : v = .int (i : Nat) := hv
      obtain ⟨k, rfl⟩ : ∃ k, m = k + 1 := ⟨m - 1, by omega⟩
      have hk2 : k < xs.length := by omega
      have hg : xs[k]? = some xs[k] := List.getElem?_eq_getElem hk2
      simp only [tSeq, tIfS, tOr, tAnd, tB, tTest, tCB, tCons, tVar, tC, tNil, tNot, tNotV, tRet, tRetN, tNext, tBreak, tOrV, tAndV, tOp, tUn, rEq, rNe, tChain, rI0, rI, rU, tAsg, gName, tDrop, tAug, ipI, tIf, tCall, tCallS, tLst, tTup, tBM, tBM0, rAppend, rExtend, rPop, rReverse, tyV, rIxL, rIxT, rIxS, L2.start, List.map_cons, List.map_nil, List.length_cons, List.length_nil, List.replicate, List.cons_append, List.nil_append, List.append_nil, List.getElem?_cons_zero, List.getElem?_cons_succ, List.set_cons_zero, List.set_cons_succ, Nat.reduceAdd, Nat.reduceSub, Option.some.injEq, exists_eq_left', exists_eq_left, V.int.injEq, V.bl.injEq, V.str.injEq, V.ref.injEq, List.cons.injEq, and_true, true_and, and_assoc, reduceCtorEq, false_and, exists_false, or_false, false_or, exists_and_left, exists_const, scal, Int.reduceLT, Int.reduceLE, Int.reduceSub, Int.reduceAdd, Int.reduceNeg, if_true, if_false]
      rw [show ((k + 1 : Nat) : Int) - 1 = (k : Int) by omega]
      refine ⟨_, hS, .int xs[k], atI_nat (by rw [List.getElem?_map, hg]; rfl), rfl, ?_⟩
      by_cases z : xs[k] = 0
      · rw [z, decide_eq_true rfl]
        exact iteF ⟨k, _, by omega, rfl, rfl, take_trim hk2 (by rw [hg, z]) e⟩
      · rw [decide_eq_false (fun y => z (V.int.inj y))]
        exact iteT (fin (by omega) (take_stop hg z e))
    · rintro σ H1 ⟨m, v2, hm, rfl, rfl, e⟩
      obtain rfl : m = 0 := by omega
      exact fin (Nat.zero_le _) (by rw [← e]; rfl)
def spLPrim (K : PySem.W.Frag) : Sp := fun vs H Q _ => ∃ (a : Addr) (xs : List Int), vs = [.ref a] ∧ SqL K H a (xs.map V.int) ∧ xs.length ≤ 1000 ∧ Pol xs ∧ (Bd 1950 xs ∨ xs.length ≤ 1 ∧ Bd 8000 xs) ∧ ∀ p H', H p = none → Same H H' → H' p = some (.lst ((prim xs).map V.int)) → Q (.ref p) H'
theorem ok_law_primitive (T : Txt K mg cx) : FK.Has P w K mg base CX0 1 "_law_primitive" ["numbers"] (spLPrim K) := by
  refine T.d_law_primitive.ok sc_law_primitive (fun vs H Q E h => ?_) (fun f cdv A outer s H vs Q E hr h => ?_)
  · obtain ⟨a, ns, rfl, _⟩ := h
    rfl
  · obtain ⟨a, xs, rfl, hS, hl, hp, hb, q⟩ := h
    refine ⟨_, (pss_cons (ps_set (i := 1) sc_law_primitive.nd rfl (Or.inr rfl) (by exact pe_int))
  (pss_cons (ps_for PassesOwn.never rfl (pi_list (pv 0)) (pg_name (i := 2) sc_law_primitive.nd rfl (Or.inl rfl))
  (pss_cons (ps_set (i := 3) sc_law_primitive.nd rfl (Or.inl rfl) (by exact (pe_callB call_abs (by rfl) T.n_abs (by decide +kernel) (pa_cons (pv 2) pa_nil))))
  (pss_one (ps_for PassesOwn.never rfl (pi_range1 rfl T.n_range (pa_cons pe_int pa_nil)) (pg_name (i := 4) sc_law_primitive.nd rfl (Or.inl rfl))
  (pss_cons (ps_if (pt_cmpR op_eq (pv 3) pe_int (nomark _)) (pss_one ps_break) pss_nil)
  (pss_one (ps_asg (pe_tup (pa_cons (pv 3) (pa_cons (pe_op op_mod (pe_callTy FK.call_intI (by rfl) T.n_int (by decide +kernel) (pa_cons (pv 1) pa_nil)) (pv 3)) pa_nil))) (pg_tup rfl (pgs_cons (pg_name (i := 1) sc_law_primitive.nd rfl (Or.inr rfl)) (pgs_cons (pg_name (i := 3) sc_law_primitive.nd rfl (Or.inl rfl)) pgs_nil))))))))))
  (pss_cons (ps_if (pt_cmpR op_eq (pv 1) pe_int (nomark _)) (pss_one (ps_ret (pe_lst pa_nil))) pss_nil)
  (pss_one (ps_ret (pe_lc (own := [("number", 2)]) (g := gName 2) (tt := tYes) rfl sc_law_primitive.nd (pi_list (pv 0)) (blkOk_by (own := [("number", 2)]) (N := ["numbers", "divisor", "number", "one", "k"]) (sc := defScope s_law_primitive) (by decide +kernel)) (fun _ _ _ _ _ => (pg_name (i := 2) sc_law_primitive.nd rfl (Or.inl rfl))) (fun _ _ _ _ _ => pts_nil) (fun _ _ _ _ _ => (pe_op op_fdivW (pv 2) (pv 1))))))))), ?_⟩
    simp only [tSeq, tIfS, tOr, tAnd, tB, tTest, tCB, tCons, tVar, tC, tNil, tNot, tNotV, tRet, tRetN, tNext, tBreak, tOrV, tAndV, tOp, tUn, rEq, rNe, tChain, rI0, rI, rU, tAsg, gName, tDrop, tAug, ipI, tIf, tCall, tCallS, tLst, tTup, tBM, tBM0, rAppend, rExtend, rPop, rReverse, tyV, rIxL, rIxT, rIxS, L2.start, List.map_cons, List.map_nil, List.length_cons, List.length_nil, List.replicate, List.cons_append, List.nil_append, List.append_nil, List.getElem?_cons_zero, List.getElem?_cons_succ, List.set_cons_zero, List.set_cons_succ, Nat.reduceAdd, Nat.reduceSub, Option.some.injEq, exists_eq_left', exists_eq_left, V.int.injEq, V.bl.injEq, V.str.injEq, V.ref.injEq, List.cons.injEq, and_true, true_and, and_assoc, reduceCtorEq, false_and, exists_false, or_false, false_or, exists_and_left, exists_const, scal, Int.reduceLT, Int.reduceLE, Int.reduceSub, Int.reduceAdd, Int.reduceNeg, if_true, if_false]
    refine FK.rd_for (J := Itl K a) (H1 := H) (fun R r => ⟨_, rfl, a, rfl, ⟨_, hS⟩, r⟩) (walk_list (xs := xs.map V.int))
      (fun i => PrSt a H (gcdl (xs.take i))) ⟨none, none, none, rfl, .refl _⟩ (fun i σ H' _ ⟨_, _, _, _, e⟩ => e.seq hS) ?_ ?_
    · rintro i v σ H' H'' hi ⟨v2, v3, v4, rfl, sm⟩ ⟨rfl, hv⟩
      rw [List.getElem?_map] at hv
      cases en : xs[i]? with
      | none => rw [en] at hv; cases hv
      | some n =>
        rw [en] at hv
        cases hv
        have hmem := List.mem_of_getElem? en
        have done : (euc 4000 (gcdl (xs.take i)) n.natAbs).2 = 0 := by
          rcases hb with hb | ⟨h1, _⟩
          · exact euc_done 1950 4000 _ _ (hb n hmem) (by decide)
          · have : i = 0 := by rw [List.length_map] at hi; omega
            subst this
            exact euc_zero (by decide)
        have gg := euc_gcd 4000 (gcdl (xs.take i)) n.natAbs
        rw [done, Nat.gcd_zero_right] at gg
        have ge : gcdl (xs.take (i + 1)) = Nat.gcd (gcdl (xs.take i)) n.natAbs := by
          rw [List.take_add_one, en]
          exact gcdl_append _ _
        rw [← ge] at gg
        have nb : (if n < 0 then -n else n) = ((n.natAbs : Nat) : Int) := by split <;> omega
        simp only [tSeq, tIfS, tOr, tAnd, tB, tTest, tCB, tCons, tVar, tC, tNil, tNot, tNotV, tRet, tRetN, tNext, tBreak, tOrV, tAndV, tOp, tUn, rEq, rNe, tChain, rI0, rI, rU, tAsg, gName, tDrop, tAug, ipI, tIf, tCall, tCallS, tLst, tTup, tBM, tBM0, rAppend, rExtend, rPop, rReverse, tyV, rIxL, rIxT, rIxS, L2.start, List.map_cons, List.map_nil, List.length_cons, List.length_nil, List.replicate, List.cons_append, List.nil_append, List.append_nil, List.getElem?_cons_zero, List.getElem?_cons_succ, List.set_cons_zero, List.set_cons_succ, Nat.reduceAdd, Nat.reduceSub, Option.some.injEq, exists_eq_left', exists_eq_left, V.int.injEq, V.bl.injEq, V.str.injEq, V.ref.injEq, List.cons.injEq, and_true, true_and, and_assoc, reduceCtorEq, false_and, exists_false, or_false, false_or, exists_and_left, exists_const, scal, Int.reduceLT, Int.reduceLE, Int.reduceSub, Int.reduceAdd, Int.reduceNeg, if_true, if_false]
        rw [nb]
        refine FK.rd_for (J := Itr 0 4000) (H1 := H'') (fun R r => ⟨4000, rfl, by decide, by decide, r⟩) walk_nat
          (EuSt a H (some (.int n)) (euc 4000 (gcdl (xs.take i)) n.natAbs)) ⟨_, _, _, rfl, sm, rfl⟩ (fun _ _ _ _ _ => trivial) ?_ ?_
        · rintro k v σ H1 H2 hk ⟨d, m, v4, rfl, sm2, he⟩ ⟨rfl, hv⟩
          obtain rfl : v = .int (k : Nat) := hv
          simp only [tSeq, tIfS, tOr, tAnd, tB, tTest, tCB, tCons, tVar, tC, tNil, tNot, tNotV, tRet, tRetN, tNext, tBreak, tOrV, tAndV, tOp, tUn, rEq, rNe, tChain, rI0, rI, rU, tAsg, gName, tDrop, tAug, ipI, tIf, tCall, tCallS, tLst, tTup, tBM, tBM0, rAppend, rExtend, rPop, rReverse, tyV, rIxL, rIxT, rIxS, L2.start, List.map_cons, List.map_nil, List.length_cons, List.length_nil, List.replicate, List.cons_append, List.nil_append, List.append_nil, List.getElem?_cons_zero, List.getElem?_cons_succ, List.set_cons_zero, List.set_cons_succ, Nat.reduceAdd, Nat.reduceSub, Option.some.injEq, exists_eq_left', exists_eq_left, V.int.injEq, V.bl.injEq, V.str.injEq, V.ref.injEq, List.cons.injEq, and_true, true_and, and_assoc, reduceCtorEq, false_and, exists_false, or_false, false_or, exists_and_left, exists_const, scal, Int.reduceLT, Int.reduceLE, Int.reduceSub, Int.reduceAdd, Int.reduceNeg, if_true, if_false]
          obtain ⟨j, hj⟩ : ∃ j, 4000 - k = j + 1 := ⟨4000 - k - 1, by omega⟩
          rw [hj] at he
          by_cases c : m = 0
          · subst c
            exact iteT (prst (by rw [← gg, ← he]; rfl) sm2)
          · rw [decide_eq_false (show ¬ ((m : Nat) : Int) = 0 by omega)]
            refine iteF ⟨by omega, by decide, fun tp htp => pair_gt (SqT.of upd_same) ⟨m, d % m, _, rfl, sm2.trans (FK.same_new htp), ?_⟩⟩
            rw [← he, show 4000 - (k + 1) = j by omega]
            show _ = (if m = 0 then (d, m) else euc j m (d % m))
            rw [if_neg c]
        · rintro σ H1 ⟨d, m, v4, rfl, sm2, he⟩
          exact prst (by rw [← gg, ← he]; rfl) sm2
    · rintro σ H' ⟨v2, v3, v4, rfl, sm⟩
      rw [List.length_map, List.take_length]
      simp only [tSeq, tIfS, tOr, tAnd, tB, tTest, tCB, tCons, tVar, tC, tNil, tNot, tNotV, tRet, tRetN, tNext, tBreak, tOrV, tAndV, tOp, tUn, rEq, rNe, tChain, rI0, rI, rU, tAsg, gName, tDrop, tAug, ipI, tIf, tCall, tCallS, tLst, tTup, tBM, tBM0, rAppend, rExtend, rPop, rReverse, tyV, rIxL, rIxT, rIxS, L2.start, List.map_cons, List.map_nil, List.length_cons, List.length_nil, List.replicate, List.cons_append, List.nil_append, List.append_nil, List.getElem?_cons_zero, List.getElem?_cons_succ, List.set_cons_zero, List.set_cons_succ, Nat.reduceAdd, Nat.reduceSub, Option.some.injEq, exists_eq_left', exists_eq_left, V.int.injEq, V.bl.injEq, V.str.injEq, V.ref.injEq, List.cons.injEq, and_true, true_and, and_assoc, reduceCtorEq, false_and, exists_false, or_false, false_or, exists_and_left, exists_const, scal, Int.reduceLT, Int.reduceLE, Int.reduceSub, Int.reduceAdd, Int.reduceNeg, if_true, if_false]
      by_cases c : gcdl xs = 0
      · have e : xs = [] := by
          cases xs with
          | nil => rfl
          | cons x xs =>
            have := pol_gcd hp (List.cons_ne_nil x xs)
            omega
        subst e
        rw [c]
        exact iteT ⟨Nat.zero_le _, fun p hp => q p _ (back sm hp) (FK.same_at (back sm hp) sm) upd_same⟩
      · rw [decide_eq_false (show ¬ ((gcdl xs : Nat) : Int) = 0 by omega)]
        refine iteF ?_
        have hpl : ((prim xs).map V.int).length = (xs.map V.int).length := by rw [List.length_map, List.length_map, prim_length]
        refine FK.rd_lc_pure (J := Itl K a) (H1 := H') ((prim xs).map V.int) (fun R r => ⟨_, rfl, a, rfl, ⟨_, sm.seq hS⟩, r⟩) (by rw [hpl]; exact walk_list) (fun D o hD => (FK.same_new hD).seq (sm.seq hS))
          (by rw [hpl, List.length_map]; exact Nat.lt_of_le_of_lt hl (by decide)) (fun _ => rfl) ?_ (fun D hD => q D _ (back sm hD) (FK.same_at (back sm hD) sm) upd_same) (fun _ _ _ _ (z : _ ∧ _) => z.1)
        rintro D j x z H1 H2 R hD hz rfl ⟨rfl, hx⟩ go
        rw [List.getElem?_map] at hx hz
        unfold prim at hz
        rw [List.getElem?_map] at hz
        cases en : xs[j]? with
        | none => rw [en] at hx; cases hx
        | some n =>
          rw [en] at hx hz
          cases hx
          cases hz
          have hmem := List.mem_of_getElem? en
          have hne : xs ≠ [] := fun z => by rw [z] at hmem; exact nomatch hmem
          have hb8 : Bd 8000 xs := by
            rcases hb with hb | hb
            · exact hb.mono (by decide)
            · exact hb.2
          have gl : gcdl xs < 2 ^ 8000 := by
            have h1 := last_mem hne
            have h2 := gcdl_dvd h1
            have h3 : xs.getLastD 0 ≠ 0 := by
              rcases hp with hp | hp
              · exact absurd hp hne
              · exact hp
            exact Nat.lt_of_le_of_lt (Nat.le_of_dvd (by omega) (Int.ofNat_dvd_left.mp h2)) (hb8 _ h1)
          simp only [tSeq, tIfS, tOr, tAnd, tB, tTest, tCB, tCons, tVar, tC, tNil, tNot, tNotV, tRet, tRetN, tNext, tBreak, tOrV, tAndV, tOp, tUn, rEq, rNe, tChain, rI0, rI, rU, tAsg, gName, tDrop, tAug, ipI, tIf, tCall, tCallS, tLst, tTup, tBM, tBM0, rAppend, rExtend, rPop, rReverse, tyV, rIxL, rIxT, rIxS, L2.start, List.map_cons, List.map_nil, List.length_cons, List.length_nil, List.replicate, List.cons_append, List.nil_append, List.append_nil, List.getElem?_cons_zero, List.getElem?_cons_succ, List.set_cons_zero, List.set_cons_succ, Nat.reduceAdd, Nat.reduceSub, Option.some.injEq, exists_eq_left', exists_eq_left, V.int.injEq, V.bl.injEq, V.str.injEq, V.ref.injEq, List.cons.injEq, and_true, true_and, and_assoc, reduceCtorEq, false_and, exists_false, or_false, false_or, exists_and_left, exists_const, scal, Int.reduceLT, Int.reduceLE, Int.reduceSub, Int.reduceAdd, Int.reduceNeg, if_true, if_false, wipe]
          refine ⟨⟨by omega, ?_⟩, go⟩
          rw [Int.natAbs_natCast]
          exact Nat.lt_of_lt_of_le (log2_lt gl (by decide)) (by decide)
def spLRest (K : PySem.W.Frag) : Sp := fun vs H Q _ => ∃ (a b : Addr) (xs ys : List Int) (p q : Nat), vs = [.ref a, .ref b] ∧ SqL K H a (xs.map V.int) ∧ SqL K H b (ys.map V.int) ∧ ys ≠ [] ∧ xs.length ≤ 8 ∧ ys.length ≤ 8 ∧ Bd p xs ∧ Bd q ys ∧ p ≤ 2855 ∧ q ≤ 2855 ∧ (2 ≤ xs.length → p + (xs.length - 2) * (q + 1) ≤ 1950) ∧
  ∀ r H', Same H H' → SqL K H' r ((lremF 200 xs ys).map V.int) → Q (.ref r) H'
def LrSt (K : PySem.W.Frag) (H : Hp) (a b : Addr) (xs ys : List Int) (p q : Nat) (i : Nat) (σ : L2.St) (H' : Hp) : Prop := ∃ (ls : List Int) (D : Addr) (c n : Nat) (v3 v4 v5 v6 v7 : Option V), σ = [some (.ref a), some (.ref b), some (.ref D), v3, v4, v5, v6, v7] ∧ Same H H' ∧ SqL K H' D (ls.map V.int) ∧ Bd c ls ∧ c + ls.length * (q + 1) ≤ p + xs.length * (q + 1) ∧ ls.length ≤ xs.length ∧ lremF (200 - i) ls ys = lremF 200 xs ys
theorem ok_law_rest (T : Txt K mg cx) : FK.Has P w K mg base CX0 2 "_law_rest" ["one", "other"] (spLRest K) := by
  have H_law_trimmed := ok_law_trimmed (P := P) (w := w) (base := base) T
  have H_law_primitive := ok_law_primitive (P := P) (w := w) (base := base) T
  refine T.d_law_rest.ok sc_law_rest (fun vs H Q E h => ?_) (fun f cdv A outer s H vs Q E hr h => ?_)
  · obtain ⟨a, b, xs, ys, p, q, rfl, _⟩ := h
    rfl
  · obtain ⟨a, b, xs, ys, p, q, rfl, hX, hY, hne, hlx, hly, bx, by_, hp, hq, hpq, fin⟩ := h
    have hyl : 0 < ys.length := List.length_pos_iff.mpr hne
    refine ⟨_, (pss_cons (ps_set (i := 2) sc_law_rest.nd rfl (Or.inl rfl) (by exact (pv 0)))
  (pss_cons (ps_for PassesOwn.never rfl (pi_range1 rfl T.n_range (pa_cons pe_int pa_nil)) (pg_name (i := 3) sc_law_rest.nd rfl (Or.inl rfl))
  (pss_cons (ps_if (pt_cmpR op_lt (pe_callB call_len_seq (by rfl) T.n_len PySem.boot_len (pa_cons (pv 2) pa_nil)) (pe_callB call_len_seq (by rfl) T.n_len PySem.boot_len (pa_cons (pv 1) pa_nil)) (nomark _)) (pss_one ps_break) pss_nil)
  (pss_cons (ps_set (i := 4) sc_law_rest.nd rfl (Or.inl rfl) (by exact (pe_op op_sub (pe_callB call_len_seq (by rfl) T.n_len PySem.boot_len (pa_cons (pv 2) pa_nil)) (pe_callB call_len_seq (by rfl) T.n_len PySem.boot_len (pa_cons (pv 1) pa_nil)))))
  (pss_cons (ps_set (i := 5) sc_law_rest.nd rfl (Or.inl rfl) (by exact (pe_ix (r := rIxL K) ix_list (pv 2) (pe_un un_neg pe_int) (fun _ _ => rfl))))
  (pss_cons (ps_setLc (i := 2) (own := [("number", 7)]) (g := gName 7) (tt := tYes) rfl sc_law_rest.nd rfl rfl (sw_true rfl rfl rfl (by decide +kernel)) (pi_list (pv 2)) (blkOk_by (own := [("number", 7)]) (N := ["one", "other", "rest", "k", "shift", "last", "j", "number"]) (sc := defScope s_law_rest) (by decide +kernel)) (fun _ _ _ _ _ => (pg_name (i := 7) sc_law_rest.nd rfl (Or.inl rfl))) (fun _ _ _ _ _ => pts_nil) (fun _ _ _ _ _ => (pe_op op_mulW (pv 7) (pe_ix (r := rIxL K) ix_list (pv 1) (pe_un un_neg pe_int) (fun _ _ => rfl)))))
  (pss_cons (ps_for PassesOwn.never rfl (pi_range1 rfl T.n_range (pa_cons (pe_callB call_len_seq (by rfl) T.n_len PySem.boot_len (pa_cons (pv 1) pa_nil)) pa_nil)) (pg_name (i := 6) sc_law_rest.nd rfl (Or.inl rfl))
  (pss_one (ps_asg (pe_op op_sub (pe_ix (r := rIxL K) ix_list (pv 2) (pe_op op_add (pv 4) (pv 6)) (fun _ _ => rfl)) (pe_op op_mulW (pv 5) (pe_ix (r := rIxL K) ix_list (pv 1) (pv 6) (fun _ _ => rfl)))) (pg_sub (pv 2) (pe_op op_add (pv 4) (pv 6)) set_list))))
  (pss_one (ps_set (i := 2) sc_law_rest.nd rfl (Or.inl rfl) (by exact (FK.pe_h (E := E0) H_law_primitive (hr.mono (by decide)) pass0 (pa_cons (FK.pe_h (E := E0) H_law_trimmed (hr.mono (by decide)) pass0 (pa_cons (pv 2) pa_nil)) pa_nil)))))))))))
  (pss_one (ps_ret (pv 2))))), ?_⟩
    simp only [tSeq, tIfS, tOr, tAnd, tB, tTest, tCB, tCons, tVar, tC, tNil, tNot, tNotV, tRet, tRetN, tNext, tBreak, tOrV, tAndV, tOp, tUn, rEq, rNe, tChain, rI0, rI, rU, tAsg, gName, tDrop, tAug, ipI, tIf, tCall, tCallS, tLst, tTup, tBM, tBM0, rAppend, rExtend, rPop, rReverse, tyV, rIxL, rIxT, rIxS, L2.start, List.map_cons, List.map_nil, List.length_cons, List.length_nil, List.replicate, List.cons_append, List.nil_append, List.append_nil, List.getElem?_cons_zero, List.getElem?_cons_succ, List.set_cons_zero, List.set_cons_succ, Nat.reduceAdd, Nat.reduceSub, Option.some.injEq, exists_eq_left', exists_eq_left, V.int.injEq, V.bl.injEq, V.str.injEq, V.ref.injEq, List.cons.injEq, and_true, true_and, and_assoc, reduceCtorEq, false_and, exists_false, or_false, false_or, exists_and_left, exists_const, scal, Int.reduceLT, Int.reduceLE, Int.reduceSub, Int.reduceAdd, Int.reduceNeg, if_true, if_false]
    refine FK.rd_for (J := Itr 0 200) (H1 := H) (fun R r => ⟨200, rfl, by decide, by decide, r⟩) walk_nat
      (LrSt K H a b xs ys p q) ⟨xs, a, p, 0, _, _, _, _, _, rfl, .refl _, hX, bx, Nat.le_refl _, Nat.le_refl _, rfl⟩ (fun _ _ _ _ _ => trivial) ?_ ?_
    · rintro i v σ H1 H' hi ⟨ls, D, c, n, v3, v4, v5, v6, v7, rfl, sm, hL, hb, hc, hlx2, he⟩ ⟨rfl, hv⟩
      obtain rfl : v = .int (i : Nat) := hv
      have hY2 := sm.seq hY
      obtain ⟨m, hm⟩ : ∃ m, 200 - i = m + 1 := ⟨200 - i - 1, by omega⟩
      rw [hm] at he
      simp only [tSeq, tIfS, tOr, tAnd, tB, tTest, tCB, tCons, tVar, tC, tNil, tNot, tNotV, tRet, tRetN, tNext, tBreak, tOrV, tAndV, tOp, tUn, rEq, rNe, tChain, rI0, rI, rU, tAsg, gName, tDrop, tAug, ipI, tIf, tCall, tCallS, tLst, tTup, tBM, tBM0, rAppend, rExtend, rPop, rReverse, tyV, rIxL, rIxT, rIxS, L2.start, List.map_cons, List.map_nil, List.length_cons, List.length_nil, List.replicate, List.cons_append, List.nil_append, List.append_nil, List.getElem?_cons_zero, List.getElem?_cons_succ, List.set_cons_zero, List.set_cons_succ, Nat.reduceAdd, Nat.reduceSub, Option.some.injEq, exists_eq_left', exists_eq_left, V.int.injEq, V.bl.injEq, V.str.injEq, V.ref.injEq, List.cons.injEq, and_true, true_and, and_assoc, reduceCtorEq, false_and, exists_false, or_false, false_or, exists_and_left, exists_const, scal, Int.reduceLT, Int.reduceLE, Int.reduceSub, Int.reduceAdd, Int.reduceNeg, if_true, if_false]
      refine ⟨_, .inl hL, _, .inl hY2, ?_⟩
      rw [List.length_map, List.length_map]
      by_cases c1 : ls.length < ys.length
      · rw [decide_eq_true (show (ls.length : Int) < (ys.length : Int) by omega)]
        rw [lremF_done c1] at he
        rw [← he] at fin
        exact iteT (fin D _ sm hL)
      rw [decide_eq_false (show ¬ (ls.length : Int) < (ys.length : Int) by omega)]
      have c1 : ys.length ≤ ls.length := Nat.le_of_not_lt c1
      have hl1 : ls ≠ [] := fun z => hne (List.eq_nil_of_length_eq_zero (Nat.le_zero.mp (by rw [z] at c1; exact c1)))
      refine iteF ⟨_, .inl hL, _, .inl hY2, _, hL, _, at_last hl1, ?_⟩
      rw [List.length_map, List.length_map]
      have hcb : c ≤ 25703 := by
        have h1 := Nat.mul_le_mul hlx (show q + 1 ≤ 2856 by omega)
        omega
      have hcc : c + q < 999998 := by omega
      have hp0 : ((part ls ys 0).map V.int).length = (ls.map V.int).length := by rw [List.length_map, List.length_map, part_length]
      refine FK.rd_lc_pure (J := Itl K D) (H1 := H') ((part ls ys 0).map V.int) (fun R r => ⟨_, rfl, D, rfl, ⟨_, hL⟩, r⟩) (by rw [hp0]; exact walk_list) (fun E o hE => (FK.same_new hE).seq hL)
        (by rw [hp0, List.length_map]; exact Nat.lt_of_le_of_lt (Nat.le_trans hlx2 hlx) (by decide)) (fun _ => rfl) ?_ ?_ (fun _ _ _ _ (z : _ ∧ _) => z.1)
      · rintro D2 j x z H1 H2 R hD2 hz rfl ⟨rfl, hx⟩ go
        rw [part_zero, List.map_map, List.getElem?_map] at hz
        rw [List.getElem?_map] at hx
        cases en : ls[j]? with
        | none => rw [en] at hx; cases hx
        | some n =>
          rw [en] at hx hz
          cases hx
          cases hz
          simp only [tSeq, tIfS, tOr, tAnd, tB, tTest, tCB, tCons, tVar, tC, tNil, tNot, tNotV, tRet, tRetN, tNext, tBreak, tOrV, tAndV, tOp, tUn, rEq, rNe, tChain, rI0, rI, rU, tAsg, gName, tDrop, tAug, ipI, tIf, tCall, tCallS, tLst, tTup, tBM, tBM0, rAppend, rExtend, rPop, rReverse, tyV, rIxL, rIxT, rIxS, L2.start, List.map_cons, List.map_nil, List.length_cons, List.length_nil, List.replicate, List.cons_append, List.nil_append, List.append_nil, List.getElem?_cons_zero, List.getElem?_cons_succ, List.set_cons_zero, List.set_cons_succ, Nat.reduceAdd, Nat.reduceSub, Option.some.injEq, exists_eq_left', exists_eq_left, V.int.injEq, V.bl.injEq, V.str.injEq, V.ref.injEq, List.cons.injEq, and_true, true_and, and_assoc, reduceCtorEq, false_and, exists_false, or_false, false_or, exists_and_left, exists_const, scal, Int.reduceLT, Int.reduceLE, Int.reduceSub, Int.reduceAdd, Int.reduceNeg, if_true, if_false, wipe]
          exact ⟨_, (FK.same_new hD2).seq hY2, _, at_last hne, _, rfl, cmul (hb _ (List.mem_of_getElem? en)) (bd_getLastD by_) hcc, go⟩
      · intro D2 hD2
        have fr : ∀ {o : HO}, Same H' (upd H' D2 o) := fun {o} => FK.same_new hD2
        refine FK.rd_for (J := Itr 0 ys.length) (H1 := upd H' D2 (.lst ((part ls ys 0).map V.int))) (fun R r => ⟨_, rfl, b, rfl, _, .inl (fr.seq hY2), _, rfl, by rw [List.length_map]; omega, by rw [List.length_map]; omega, by rw [List.length_map, Int.toNat_natCast]; exact r⟩) walk_nat
          (fun j σ H'' => ∃ v6 : Option V, σ = [some (.ref a), some (.ref b), some (.ref D2), some (.int (i : Nat)), some (.int ((ls.length : Int) - ys.length)), some (.int (ls.getLastD 0)), v6, v7] ∧ H'' = upd H' D2 (.lst ((part ls ys j).map V.int))) ⟨_, rfl, rfl⟩ (fun _ _ _ _ _ => trivial) ?_ ?_
        · rintro j v σ H1 H2 hj ⟨v6, rfl, rfl⟩ ⟨rfl, hv⟩
          obtain rfl : v = .int (j : Nat) := hv
          obtain ⟨z, hz1, hz2⟩ := part_item c1 hj
          have hix : ((ls.length : Int) - ys.length + (j : Int)) = ((j + (ls.length - ys.length) : Nat) : Int) := by omega
          have hlen : j + (ls.length - ys.length) < ((part ls ys j).map V.int).length := by rw [List.length_map, part_length]; omega
          simp only [tSeq, tIfS, tOr, tAnd, tB, tTest, tCB, tCons, tVar, tC, tNil, tNot, tNotV, tRet, tRetN, tNext, tBreak, tOrV, tAndV, tOp, tUn, rEq, rNe, tChain, rI0, rI, rU, tAsg, gName, tDrop, tAug, ipI, tIf, tCall, tCallS, tLst, tTup, tBM, tBM0, rAppend, rExtend, rPop, rReverse, tyV, rIxL, rIxT, rIxS, L2.start, List.map_cons, List.map_nil, List.length_cons, List.length_nil, List.replicate, List.cons_append, List.nil_append, List.append_nil, List.getElem?_cons_zero, List.getElem?_cons_succ, List.set_cons_zero, List.set_cons_succ, Nat.reduceAdd, Nat.reduceSub, Option.some.injEq, exists_eq_left', exists_eq_left, V.int.injEq, V.bl.injEq, V.str.injEq, V.ref.injEq, List.cons.injEq, and_true, true_and, and_assoc, reduceCtorEq, false_and, exists_false, or_false, false_or, exists_and_left, exists_const, scal, Int.reduceLT, Int.reduceLE, Int.reduceSub, Int.reduceAdd, Int.reduceNeg, if_true, if_false, gSub, rSetL]
          rw [hix]
          refine ⟨_, .inl (.inl upd_same), .int z, atI_nat (by rw [List.getElem?_map, hz1]; rfl), _, fr.seq hY2, _, atI_getD hj, _, rfl, cmul (bd_getLastD hb) (bd_getD by_ _) hcc, z, rfl, _, upd_same, _, ixN_nat hlen, ?_⟩
          rw [upd_upd, ← List.map_set (f := V.int), hz2]
        · rintro σ H2 ⟨v6, rfl, rfl⟩
          rw [part_full _ _ c1]
          simp only [tSeq, tIfS, tOr, tAnd, tB, tTest, tCB, tCons, tVar, tC, tNil, tNot, tNotV, tRet, tRetN, tNext, tBreak, tOrV, tAndV, tOp, tUn, rEq, rNe, tChain, rI0, rI, rU, tAsg, gName, tDrop, tAug, ipI, tIf, tCall, tCallS, tLst, tTup, tBM, tBM0, rAppend, rExtend, rPop, rReverse, tyV, rIxL, rIxT, rIxS, L2.start, List.map_cons, List.map_nil, List.length_cons, List.length_nil, List.replicate, List.cons_append, List.nil_append, List.append_nil, List.getElem?_cons_zero, List.getElem?_cons_succ, List.set_cons_zero, List.set_cons_succ, Nat.reduceAdd, Nat.reduceSub, Option.some.injEq, exists_eq_left', exists_eq_left, V.int.injEq, V.bl.injEq, V.str.injEq, V.ref.injEq, List.cons.injEq, and_true, true_and, and_assoc, reduceCtorEq, false_and, exists_false, or_false, false_or, exists_and_left, exists_const, scal, Int.reduceLT, Int.reduceLE, Int.reduceSub, Int.reduceAdd, Int.reduceNeg, if_true, if_false]
          refine ⟨D2, raw ls ys, rfl, .inl (.inl upd_same), by rw [raw_length]; omega, fun p1 hp1 => ?_⟩
          have hlt := es_length hne c1
          have h1 := Nat.mul_le_mul_right (q + 1) (show (es ls ys).length + 1 ≤ ls.length by omega)
          rw [Nat.succ_mul] at h1
          have hbe := bd_es hb by_
          have hx2 : (xs.length - 2) * (q + 1) = xs.length * (q + 1) - 2 * (q + 1) := Nat.sub_mul _ _ _
          have hsz : Bd 1950 (es ls ys) ∨ (es ls ys).length ≤ 1 ∧ Bd 8000 (es ls ys) := by
            by_cases c2 : 2 ≤ (es ls ys).length
            · have h3 := hpq (by omega)
              have h4 := Nat.mul_le_mul_right (q + 1) c2
              exact .inl (hbe.mono (by omega))
            · refine .inr ⟨by omega, ?_⟩
              by_cases c3 : (es ls ys).length = 0
              · rw [List.eq_nil_of_length_eq_zero c3]
                exact bd_nil
              · have h3 := hpq (by omega)
                have h4 := Nat.mul_le_mul_right (q + 1) (show 1 ≤ (es ls ys).length by omega)
                have h5 := Nat.mul_le_mul_right (q + 1) (show 2 ≤ xs.length by omega)
                exact hbe.mono (by omega)
          refine ⟨p1, es ls ys, rfl, .inl (.inl upd_same), by omega, pol_es ls ys, hsz, fun p2 H3 hp2 s3 hL3 => ?_⟩
          refine ⟨prim (es ls ys), p2, c + q + 1, 0, _, _, _, _, _, rfl, sm.trans (fr.trans ((FK.same_new hp1).trans s3)), .inl (.inl hL3), bd_prim hbe, ?_, by rw [prim_length]; omega, ?_⟩
          · rw [prim_length]
            omega
          · rw [← he, show 200 - (i + 1) = m by omega]
            show _ = (if ls.length < ys.length then ls else lremF m (prim (es ls ys)) ys)
            rw [if_neg (by omega)]
    · rintro σ H' ⟨ls, D, c, n, v3, v4, v5, v6, v7, rfl, sm, hL, hb, hc, hlx2, he⟩
      simp only [tSeq, tIfS, tOr, tAnd, tB, tTest, tCB, tCons, tVar, tC, tNil, tNot, tNotV, tRet, tRetN, tNext, tBreak, tOrV, tAndV, tOp, tUn, rEq, rNe, tChain, rI0, rI, rU, tAsg, gName, tDrop, tAug, ipI, tIf, tCall, tCallS, tLst, tTup, tBM, tBM0, rAppend, rExtend, rPop, rReverse, tyV, rIxL, rIxT, rIxS, L2.start, List.map_cons, List.map_nil, List.length_cons, List.length_nil, List.replicate, List.cons_append, List.nil_append, List.append_nil, List.getElem?_cons_zero, List.getElem?_cons_succ, List.set_cons_zero, List.set_cons_succ, Nat.reduceAdd, Nat.reduceSub, Option.some.injEq, exists_eq_left', exists_eq_left, V.int.injEq, V.bl.injEq, V.str.injEq, V.ref.injEq, List.cons.injEq, and_true, true_and, and_assoc, reduceCtorEq, false_and, exists_false, or_false, false_or, exists_and_left, exists_const, scal, Int.reduceLT, Int.reduceLE, Int.reduceSub, Int.reduceAdd, Int.reduceNeg, if_true, if_false]
      exact fin D _ sm (by rw [← he]; exact hL)
def spLDeg (K : PySem.W.Frag) : Sp := fun vs H Q _ => ∃ (a b : Addr) (xs ys : List Int), vs = [.ref a, .ref b] ∧ SqL K H a (xs.map V.int) ∧ SqL K H b (ys.map V.int) ∧ Pol xs ∧ Pol ys ∧ xs.length ≤ 8 ∧ ys.length ≤ 8 ∧ Bd 6 xs ∧ Bd 6 ys ∧
  ∀ H', Same H H' → Q (.int ((lcomF 200 (prim xs) (prim ys)).length - 1)) H'
def LdSt (K : PySem.W.Frag) (H : Hp) (a b : Addr) (xs ys : List Int) (i : Nat) (σ : L2.St) (H' : Hp) : Prop := ∃ (first second : List Int) (c d : Addr) (v4 : Option V), σ = [some (.ref a), some (.ref b), some (.ref c), some (.ref d), v4] ∧ Same H H' ∧ SqL K H' c (first.map V.int) ∧ SqL K H' d (second.map V.int) ∧ CInv first second ∧ lcomF (200 - i) first second = lcomF 200 (prim xs) (prim ys)
theorem ok_law_degree (T : Txt K mg cx) : FK.Has P w K mg base CX0 3 "_law_degree" ["one", "other"] (spLDeg K) := by
  have H_law_rest := ok_law_rest (P := P) (w := w) (base := base) T
  have H_law_primitive := ok_law_primitive (P := P) (w := w) (base := base) T
  refine T.d_law_degree.ok sc_law_degree (fun vs H Q E h => ?_) (fun f cdv A outer s H vs Q E hr h => ?_)
  · obtain ⟨a, b, xs, ys, rfl, _⟩ := h
    rfl
  · obtain ⟨a, b, xs, ys, rfl, hX, hY, px, py, hlx, hly, bx, by_, fin⟩ := h
    refine ⟨_, (pss_cons (ps_set (i := 2) sc_law_degree.nd rfl (Or.inl rfl) (by exact (FK.pe_h (E := E0) H_law_primitive (hr.mono (by decide)) pass0 (pa_cons (pv 0) pa_nil))))
  (pss_cons (ps_set (i := 3) sc_law_degree.nd rfl (Or.inl rfl) (by exact (FK.pe_h (E := E0) H_law_primitive (hr.mono (by decide)) pass0 (pa_cons (pv 1) pa_nil))))
  (pss_cons (ps_for PassesOwn.never rfl (pi_range1 rfl T.n_range (pa_cons pe_int pa_nil)) (pg_name (i := 4) sc_law_degree.nd rfl (Or.inl rfl))
  (pss_cons (ps_if (pt_not (pt_truth (pv 3) (by intro _; rfl))) (pss_one ps_break) pss_nil)
  (pss_one (ps_par (i := 2) (j := 3) (by rfl) sc_law_degree.nd rfl rfl (by decide) rfl rfl (pa_cons (pv 3) (pa_cons (FK.pe_h (E := E0) H_law_rest (hr.mono (by decide)) pass0 (pa_cons (pv 2) (pa_cons (pv 3) pa_nil))) pa_nil)) (by first | rfl | kernel_rfl | with_unfolding_all rfl)))))
  (pss_one (ps_ret (pe_op op_sub (pe_callB call_len_seq (by rfl) T.n_len PySem.boot_len (pa_cons (pv 2) pa_nil)) pe_int)))))), ?_⟩
    simp only [tSeq, tIfS, tOr, tAnd, tB, tTest, tCB, tCons, tVar, tC, tNil, tNot, tNotV, tRet, tRetN, tNext, tBreak, tOrV, tAndV, tOp, tUn, rEq, rNe, tChain, rI0, rI, rU, tAsg, gName, tDrop, tAug, ipI, tIf, tCall, tCallS, tLst, tTup, tBM, tBM0, rAppend, rExtend, rPop, rReverse, tyV, rIxL, rIxT, rIxS, L2.start, List.map_cons, List.map_nil, List.length_cons, List.length_nil, List.replicate, List.cons_append, List.nil_append, List.append_nil, List.getElem?_cons_zero, List.getElem?_cons_succ, List.set_cons_zero, List.set_cons_succ, Nat.reduceAdd, Nat.reduceSub, Option.some.injEq, exists_eq_left', exists_eq_left, V.int.injEq, V.bl.injEq, V.str.injEq, V.ref.injEq, List.cons.injEq, and_true, true_and, and_assoc, reduceCtorEq, false_and, exists_false, or_false, false_or, exists_and_left, exists_const, scal, Int.reduceLT, Int.reduceLE, Int.reduceSub, Int.reduceAdd, Int.reduceNeg, if_true, if_false]
    refine ⟨a, xs, rfl, hX, by omega, px, .inl (bx.mono (by decide)), fun p1 H1 hp1 s1 hL1 => ?_⟩
    refine ⟨b, ys, rfl, s1.seq hY, by omega, py, .inl (by_.mono (by decide)), fun p2 H2 hp2 s2 hL2 => ?_⟩
    have ci0 : CInv (prim xs) (prim ys) := cinv_prim ⟨hlx, hly, .inl ⟨bx, by_⟩⟩
    refine FK.rd_for (J := Itr 0 200) (H1 := H2) (fun R r => ⟨200, rfl, by decide, by decide, r⟩) walk_nat
      (LdSt K H a b xs ys) ⟨_, _, p1, p2, _, rfl, s1.trans s2, .inl (.inl (s2 _ _ hL1)), .inl (.inl hL2), ci0, rfl⟩ (fun _ _ _ _ _ => trivial) ?_ ?_
    · rintro i v σ H1 H' hi ⟨first, second, c, d, v4, rfl, sm, hF, hS, ci, he⟩ ⟨rfl, hv⟩
      obtain rfl : v = .int (i : Nat) := hv
      obtain ⟨m, hm⟩ : ∃ m, 200 - i = m + 1 := ⟨200 - i - 1, by omega⟩
      rw [hm] at he
      simp only [tSeq, tIfS, tOr, tAnd, tB, tTest, tCB, tCons, tVar, tC, tNil, tNot, tNotV, tRet, tRetN, tNext, tBreak, tOrV, tAndV, tOp, tUn, rEq, rNe, tChain, rI0, rI, rU, tAsg, gName, tDrop, tAug, ipI, tIf, tCall, tCallS, tLst, tTup, tBM, tBM0, rAppend, rExtend, rPop, rReverse, tyV, rIxL, rIxT, rIxS, L2.start, List.map_cons, List.map_nil, List.length_cons, List.length_nil, List.replicate, List.cons_append, List.nil_append, List.append_nil, List.getElem?_cons_zero, List.getElem?_cons_succ, List.set_cons_zero, List.set_cons_succ, Nat.reduceAdd, Nat.reduceSub, Option.some.injEq, exists_eq_left', exists_eq_left, V.int.injEq, V.bl.injEq, V.str.injEq, V.ref.injEq, List.cons.injEq, and_true, true_and, and_assoc, reduceCtorEq, false_and, exists_false, or_false, false_or, exists_and_left, exists_const, scal, Int.reduceLT, Int.reduceLE, Int.reduceSub, Int.reduceAdd, Int.reduceNeg, if_true, if_false, tPar]
      refine ⟨!second.isEmpty, .inl ⟨_, hS, by cases second <;> rfl⟩, ?_⟩
      cases second with
      | nil =>
        refine iteT ⟨_, .inl hF, ?_⟩
        have e2 : lcomF (m + 1) first [] = first := rfl
        rw [e2] at he
        rw [List.length_map, he]
        exact fin _ sm
      | cons y ys2 =>
        have hne : y :: ys2 ≠ [] := List.cons_ne_nil _ _
        obtain ⟨pb, qb, h1, h2, h3, h4, _, _, h7⟩ := cinv_bd ci hne
        refine iteF ⟨c, d, first, y :: ys2, pb, qb, rfl, hF, hS, hne, ci.1, ci.2.1, h1, h2, h3, h4, h7, fun r H3 s3 hL3 => ?_⟩
        refine ⟨y :: ys2, lremF 200 first (y :: ys2), d, r, _, rfl, sm.trans s3, s3.seq hS, hL3, cinv_lrem ci hne, ?_⟩
        rw [← he, show 200 - (i + 1) = m by omega]
        rfl
    · rintro σ H' ⟨first, second, c, d, v4, rfl, sm, hF, hS, ci, he⟩
      simp only [tSeq, tIfS, tOr, tAnd, tB, tTest, tCB, tCons, tVar, tC, tNil, tNot, tNotV, tRet, tRetN, tNext, tBreak, tOrV, tAndV, tOp, tUn, rEq, rNe, tChain, rI0, rI, rU, tAsg, gName, tDrop, tAug, ipI, tIf, tCall, tCallS, tLst, tTup, tBM, tBM0, rAppend, rExtend, rPop, rReverse, tyV, rIxL, rIxT, rIxS, L2.start, List.map_cons, List.map_nil, List.length_cons, List.length_nil, List.replicate, List.cons_append, List.nil_append, List.append_nil, List.getElem?_cons_zero, List.getElem?_cons_succ, List.set_cons_zero, List.set_cons_succ, Nat.reduceAdd, Nat.reduceSub, Option.some.injEq, exists_eq_left', exists_eq_left, V.int.injEq, V.bl.injEq, V.str.injEq, V.ref.injEq, List.cons.injEq, and_true, true_and, and_assoc, reduceCtorEq, false_and, exists_false, or_false, false_or, exists_and_left, exists_const, scal, Int.reduceLT, Int.reduceLE, Int.reduceSub, Int.reduceAdd, Int.reduceNeg, if_true, if_false]
      refine ⟨_, .inl hF, ?_⟩
      have e2 : first = lcomF 200 (prim xs) (prim ys) := he
      rw [List.length_map, e2]
      exact fin _ sm

end
end K13

namespace K13
open PySem PySem.Spec PyProof.Rows L2
section
variable {P : Program} {w : World} {K : PySem.W.Frag} {mg : Str → Option Value} {base : Heap} {cx : Xs}
/-- the drawn numbers that are left -/
def Dr (H : Hp) (d : Addr) : Prop := ∃ ds : List Int, H d = some (.lst (ds.map V.int)) ∧ ds.length ≤ 8000 ∧ ∀ z ∈ ds, 0 ≤ z ∧ z < 1000
def spNumber : Sp := fun vs H Q _ => ∃ n : Int, vs = [.int n] ∧ Q (.int (if n < 0 then -n else n)) H
theorem ok_law_number (T : Txt K mg cx) : FK.Has P w K mg base CX0 1 "_law_number" ["cell"] spNumber := by
  refine T.d_law_number.ok sc_law_number (fun vs H Q E h => ?_) (fun f cdv A outer s H vs Q E hr h => ?_)
  · obtain ⟨n, rfl, _⟩ := h
    rfl
  · obtain ⟨n, rfl, q⟩ := h
    refine ⟨_, (pss_cons (ps_if (pt_cmpR op_lt (pv 0) pe_int (nomark _)) (pss_one (ps_ret (pe_op op_sub pe_int (pv 0)))) pss_nil)
  (pss_one (ps_ret (pv 0)))), ?_⟩
    simp only [tSeq, tIfS, tOr, tAnd, tB, tTest, tCB, tCons, tVar, tC, tNil, tNot, tNotV, tRet, tRetN, tNext, tBreak, tOrV, tAndV, tOp, tUn, rEq, rNe, tChain, rI0, rI, rU, tAsg, gName, tDrop, tAug, ipI, tIf, tCall, tCallS, tLst, tTup, tBM, tBM0, rAppend, rExtend, rPop, rReverse, tyV, rIxL, rIxT, rIxS, L2.start, List.map_cons, List.map_nil, List.length_cons, List.length_nil, List.replicate, List.cons_append, List.nil_append, List.append_nil, List.getElem?_cons_zero, List.getElem?_cons_succ, List.set_cons_zero, List.set_cons_succ, Nat.reduceAdd, Nat.reduceSub, Option.some.injEq, exists_eq_left', exists_eq_left, V.int.injEq, V.bl.injEq, V.str.injEq, V.ref.injEq, List.cons.injEq, and_true, true_and, and_assoc, reduceCtorEq, false_and, exists_false, or_false, false_or, exists_and_left, exists_const, scal, Int.reduceLT, Int.reduceLE, Int.reduceSub, Int.reduceAdd, Int.reduceNeg, if_true, if_false]
    refine ite2 (fun c => ?_) (fun c => ?_)
    · rw [if_pos (of_decide_eq_true c)] at q
      rw [show (0 : Int) - n = -n by omega]
      exact q
    · rw [if_neg (fun z => c (decide_eq_true z))] at q
      exact q
def spDraw : Sp := fun vs H Q _ => ∃ d : Addr, vs = [.ref d] ∧ Dr H d ∧ ∀ r H', 0 ≤ r → r < 1000 → Dr H' d → FK.But d H H' → Q (.int r) H'
theorem ok_law_draw (T : Txt K mg cx) : FK.Has P w K mg base CX0 1 "_law_draw" ["draws"] spDraw := by
  refine T.d_law_draw.ok sc_law_draw (fun vs H Q E h => ?_) (fun f cdv A outer s H vs Q E hr h => ?_)
  · obtain ⟨n, rfl, _⟩ := h
    rfl
  · obtain ⟨d, rfl, ⟨ds, hd, hl, hz⟩, q⟩ := h
    refine ⟨_, (pss_cons (ps_if (pt_truth (pv 0) (by intro _; rfl)) (pss_one (ps_ret (pe_bm0 PySem.F.plainAttrs_list PySem.F.slot_list_pop PySem.F.type_list_pop mt_pop (pv 0)))) pss_nil)
  (pss_one (ps_ret pe_int))), ?_⟩
    simp only [tSeq, tIfS, tOr, tAnd, tB, tTest, tCB, tCons, tVar, tC, tNil, tNot, tNotV, tRet, tRetN, tNext, tBreak, tOrV, tAndV, tOp, tUn, rEq, rNe, tChain, rI0, rI, rU, tAsg, gName, tDrop, tAug, ipI, tIf, tCall, tCallS, tLst, tTup, tBM, tBM0, rAppend, rExtend, rPop, rReverse, tyV, rIxL, rIxT, rIxS, L2.start, List.map_cons, List.map_nil, List.length_cons, List.length_nil, List.replicate, List.cons_append, List.nil_append, List.append_nil, List.getElem?_cons_zero, List.getElem?_cons_succ, List.set_cons_zero, List.set_cons_succ, Nat.reduceAdd, Nat.reduceSub, Option.some.injEq, exists_eq_left', exists_eq_left, V.int.injEq, V.bl.injEq, V.str.injEq, V.ref.injEq, List.cons.injEq, and_true, true_and, and_assoc, reduceCtorEq, false_and, exists_false, or_false, false_or, exists_and_left, exists_const, scal, Int.reduceLT, Int.reduceLE, Int.reduceSub, Int.reduceAdd, Int.reduceNeg, if_true, if_false]
    refine ⟨!(ds.map V.int).isEmpty, .inl ⟨_, SqL.of hd, rfl⟩, ite2 (fun c => ?_) (fun c => ?_)⟩
    · have hne : ds ≠ [] := fun z => by
        subst z
        exact absurd c (by decide)
      refine ⟨.inl ⟨_, SqL.of hd⟩, ds.map V.int, hd, V.int (ds.getLast hne), ?_, ?_⟩
      · rw [List.length_map, List.getElem?_map, ← List.getLast?_eq_getElem?, List.getLast?_eq_some_getLast hne]
        rfl
      · obtain ⟨h1, h2⟩ := hz _ (List.getLast_mem hne)
        refine q _ _ h1 h2 ⟨ds.dropLast, by rw [upd_same, List.map_dropLast], by rw [List.length_dropLast]; omega, fun z z2 => hz z (List.dropLast_subset _ z2)⟩ .upd
    · exact q 0 H (by omega) (by omega) ⟨ds, hd, hl, hz⟩ .refl
def spPick : Sp := fun vs H Q _ => ∃ (d : Addr) (m : Int), vs = [.ref d, .int m] ∧ Dr H d ∧ 0 < m ∧ ∀ r H', 0 ≤ r → r < m → Dr H' d → FK.But d H H' → Q (.int r) H'
theorem ok_law_pick (T : Txt K mg cx) : FK.Has P w K mg base CX0 2 "_law_pick" ["draws", "many"] spPick := by
  have H_law_draw := ok_law_draw (P := P) (w := w) (base := base) T
  refine T.d_law_pick.ok sc_law_pick (fun vs H Q E h => ?_) (fun f cdv A outer s H vs Q E hr h => ?_)
  · obtain ⟨n, m, rfl, _⟩ := h
    rfl
  · obtain ⟨d, m, rfl, hd, hm, q⟩ := h
    refine ⟨_, (pss_one (ps_ret (pe_op op_mod (pe_callTy FK.call_intI (by rfl) T.n_int (by decide +kernel) (pa_cons (FK.pe_h (E := E0) H_law_draw (hr.mono (by decide)) pass0 (pa_cons (pv 0) pa_nil)) pa_nil)) (pv 1)))), ?_⟩
    simp only [tSeq, tIfS, tOr, tAnd, tB, tTest, tCB, tCons, tVar, tC, tNil, tNot, tNotV, tRet, tRetN, tNext, tBreak, tOrV, tAndV, tOp, tUn, rEq, rNe, tChain, rI0, rI, rU, tAsg, gName, tDrop, tAug, ipI, tIf, tCall, tCallS, tLst, tTup, tBM, tBM0, rAppend, rExtend, rPop, rReverse, tyV, rIxL, rIxT, rIxS, L2.start, List.map_cons, List.map_nil, List.length_cons, List.length_nil, List.replicate, List.cons_append, List.nil_append, List.append_nil, List.getElem?_cons_zero, List.getElem?_cons_succ, List.set_cons_zero, List.set_cons_succ, Nat.reduceAdd, Nat.reduceSub, Option.some.injEq, exists_eq_left', exists_eq_left, V.int.injEq, V.bl.injEq, V.str.injEq, V.ref.injEq, List.cons.injEq, and_true, true_and, and_assoc, reduceCtorEq, false_and, exists_false, or_false, false_or, exists_and_left, exists_const, scal, Int.reduceLT, Int.reduceLE, Int.reduceSub, Int.reduceAdd, Int.reduceNeg, if_true, if_false]
    exact ⟨d, rfl, hd, fun r H' h0 h1 hd' hb => ⟨r, rfl, hm, q _ _ (Int.emod_nonneg _ (by omega)) (Int.emod_lt_of_pos _ hm) hd' hb⟩⟩
def spDraws (K : PySem.W.Frag) : Sp := fun vs H Q _ => ∃ (a : Addr) (ns : List Int), vs = [.ref a] ∧ SqL K H a (ns.map V.int) ∧ ns.length ≤ 63 ∧ ∀ d H', H d = none → Dr H' d → Same H H' → Q (.ref d) H'
theorem ok_law_draws (T : Txt K mg cx) : FK.Has P w K mg base CX0 2 "_law_draws" ["script"] (spDraws K) := by
  have H_law_number := ok_law_number (P := P) (w := w) (base := base) T
  refine T.d_law_draws.ok sc_law_draws (fun vs H Q E h => ?_) (fun f cdv A outer s H vs Q E hr h => ?_)
  · obtain ⟨a, ns, rfl, _⟩ := h
    rfl
  · obtain ⟨a, ns, rfl, hS, hl, q⟩ := h
    refine ⟨_, (pss_cons (ps_set (i := 1) sc_law_draws.nd rfl (Or.inl rfl) (by exact (pe_lst pa_nil)))
  (pss_cons (ps_set (i := 2) sc_law_draws.nd rfl (Or.inl rfl) (by exact pe_int))
  (pss_cons (ps_for PassesOwn.never rfl (pi_list (pv 0)) (pg_name (i := 3) sc_law_draws.nd rfl (Or.inl rfl))
  (pss_cons (ps_set (i := 5) sc_law_draws.nd rfl (Or.inl rfl) (by exact (FK.pe_h (E := E0) H_law_number (hr.mono (by decide)) pass0 (pa_cons (pv 3) pa_nil))))
  (pss_cons (ps_set (i := 2) sc_law_draws.nd rfl (Or.inl rfl) (by exact (pe_op op_mod (pe_callTy FK.call_intI (by rfl) T.n_int (by decide +kernel) (pa_cons (pe_op op_add (pe_op op_mul (pv 2) pe_int) (pv 5)) pa_nil)) pe_int)))
  (pss_one (ps_if (pt_cmpR op_ge (pv 5) pe_int (nomark _)) (pss_one (ps_for PassesOwn.never rfl (pi_range1 rfl T.n_range (pa_cons pe_int pa_nil)) (pg_name (i := 4) sc_law_draws.nd rfl (Or.inl rfl))
  (pss_cons (ps_if (pt_cmpR op_eq (pv 5) pe_int (nomark _)) (pss_one ps_break) pss_nil)
  (pss_cons (ps_expr (pe_bm PySem.F.plainAttrs_list PySem.F.slot_list_append PySem.F.type_list_append mt_append (pv 1) (pa_cons (pe_op op_mod (pe_callTy FK.call_intI (by rfl) T.n_int (by decide +kernel) (pa_cons (pv 5) pa_nil)) pe_int) pa_nil)))
  (pss_one (ps_set (i := 5) sc_law_draws.nd rfl (Or.inl rfl) (by exact (pe_op op_fdiv (pv 5) pe_int)))))))) (pss_cons (ps_set (i := 6) sc_law_draws.nd rfl (Or.inl rfl) (by exact (pe_op op_mod (pe_callTy FK.call_intI (by rfl) T.n_int (by decide +kernel) (pa_cons (pe_op op_add (pe_op op_mul (pv 5) pe_int) pe_int) pa_nil)) pe_int)))
  (pss_cons (ps_set (i := 7) sc_law_draws.nd rfl (Or.inl rfl) (by exact (pe_op op_mod (pe_callTy FK.call_intI (by rfl) T.n_int (by decide +kernel) (pa_cons (pe_op op_add (pe_op op_mul (pv 6) pe_int) (pv 5)) pa_nil)) pe_int)))
  (pss_one (ps_expr (pe_bm PySem.F.plainAttrs_list PySem.F.slot_list_extend PySem.F.type_list_extend mt_extend (pv 1) (pa_cons (pe_lst (pa_cons (pe_op op_mod (pe_callTy FK.call_intI (by rfl) T.n_int (by decide +kernel) (pa_cons (pv 5) pa_nil)) pe_int) (pa_cons (pe_op op_mod (pe_callTy FK.call_intI (by rfl) T.n_int (by decide +kernel) (pa_cons (pv 6) pa_nil)) pe_int) (pa_cons (pe_op op_mod (pe_callTy FK.call_intI (by rfl) T.n_int (by decide +kernel) (pa_cons (pv 7) pa_nil)) pe_int) pa_nil)))) pa_nil)))))))))))
  (pss_cons (ps_for PassesOwn.never rfl (pi_range1 rfl T.n_range (pa_cons pe_int pa_nil)) (pg_name (i := 4) sc_law_draws.nd rfl (Or.inl rfl))
  (pss_cons (ps_set (i := 2) sc_law_draws.nd rfl (Or.inl rfl) (by exact (pe_op op_mod (pe_callTy FK.call_intI (by rfl) T.n_int (by decide +kernel) (pa_cons (pe_op op_add (pe_op op_mul (pv 2) pe_int) pe_int) pa_nil)) pe_int)))
  (pss_one (ps_expr (pe_bm PySem.F.plainAttrs_list PySem.F.slot_list_append PySem.F.type_list_append mt_append (pv 1) (pa_cons (pe_op op_mod (pe_callTy FK.call_intI (by rfl) T.n_int (by decide +kernel) (pa_cons (pe_op op_fdiv (pv 2) pe_int) pa_nil)) pe_int) pa_nil))))))
  (pss_cons (ps_expr (pe_bm0 PySem.F.plainAttrs_list PySem.F.slot_list_reverse PySem.F.type_list_reverse mt_reverse (pv 1)))
  (pss_one (ps_ret (pv 1)))))))), ?_⟩
    simp only [tSeq, tIfS, tOr, tAnd, tB, tTest, tCB, tCons, tVar, tC, tNil, tNot, tNotV, tRet, tRetN, tNext, tBreak, tOrV, tAndV, tOp, tUn, rEq, rNe, tChain, rI0, rI, rU, tAsg, gName, tDrop, tAug, ipI, tIf, tCall, tCallS, tLst, tTup, tBM, tBM0, rAppend, rExtend, rPop, rReverse, tyV, rIxL, rIxT, rIxS, L2.start, List.map_cons, List.map_nil, List.length_cons, List.length_nil, List.replicate, List.cons_append, List.nil_append, List.append_nil, List.getElem?_cons_zero, List.getElem?_cons_succ, List.set_cons_zero, List.set_cons_succ, Nat.reduceAdd, Nat.reduceSub, Option.some.injEq, exists_eq_left', exists_eq_left, V.int.injEq, V.bl.injEq, V.str.injEq, V.ref.injEq, List.cons.injEq, and_true, true_and, and_assoc, reduceCtorEq, false_and, exists_false, or_false, false_or, exists_and_left, exists_const, scal, Int.reduceLT, Int.reduceLE, Int.reduceSub, Int.reduceAdd, Int.reduceNeg, if_true, if_false]
    refine ⟨Nat.zero_le _, fun p hp => ?_⟩
    refine FK.rd_for (J := Itl K a) (H1 := upd H p (.lst [])) (fun R r => ⟨_, rfl, a, rfl, ⟨_, (FK.same_new hp).seq hS⟩, r⟩) (walk_list (xs := ns.map V.int))
      (fun i σ H' => ∃ (ds : List Int) (sd : Int) (v3 v4 v5 v6 v7 : Option V), σ = [some (.ref a), some (.ref p), some (.int sd), v3, v4, v5, v6, v7] ∧ 0 ≤ sd ∧ sd < 2147483647 ∧ H' p = some (.lst (ds.map V.int)) ∧ ds.length ≤ 60 * i ∧ (∀ z ∈ ds, 0 ≤ z ∧ z < 1000) ∧ Same H H')
      ⟨[], 7, none, none, none, none, none, rfl, by omega, by omega, upd_same, by simp, by simp, FK.same_new hp⟩ (fun i σ H' _ ⟨_, _, _, _, _, _, _, _, _, _, _, _, _, e⟩ => e.seq hS) ?_ ?_
    · rintro i x σ H1 H2 hi ⟨ds, sd, v3, v4, v5, v6, v7, rfl, h0, h1, hd, hn, hz, hs⟩ ⟨rfl, hx⟩
      obtain ⟨n, rfl⟩ : ∃ n, x = V.int n := by
        rw [List.getElem?_map] at hx
        cases e : ns[i]? with
        | none => rw [e] at hx; cases hx
        | some z => rw [e] at hx; exact ⟨z, (Option.some.inj hx).symm⟩
      simp only [tSeq, tIfS, tOr, tAnd, tB, tTest, tCB, tCons, tVar, tC, tNil, tNot, tNotV, tRet, tRetN, tNext, tBreak, tOrV, tAndV, tOp, tUn, rEq, rNe, tChain, rI0, rI, rU, tAsg, gName, tDrop, tAug, ipI, tIf, tCall, tCallS, tLst, tTup, tBM, tBM0, rAppend, rExtend, rPop, rReverse, tyV, rIxL, rIxT, rIxS, L2.start, List.map_cons, List.map_nil, List.length_cons, List.length_nil, List.replicate, List.cons_append, List.nil_append, List.append_nil, List.getElem?_cons_zero, List.getElem?_cons_succ, List.set_cons_zero, List.set_cons_succ, Nat.reduceAdd, Nat.reduceSub, Option.some.injEq, exists_eq_left', exists_eq_left, V.int.injEq, V.bl.injEq, V.str.injEq, V.ref.injEq, List.cons.injEq, and_true, true_and, and_assoc, reduceCtorEq, false_and, exists_false, or_false, false_or, exists_and_left, exists_const, scal, Int.reduceLT, Int.reduceLE, Int.reduceSub, Int.reduceAdd, Int.reduceNeg, if_true, if_false]
      refine ⟨n, rfl, ?_⟩
      simp only [tSeq, tIfS, tOr, tAnd, tB, tTest, tCB, tCons, tVar, tC, tNil, tNot, tNotV, tRet, tRetN, tNext, tBreak, tOrV, tAndV, tOp, tUn, rEq, rNe, tChain, rI0, rI, rU, tAsg, gName, tDrop, tAug, ipI, tIf, tCall, tCallS, tLst, tTup, tBM, tBM0, rAppend, rExtend, rPop, rReverse, tyV, rIxL, rIxT, rIxS, L2.start, List.map_cons, List.map_nil, List.length_cons, List.length_nil, List.replicate, List.cons_append, List.nil_append, List.append_nil, List.getElem?_cons_zero, List.getElem?_cons_succ, List.set_cons_zero, List.set_cons_succ, Nat.reduceAdd, Nat.reduceSub, Option.some.injEq, exists_eq_left', exists_eq_left, V.int.injEq, V.bl.injEq, V.str.injEq, V.ref.injEq, List.cons.injEq, and_true, true_and, and_assoc, reduceCtorEq, false_and, exists_false, or_false, false_or, exists_and_left, exists_const, scal, Int.reduceLT, Int.reduceLE, Int.reduceSub, Int.reduceAdd, Int.reduceNeg, if_true, if_false]
      have hr0 : (0 : Int) ≤ (if n < 0 then -n else n) := by split <;> omega
      generalize (if n < 0 then -n else n) = rest at hr0 ⊢
      have hm : 0 ≤ (sd * 48271 + rest) % 2147483647 := Int.emod_nonneg _ (by decide)
      have hm2 : (sd * 48271 + rest) % 2147483647 < 2147483647 := Int.emod_lt_of_pos _ (by decide)
      generalize (sd * 48271 + rest) % 2147483647 = sd2 at hm hm2 ⊢
      refine ⟨.inr (by decide), ite2 (fun c => ?_) (fun c => ?_)⟩
      · refine FK.rd_for (J := Itr 0 60) (H1 := H2) (fun R r => ⟨60, rfl, by decide, by decide, r⟩) walk_range
          (fun j σ H' => ∃ (ds2 : List Int) (rest : Int) (v4 v6 v7 : Option V), σ = [some (.ref a), some (.ref p), some (.int sd2), some (.int n), v4, some (.int rest), v6, v7] ∧ H' p = some (.lst (ds2.map V.int)) ∧ ds2.length ≤ 60 * i + j ∧ (∀ z ∈ ds2, 0 ≤ z ∧ z < 1000) ∧ 0 ≤ rest ∧ Same H H')
          ⟨ds, rest, v4, v6, v7, rfl, hd, by omega, hz, hr0, hs⟩ (fun _ _ _ _ _ => trivial) ?_ ?_
        · rintro j x σ H3 H4 hj ⟨ds2, rest, v4, v6, v7, rfl, hd2, hn2, hz2, hr2, hs2⟩ ⟨rfl, rfl⟩
          simp only [tSeq, tIfS, tOr, tAnd, tB, tTest, tCB, tCons, tVar, tC, tNil, tNot, tNotV, tRet, tRetN, tNext, tBreak, tOrV, tAndV, tOp, tUn, rEq, rNe, tChain, rI0, rI, rU, tAsg, gName, tDrop, tAug, ipI, tIf, tCall, tCallS, tLst, tTup, tBM, tBM0, rAppend, rExtend, rPop, rReverse, tyV, rIxL, rIxT, rIxS, L2.start, List.map_cons, List.map_nil, List.length_cons, List.length_nil, List.replicate, List.cons_append, List.nil_append, List.append_nil, List.getElem?_cons_zero, List.getElem?_cons_succ, List.set_cons_zero, List.set_cons_succ, Nat.reduceAdd, Nat.reduceSub, Option.some.injEq, exists_eq_left', exists_eq_left, V.int.injEq, V.bl.injEq, V.str.injEq, V.ref.injEq, List.cons.injEq, and_true, true_and, and_assoc, reduceCtorEq, false_and, exists_false, or_false, false_or, exists_and_left, exists_const, scal, Int.reduceLT, Int.reduceLE, Int.reduceSub, Int.reduceAdd, Int.reduceNeg, if_true, if_false]
          refine ite2 (fun c => ?_) (fun c => ?_)
          · exact ⟨hm, hm2, ds2, hd2, by omega, hz2, hs2⟩
          · refine ⟨.inl ⟨_, SqL.of hd2⟩, _, hd2, ?_, ?_⟩
            · rw [List.length_map]
              exact Nat.lt_of_le_of_lt (Nat.le_trans hn2 (show 60 * i + j ≤ 8000 by rw [List.length_map] at hi; omega)) (by decide)
            · refine ⟨⟨by decide, by decide⟩, ds2 ++ [rest % 1000], ?_, ?_, ?_, ?_, ?_⟩
              · rw [upd_same, List.map_append]
                rfl
              · rw [List.length_append, List.length_singleton]
                omega
              · intro z hz3
                rcases List.mem_append.mp hz3 with hz3 | hz3
                · exact hz2 z hz3
                · rw [List.mem_singleton.mp hz3]
                  exact ⟨Int.emod_nonneg _ (by decide), Int.emod_lt_of_pos _ (by decide)⟩
              · exact Int.ediv_nonneg hr2 (by decide)
              · intro b o e
                rw [upd_ne (fun z => by rw [z, hp] at e; cases e)]
                exact hs2 b o e
        · rintro σ H3 ⟨ds2, rest, v4, v6, v7, rfl, hd2, hn2, hz2, hr2, hs2⟩
          exact ⟨ds2, sd2, _, _, _, _, _, rfl, hm, hm2, hd2, by omega, hz2, hs2⟩
      · refine ⟨.inr (by decide), .inr (by decide), .inl ⟨_, SqL.of hd⟩, by decide, fun r2 hr2 => ?_⟩
        have hpr : p ≠ r2 := fun z => by rw [z, hr2] at hd; cases hd
        have e1 : (0 : Int) ≤ rest % 1000 ∧ rest % 1000 < 1000 := ⟨Int.emod_nonneg _ (by decide), Int.emod_lt_of_pos _ (by decide)⟩
        have e2 : (0 : Int) ≤ (rest * 48271 + 11) % 2147483647 % 1000 ∧ (rest * 48271 + 11) % 2147483647 % 1000 < 1000 := ⟨Int.emod_nonneg _ (by decide), Int.emod_lt_of_pos _ (by decide)⟩
        have e3 : (0 : Int) ≤ ((rest * 48271 + 11) % 2147483647 * 69621 + rest) % 2147483629 % 1000 ∧ ((rest * 48271 + 11) % 2147483647 * 69621 + rest) % 2147483629 % 1000 < 1000 := ⟨Int.emod_nonneg _ (by decide), Int.emod_lt_of_pos _ (by decide)⟩
        refine ⟨ds.map V.int, by rw [upd_ne hpr]; exact hd, _, upd_same, ?_, hm, hm2, ds ++ [_, _, _], by rw [upd_same, List.map_append]; rfl, ?_, ?_, ?_⟩
        · rw [List.length_map]
          rw [List.length_map] at hi
          exact Nat.le_trans (show ds.length + 3 ≤ 8000 by omega) (by decide)
        · rw [List.length_append]
          show ds.length + 3 ≤ _
          omega
        · intro z hz3
          rcases List.mem_append.mp hz3 with hz3 | hz3
          · exact hz z hz3
          · simp only [List.mem_cons, List.not_mem_nil, or_false] at hz3
            rcases hz3 with rfl | rfl | rfl
            · exact e1
            · exact e2
            · exact e3
        · intro b o e
          rw [upd_ne (fun z => by rw [z, hp] at e; cases e)]
          exact FK.same_new hr2 b o (hs b o e)
    · rintro σ H1 ⟨ds, sd, v3, v4, v5, v6, v7, rfl, h0, h1, hd, hn, hz, hs⟩
      simp only [tSeq, tIfS, tOr, tAnd, tB, tTest, tCB, tCons, tVar, tC, tNil, tNot, tNotV, tRet, tRetN, tNext, tBreak, tOrV, tAndV, tOp, tUn, rEq, rNe, tChain, rI0, rI, rU, tAsg, gName, tDrop, tAug, ipI, tIf, tCall, tCallS, tLst, tTup, tBM, tBM0, rAppend, rExtend, rPop, rReverse, tyV, rIxL, rIxT, rIxS, L2.start, List.map_cons, List.map_nil, List.length_cons, List.length_nil, List.replicate, List.cons_append, List.nil_append, List.append_nil, List.getElem?_cons_zero, List.getElem?_cons_succ, List.set_cons_zero, List.set_cons_succ, Nat.reduceAdd, Nat.reduceSub, Option.some.injEq, exists_eq_left', exists_eq_left, V.int.injEq, V.bl.injEq, V.str.injEq, V.ref.injEq, List.cons.injEq, and_true, true_and, and_assoc, reduceCtorEq, false_and, exists_false, or_false, false_or, exists_and_left, exists_const, scal, Int.reduceLT, Int.reduceLE, Int.reduceSub, Int.reduceAdd, Int.reduceNeg, if_true, if_false]
      refine FK.rd_for (J := Itr 0 200) (H1 := H1) (fun R r => ⟨200, rfl, by decide, by decide, r⟩) walk_range
        (fun j σ H' => ∃ (ds : List Int) (sd : Int) (v3 v4 v5 v6 v7 : Option V), σ = [some (.ref a), some (.ref p), some (.int sd), v3, v4, v5, v6, v7] ∧ 0 ≤ sd ∧ sd < 2147483647 ∧ H' p = some (.lst (ds.map V.int)) ∧ ds.length ≤ 3780 + j ∧ (∀ z ∈ ds, 0 ≤ z ∧ z < 1000) ∧ Same H H')
        ⟨ds, sd, v3, v4, v5, v6, v7, rfl, h0, h1, hd, by rw [List.length_map] at hn; omega, hz, hs⟩ (fun _ _ _ _ _ => trivial) ?_ ?_
      · rintro j x σ H3 H4 hj ⟨ds2, sd, v3, v4, v5, v6, v7, rfl, h0, h1, hd2, hn2, hz2, hs2⟩ ⟨rfl, rfl⟩
        simp only [tSeq, tIfS, tOr, tAnd, tB, tTest, tCB, tCons, tVar, tC, tNil, tNot, tNotV, tRet, tRetN, tNext, tBreak, tOrV, tAndV, tOp, tUn, rEq, rNe, tChain, rI0, rI, rU, tAsg, gName, tDrop, tAug, ipI, tIf, tCall, tCallS, tLst, tTup, tBM, tBM0, rAppend, rExtend, rPop, rReverse, tyV, rIxL, rIxT, rIxS, L2.start, List.map_cons, List.map_nil, List.length_cons, List.length_nil, List.replicate, List.cons_append, List.nil_append, List.append_nil, List.getElem?_cons_zero, List.getElem?_cons_succ, List.set_cons_zero, List.set_cons_succ, Nat.reduceAdd, Nat.reduceSub, Option.some.injEq, exists_eq_left', exists_eq_left, V.int.injEq, V.bl.injEq, V.str.injEq, V.ref.injEq, List.cons.injEq, and_true, true_and, and_assoc, reduceCtorEq, false_and, exists_false, or_false, false_or, exists_and_left, exists_const, scal, Int.reduceLT, Int.reduceLE, Int.reduceSub, Int.reduceAdd, Int.reduceNeg, if_true, if_false]
        have hm : 0 ≤ (sd * 48271 + 12345) % 2147483647 := Int.emod_nonneg _ (by decide)
        have hm2 : (sd * 48271 + 12345) % 2147483647 < 2147483647 := Int.emod_lt_of_pos _ (by decide)
        generalize (sd * 48271 + 12345) % 2147483647 = sd2 at hm hm2 ⊢
        refine ⟨.inr (by decide), .inl ⟨_, SqL.of hd2⟩, ⟨by decide, by decide⟩, _, hd2, ?_, hm, hm2, ds2 ++ [sd2 / 7 % 1000], ?_, ?_, ?_, ?_⟩
        · rw [List.length_map]
          exact Nat.lt_of_le_of_lt (show ds2.length ≤ 8000 by omega) (by decide)
        · rw [upd_same, List.map_append]
          rfl
        · rw [List.length_append, List.length_singleton]
          omega
        · intro z hz3
          rcases List.mem_append.mp hz3 with hz3 | hz3
          · exact hz2 z hz3
          · rw [List.mem_singleton.mp hz3]
            exact ⟨Int.emod_nonneg _ (by decide), Int.emod_lt_of_pos _ (by decide)⟩
        · intro b o e
          rw [upd_ne (fun z => by rw [z, hp] at e; cases e)]
          exact hs2 b o e
      · rintro σ H3 ⟨ds2, sd, v3, v4, v5, v6, v7, rfl, h0, h1, hd2, hn2, hz2, hs2⟩
        simp only [tSeq, tIfS, tOr, tAnd, tB, tTest, tCB, tCons, tVar, tC, tNil, tNot, tNotV, tRet, tRetN, tNext, tBreak, tOrV, tAndV, tOp, tUn, rEq, rNe, tChain, rI0, rI, rU, tAsg, gName, tDrop, tAug, ipI, tIf, tCall, tCallS, tLst, tTup, tBM, tBM0, rAppend, rExtend, rPop, rReverse, tyV, rIxL, rIxT, rIxS, L2.start, List.map_cons, List.map_nil, List.length_cons, List.length_nil, List.replicate, List.cons_append, List.nil_append, List.append_nil, List.getElem?_cons_zero, List.getElem?_cons_succ, List.set_cons_zero, List.set_cons_succ, Nat.reduceAdd, Nat.reduceSub, Option.some.injEq, exists_eq_left', exists_eq_left, V.int.injEq, V.bl.injEq, V.str.injEq, V.ref.injEq, List.cons.injEq, and_true, true_and, and_assoc, reduceCtorEq, false_and, exists_false, or_false, false_or, exists_and_left, exists_const, scal, Int.reduceLT, Int.reduceLE, Int.reduceSub, Int.reduceAdd, Int.reduceNeg, if_true, if_false]
        refine ⟨.inl ⟨_, SqL.of hd2⟩, _, hd2, q p _ hp ⟨ds2.reverse, by rw [upd_same, List.map_reverse], by rw [List.length_reverse]; omega, fun z hz3 => hz2 z (List.mem_reverse.mp hz3)⟩ ?_⟩
        intro b o e
        rw [upd_ne (fun z => by rw [z, hp] at e; cases e)]
        exact hs2 b o e

theorem Dr.same {H H' : Hp} {d : Addr} (h : Dr H d) (s : Same H H') : Dr H' d := by
  obtain ⟨ds, h1, h2⟩ := h
  exact ⟨ds, s _ _ h1, h2⟩
theorem Dr.ne {H : Hp} {d p : Addr} (h : Dr H d) (n : H p = none) : p ≠ d := fun z => by
  obtain ⟨ds, h1, _⟩ := h
  rw [← z, n] at h1
  cases h1
theorem atI_mem {cs : List V} {r : Int} (h0 : 0 ≤ r) (h1 : r < cs.length) : ∃ v, atI cs r = some v ∧ v ∈ cs := by
  obtain ⟨k, rfl⟩ := Int.eq_ofNat_of_zero_le h0
  have hk : k < cs.length := by omega
  exact ⟨cs[k], atI_nat (List.getElem?_eq_getElem hk), List.getElem_mem hk⟩
/-- an item of a written menu, drawn -/
theorem rd_menu {cs : List V} {m : Int} {d : Addr} {σ : L2.St} {H : Hp} {Q : VK} {ta : TA} {i : Nat} (hσ : σ[i]? = some (some (.ref d))) (ht : ∀ R : List V → Hp → Prop, R cs H → ta σ H R) (hm : m = cs.length) (h0 : 0 < m) (hz : cs.length ≤ sizeLine) (hd : Dr H d)
    (go : ∀ v H', v ∈ cs → Dr H' d → FK.But d H H' → Q v H') : tOp (rIxL K) (tLst ta) (tCall spPick [] E0 (tCons (tVar i) (tCons (tC (.int m)) tNil))) σ H Q := by
  refine ht _ ⟨hz, fun p hp => ⟨_, hσ, d, m, rfl, hd.same (FK.same_new hp), h0, fun r H' r0 r1 hd' hb => ?_⟩⟩
  obtain ⟨v, hv, hm2⟩ := atI_mem (cs := cs) r0 (by omega)
  have hp' : H' p = some (.lst cs) := hb p _ (hd.ne hp) upd_same
  exact ⟨p, cs, r, v, rfl, rfl, SqL.of hp', hv, go v H' hm2 hd' fun b o n e => hb b o n (FK.same_new hp b o e)⟩
/-- a sign of a written text, drawn -/
theorem rd_sign {z : Str} {m : Int} {d : Addr} {σ : L2.St} {H : Hp} {Q : VK} {i : Nat} (hσ : σ[i]? = some (some (.ref d))) (hm : m = z.cps.toList.length) (h0 : 0 < m) (hz : z.length ≤ sizeLine) (hd : Dr H d)
    (go : ∀ c H', c ∈ z.cps.toList → Dr H' d → FK.But d H H' → Q (.str ⟨#[c]⟩) H') : tOp rIxS (tC (.str z)) (tCall spPick [] E0 (tCons (tVar i) (tCons (tC (.int m)) tNil))) σ H Q := by
  refine ⟨_, hσ, d, m, rfl, hd, h0, fun r H' r0 r1 hd' hb => ?_⟩
  obtain ⟨k, rfl⟩ := Int.eq_ofNat_of_zero_le r0
  have hk : k < z.cps.toList.length := by omega
  exact ⟨z, k, z.cps.toList[k], rfl, rfl, hz, atI_nat (List.getElem?_eq_getElem hk), go _ H' (List.getElem_mem hk) hd' hb⟩
theorem Dr.at {H : Hp} {d p : Addr} {o : HO} (h : Dr H d) (n : p ≠ d) : Dr (upd H p o) d := by
  obtain ⟨ds, h1, h2⟩ := h
  exact ⟨ds, by rw [upd_ne (fun z => n z.symm)]; exact h1, h2⟩
theorem but_at {H H' : Hp} {d p : Addr} {o : HO} (n : H p = none) (h : FK.But d H H') : FK.But d H (upd H' p o) := fun b u hb e => by
  rw [upd_ne (fun z => by rw [z, n] at e; cases e)]
  exact h b u hb e
/-- a list of drawn things -/
theorem rd_drawn {n : Nat} {d : Addr} {i : Nat} {te : TE} {vs : List Nat} {σ : L2.St} {H : Hp} {Q : VK} {wi : TI} (Pz : V → Prop) (hw : ∀ R : It → Hp → Prop, R (Itr 0 n) H → wi σ H R) (hn : n < sizeLine) (hd : Dr H d) (hv : ∀ x, wipe ((wipe σ vs).set i (some x)) vs = wipe σ vs)
    (hs : ∀ x H' (R : VK), Dr H' d → (∀ v H'', Pz v → Dr H'' d → FK.But d H' H'' → R v H'') → te ((wipe σ vs).set i (some x)) H' R)
    (go : ∀ D zs H', H D = none → zs.length = n → (∀ z ∈ zs, Pz z) → Dr H' d → FK.But d H H' → H' D = some (.lst zs) → Q (.ref D) H') : tLc wi (gName i) tYes te vs σ H Q := by
  refine FK.rd_lc (J := Itr 0 n) (H1 := H) hw walk_range (fun j acc H' => (∀ z ∈ acc, Pz z) ∧ Dr H' d ∧ FK.But d H H') (fun D hD => ⟨fun z hz => (nomatch hz), hd.at (hd.ne hD), but_at hD .refl⟩) ?_ (fun _ _ _ _ _ => trivial) hn hv ?_ ?_
  · rintro D j acc y H' hD hD2 ⟨h1, h2, h3⟩
    exact ⟨h1, h2.at (hd.ne hD), but_at hD h3⟩
  · rintro D j x acc H' H'' R hD hj ha ⟨h1, h2, h3⟩ hD2 ⟨rfl, rfl⟩ fin
    refine hs _ H'' R h2 fun v H4 hv4 hd4 hb4 => ?_
    refine fin v H4 (hb4 D _ (hd.ne hD) hD2) ⟨fun z hz => ?_, hd4, h3.trans hb4⟩
    rcases List.mem_append.mp hz with hz | hz
    · exact h1 z hz
    · rw [List.mem_singleton.mp hz]
      exact hv4
  · rintro D acc H' hD ha ⟨h1, h2, h3⟩ hD2
    exact go D acc H' hD ha h1 h2 h3 hD2
theorem ints_of {p : Int → Prop} : ∀ {zs : List V}, (∀ z ∈ zs, ∃ n : Int, z = .int n ∧ p n) → ∃ ns : List Int, zs = ns.map V.int ∧ ∀ n ∈ ns, p n
  | [], _ => ⟨[], rfl, fun _ h => nomatch h⟩
  | z :: zs, h => by
    obtain ⟨n, rfl, hn⟩ := h z List.mem_cons_self
    obtain ⟨ns, rfl, hns⟩ := ints_of fun z hz => h z (List.mem_cons_of_mem _ hz)
    exact ⟨n :: ns, rfl, fun m hm => by
      rcases List.mem_cons.mp hm with rfl | hm
      · exact hn
      · exact hns m hm⟩
/-- a list of drawn things, its length drawn -/
theorem rd_drawn2 {d : Addr} {i : Nat} {te : TE} {vs : List Nat} {σ : L2.St} {H : Hp} {Q : VK} {wi : TI} (Pz : V → Prop) (PN : Nat → Prop) (hw : ∀ R : It → Hp → Prop, (∀ n H1, PN n → Dr H1 d → FK.But d H H1 → R (Itr 0 n) H1) → wi σ H R) (hn : ∀ n, PN n → n < sizeLine) (hv : ∀ x, wipe ((wipe σ vs).set i (some x)) vs = wipe σ vs)
    (hs : ∀ x H' (R : VK), Dr H' d → (∀ v H'', Pz v → Dr H'' d → FK.But d H' H'' → R v H'') → te ((wipe σ vs).set i (some x)) H' R)
    (go : ∀ n D zs H', PN n → zs.length = n → (∀ z ∈ zs, Pz z) → Dr H' d → FK.But d H H' → H' D = some (.lst zs) → Q (.ref D) H') : tLc wi (gName i) tYes te vs σ H Q :=
  hw _ fun n H1 pn hd hb => rd_drawn (wi := fun _ H R => R (Itr 0 n) H) (H := H1) (Q := Q) (te := te) (vs := vs) (σ := σ) (i := i) Pz (fun _ h => h) (hn n pn) hd hv hs fun D zs H' _ hl hz hd' hb' hD => go n D zs H' pn hl hz hd' (hb.trans hb') hD

open P13
def spPoly (K : PySem.W.Frag) : Sp := fun vs H Q _ => ∃ (d : Addr) (m : Int), vs = [.ref d, .int m] ∧ Dr H d ∧ 0 ≤ m ∧ m ≤ 100 ∧ ∀ D xs H', H D = none → Pol xs → (∀ z ∈ xs, z.natAbs ≤ 4) → (xs.length : Int) ≤ m → Dr H' d → FK.But d H H' → H' D = some (.lst (xs.map V.int)) → Q (.ref D) H'
theorem ok_law_polynomial (T : Txt K mg cx) : FK.Has P w K mg base CX0 3 "_law_polynomial" ["draws", "many"] (spPoly K) := by
  have H_law_trimmed := ok_law_trimmed (P := P) (w := w) (base := base) T
  have H_law_pick := ok_law_pick (P := P) (w := w) (base := base) T
  refine T.d_law_polynomial.ok sc_law_polynomial (fun vs H Q E h => ?_) (fun f cdv A outer s H vs Q E hr h => ?_)
  · obtain ⟨d, m, rfl, _⟩ := h
    rfl
  · obtain ⟨d, m, rfl, hD, h0, h1, fin⟩ := h
    refine ⟨_, (pss_one (ps_ret (FK.pe_h (E := E0) H_law_trimmed (hr.mono (by decide)) pass0 (pa_cons (pe_lc (own := [("k", 2)]) (g := gName 2) (tt := tYes) rfl sc_law_polynomial.nd (pi_range1 rfl T.n_range (pa_cons (FK.pe_h (E := E0) H_law_pick (hr.mono (by decide)) pass0 (pa_cons (pv 0) (pa_cons (pe_op op_add (pv 1) pe_int) pa_nil))) pa_nil)) (blkOk_by (own := [("k", 2)]) (N := ["draws", "many", "k"]) (sc := defScope s_law_polynomial) (by decide +kernel)) (fun _ _ _ _ _ => (pg_name (i := 2) sc_law_polynomial.nd rfl (Or.inl rfl))) (fun _ _ _ _ _ => pts_nil) (fun _ _ _ _ _ => (pe_op op_sub (FK.pe_h (E := E0) H_law_pick (hr.mono (by decide)) pass0 (pa_cons (pv 0) (pa_cons pe_int pa_nil))) pe_int))) pa_nil)))), ?_⟩
    simp only [tSeq, tIfS, tOr, tAnd, tB, tTest, tCB, tCons, tVar, tC, tNil, tNot, tNotV, tRet, tRetN, tNext, tBreak, tOrV, tAndV, tOp, tUn, rEq, rNe, tChain, rI0, rI, rU, tAsg, gName, tDrop, tAug, ipI, tIf, tCall, tCallS, tLst, tTup, tBM, tBM0, rAppend, rExtend, rPop, rReverse, tyV, rIxL, rIxT, rIxS, L2.start, List.map_cons, List.map_nil, List.length_cons, List.length_nil, List.replicate, List.cons_append, List.nil_append, List.append_nil, List.getElem?_cons_zero, List.getElem?_cons_succ, List.set_cons_zero, List.set_cons_succ, Nat.reduceAdd, Nat.reduceSub, Option.some.injEq, exists_eq_left', exists_eq_left, V.int.injEq, V.bl.injEq, V.str.injEq, V.ref.injEq, List.cons.injEq, and_true, true_and, and_assoc, reduceCtorEq, false_and, exists_false, or_false, false_or, exists_and_left, exists_const, scal, Int.reduceLT, Int.reduceLE, Int.reduceSub, Int.reduceAdd, Int.reduceNeg, if_true, if_false]
    refine rd_drawn2 (d := d) (fun v => ∃ z : Int, v = .int z ∧ (-4 ≤ z ∧ z ≤ 4)) (fun n => (n : Int) ≤ m) (fun R r0 => ?_) (fun n hn => by show n < 16777216; omega) (fun _ => rfl) ?_ ?_
    · simp only [tSeq, tIfS, tOr, tAnd, tB, tTest, tCB, tCons, tVar, tC, tNil, tNot, tNotV, tRet, tRetN, tNext, tBreak, tOrV, tAndV, tOp, tUn, rEq, rNe, tChain, rI0, rI, rU, tAsg, gName, tDrop, tAug, ipI, tIf, tCall, tCallS, tLst, tTup, tBM, tBM0, rAppend, rExtend, rPop, rReverse, tyV, rIxL, rIxT, rIxS, L2.start, List.map_cons, List.map_nil, List.length_cons, List.length_nil, List.replicate, List.cons_append, List.nil_append, List.append_nil, List.getElem?_cons_zero, List.getElem?_cons_succ, List.set_cons_zero, List.set_cons_succ, Nat.reduceAdd, Nat.reduceSub, Option.some.injEq, exists_eq_left', exists_eq_left, V.int.injEq, V.bl.injEq, V.str.injEq, V.ref.injEq, List.cons.injEq, and_true, true_and, and_assoc, reduceCtorEq, false_and, exists_false, or_false, false_or, exists_and_left, exists_const, scal, Int.reduceLT, Int.reduceLE, Int.reduceSub, Int.reduceAdd, Int.reduceNeg, if_true, if_false, iRng1]
      exact ⟨d, m + 1, rfl, hD, by omega, fun r H' a0 a1 hd hb => ⟨r, rfl, by omega, by omega, r0 r.toNat H' (by omega) hd hb⟩⟩
    · intro x H' R hd' go
      refine ⟨_, rfl, d, 9, rfl, hd', by decide, fun r H'' r0 r1 hd'' hb => ?_⟩
      exact ⟨r, 4, rfl, rfl, go _ H'' ⟨r - 4, rfl, by omega, by omega⟩ hd'' hb⟩
    · intro n D zs H' hn hzl hz hd' hb' hL
      obtain ⟨ms, rfl, hms⟩ := ints_of hz
      rw [List.length_map] at hzl
      refine ⟨D, ms, rfl, .inl (.inl hL), by omega, fun p hp => ?_⟩
      have hpd := hd'.ne hp
      have hp0 : H p = none := by
        cases e : H p with
        | none => rfl
        | some u => rw [hb' p u hpd e] at hp; cases hp
      have tl := trim_length_le ms
      refine fin p (trim ms) _ hp0 (pol_trim _ _ (Nat.le_refl _)) (fun z hz => ?_) (by omega) (hd'.at hpd) (but_at hp0 hb') upd_same
      have := hms z (trim_sub hz)
      omega
def spTold (K : PySem.W.Frag) : Sp := fun vs H Q _ => ∃ (way : Int) (t a b : Addr) (xs ys : List Int) (n : Int), vs = [.int way, .ref t, .int n] ∧ SqT K H t [.ref a, .ref b] ∧ SqL K H a (xs.map V.int) ∧ SqL K H b (ys.map V.int) ∧ (okFrac xs ys = true → CInv xs ys ∧ Bd 6 xs ∧ Bd 6 ys) ∧
  (okFrac xs ys = false → ∀ H', Same H H' → Q (.str "series") H') ∧
  (okFrac xs ys = true → way = 0 → ¬ (0 ≤ n ∧ n ≤ 200) → ∀ H', Same H H' → Q (.str "number") H') ∧
  (∀ m : Nat, n = m → okFrac xs ys = true → way = 0 → n ≤ 200 → ∀ D H', H D = none → Same H H' → H' D = some (.lst ((ser xs ys (m + 1)).map V.int)) → Q (.ref D) H') ∧
  (okFrac xs ys = true → way ≠ 0 → ∀ H', Same H H' → Q (.bl (decide ((comF 200 xs ys).length = 1))) H')
theorem ok_law_told (T : Txt K mg cx) : FK.Has P w K mg base CX0 6 "_law_told" ["way", "fraction", "n"] (spTold K) := by
  have H_expand := ok_expand (P := P) (w := w) (base := base) T
  have H_is_reduced := ok_is_reduced (P := P) (w := w) (base := base) T
  refine T.d_law_told.ok sc_law_told (fun vs H Q E h => ?_) (fun f cdv A outer s H vs Q E hr h => ?_)
  · obtain ⟨way, t, a, b, xs, ys, n, rfl, _⟩ := h
    rfl
  · obtain ⟨way, t, a, b, xs, ys, n, rfl, hT, hX, hY, hsz, qS, qN, qE, qR⟩ := h
    refine ⟨_, (pss_one (ps_try_as (i := 3) rfl rfl sc_law_told.nd rfl rfl ⟨rfl, by decide, .inl T.x_FoldError.g⟩ takes0 (fun W pn xe tk po => (pss_cons (ps_if (pt_cmpR op_eq (pv 0) pe_int (nomark _)) (pss_one (ps_ret (FK.pe_hS H_expand (hr.mono (by decide)) (fun σ => passAt tk σ) (pa_cons (pv 1) (pa_cons (pv 2) pa_nil))))) pss_nil)
  (pss_one (ps_ret (FK.pe_hS H_is_reduced (hr.mono (by decide)) (fun σ => passAt tk σ) (pa_cons (pv 1) pa_nil)))))) (fun a oe cls dd pn hz hf => (pss_cons (ps_if (PW.pt (pw_and (pt_val (pe_callB (FK.call_isEx hz hf) (by rfl) T.n_isinstance (by decide +kernel) (pa_cons (pv 3) (pa_cons (pe_glob (v := .ref cx.NotSeries) rfl T.x_NotSeries.g rfl) pa_nil)))) (pw_and1 (pt_not (pt_val (pe_callB (FK.call_isEx hz hf) (by rfl) T.n_isinstance (by decide +kernel) (pa_cons (pv 3) (pa_cons (pe_glob (v := .ref cx.BadNumber) rfl T.x_BadNumber.g rfl) pa_nil)))))))) (pss_one (ps_ret pe_str)) pss_nil)
  (pss_cons (ps_if (PW.pt (pw_and (pt_val (pe_callB (FK.call_isEx hz hf) (by rfl) T.n_isinstance (by decide +kernel) (pa_cons (pv 3) (pa_cons (pe_glob (v := .ref cx.BadNumber) rfl T.x_BadNumber.g rfl) pa_nil)))) (pw_and1 (pt_not (pt_val (pe_callB (FK.call_isEx hz hf) (by rfl) T.n_isinstance (by decide +kernel) (pa_cons (pv 3) (pa_cons (pe_glob (v := .ref cx.NotSeries) rfl T.x_NotSeries.g rfl) pa_nil)))))))) (pss_one (ps_ret pe_str)) pss_nil)
  (pss_one (ps_ret pe_str))))))), ?_⟩
    simp only [tSeq, tIfS, tOr, tAnd, tB, tTest, tCB, tCons, tVar, tC, tNil, tNot, tNotV, tRet, tRetN, tNext, tBreak, tOrV, tAndV, tOp, tUn, rEq, rNe, tChain, rI0, rI, rU, tAsg, gName, tDrop, tAug, ipI, tIf, tCall, tCallS, tLst, tTup, tBM, tBM0, rAppend, rExtend, rPop, rReverse, tyV, rIxL, rIxT, rIxS, L2.start, List.map_cons, List.map_nil, List.length_cons, List.length_nil, List.replicate, List.cons_append, List.nil_append, List.append_nil, List.getElem?_cons_zero, List.getElem?_cons_succ, List.set_cons_zero, List.set_cons_succ, Nat.reduceAdd, Nat.reduceSub, Option.some.injEq, exists_eq_left', exists_eq_left, V.int.injEq, V.bl.injEq, V.str.injEq, V.ref.injEq, List.cons.injEq, and_true, true_and, and_assoc, reduceCtorEq, false_and, exists_false, or_false, false_or, exists_and_left, exists_const, scal, Int.reduceLT, Int.reduceLE, Int.reduceSub, Int.reduceAdd, Int.reduceNeg, if_true, if_false]
    refine ite2 (fun c => ?_) (fun c => ?_)
    · have ew := of_decide_eq_true c
      subst ew
      refine ⟨t, a, b, xs, ys, n, rfl, hT, hX, hY, fun ok => ⟨(hsz ok).2.1, (hsz ok).2.2, (hsz ok).1.2.1⟩, fun ok H1 s1 => ?_, fun ok hn H1 s1 => ?_, fun m hm ok hn => qE m hm ok rfl hn⟩
      · have q2 := qS ok H1 s1
        refine ⟨true, T.exm_NotSeries, fun _ b hb => ?_, fun z => nomatch z⟩
        simp only [tSeq, tIfS, tOr, tAnd, tB, tTest, tCB, tCons, tVar, tC, tNil, tNot, tNotV, tRet, tRetN, tNext, tBreak, tOrV, tAndV, tOp, tUn, rEq, rNe, tChain, rI0, rI, rU, tAsg, gName, tDrop, tAug, ipI, tIf, tCall, tCallS, tLst, tTup, tBM, tBM0, rAppend, rExtend, rPop, rReverse, tyV, rIxL, rIxT, rIxS, L2.start, List.map_cons, List.map_nil, List.length_cons, List.length_nil, List.replicate, List.cons_append, List.nil_append, List.append_nil, List.getElem?_cons_zero, List.getElem?_cons_succ, List.set_cons_zero, List.set_cons_succ, Nat.reduceAdd, Nat.reduceSub, Option.some.injEq, exists_eq_left', exists_eq_left, V.int.injEq, V.bl.injEq, V.str.injEq, V.ref.injEq, List.cons.injEq, and_true, true_and, and_assoc, reduceCtorEq, false_and, exists_false, or_false, false_or, exists_and_left, exists_const, scal, Int.reduceLT, Int.reduceLE, Int.reduceSub, Int.reduceAdd, Int.reduceNeg, if_true, if_false, rIsE]
        refine ⟨_, rfl, T.x_NotSeries.e, _, fun u r => r, _, T.kit_NotSeries_NotSeries, iteT ⟨_, rfl, T.x_NotSeries.e, _, fun u r => r, _, T.kit_NotSeries_BadNumber, ?_⟩⟩
        exact iteT q2
      · have q2 := qN ok rfl hn H1 s1
        refine ⟨true, T.exm_BadNumber, fun _ b hb => ?_, fun z => nomatch z⟩
        simp only [tSeq, tIfS, tOr, tAnd, tB, tTest, tCB, tCons, tVar, tC, tNil, tNot, tNotV, tRet, tRetN, tNext, tBreak, tOrV, tAndV, tOp, tUn, rEq, rNe, tChain, rI0, rI, rU, tAsg, gName, tDrop, tAug, ipI, tIf, tCall, tCallS, tLst, tTup, tBM, tBM0, rAppend, rExtend, rPop, rReverse, tyV, rIxL, rIxT, rIxS, L2.start, List.map_cons, List.map_nil, List.length_cons, List.length_nil, List.replicate, List.cons_append, List.nil_append, List.append_nil, List.getElem?_cons_zero, List.getElem?_cons_succ, List.set_cons_zero, List.set_cons_succ, Nat.reduceAdd, Nat.reduceSub, Option.some.injEq, exists_eq_left', exists_eq_left, V.int.injEq, V.bl.injEq, V.str.injEq, V.ref.injEq, List.cons.injEq, and_true, true_and, and_assoc, reduceCtorEq, false_and, exists_false, or_false, false_or, exists_and_left, exists_const, scal, Int.reduceLT, Int.reduceLE, Int.reduceSub, Int.reduceAdd, Int.reduceNeg, if_true, if_false, rIsE]
        refine ⟨_, rfl, T.x_BadNumber.e, _, fun u r => r, _, T.kit_BadNumber_NotSeries, iteF ⟨_, rfl, T.x_BadNumber.e, _, fun u r => r, _, T.kit_BadNumber_BadNumber, iteT ⟨_, rfl, T.x_BadNumber.e, _, fun u r => r, _, T.kit_BadNumber_NotSeries, ?_⟩⟩⟩
        exact iteT q2
    · have ew : way ≠ 0 := fun z => c (decide_eq_true z)
      refine ⟨t, a, b, xs, ys, rfl, hT, hX, hY, fun ok => (hsz ok).1, fun ok H1 s1 => ?_, fun ok H1 s1 => qR ok ew H1 s1⟩
      have q2 := qS ok H1 s1
      refine ⟨true, T.exm_NotSeries, fun _ b hb => ?_, fun z => nomatch z⟩
      simp only [tSeq, tIfS, tOr, tAnd, tB, tTest, tCB, tCons, tVar, tC, tNil, tNot, tNotV, tRet, tRetN, tNext, tBreak, tOrV, tAndV, tOp, tUn, rEq, rNe, tChain, rI0, rI, rU, tAsg, gName, tDrop, tAug, ipI, tIf, tCall, tCallS, tLst, tTup, tBM, tBM0, rAppend, rExtend, rPop, rReverse, tyV, rIxL, rIxT, rIxS, L2.start, List.map_cons, List.map_nil, List.length_cons, List.length_nil, List.replicate, List.cons_append, List.nil_append, List.append_nil, List.getElem?_cons_zero, List.getElem?_cons_succ, List.set_cons_zero, List.set_cons_succ, Nat.reduceAdd, Nat.reduceSub, Option.some.injEq, exists_eq_left', exists_eq_left, V.int.injEq, V.bl.injEq, V.str.injEq, V.ref.injEq, List.cons.injEq, and_true, true_and, and_assoc, reduceCtorEq, false_and, exists_false, or_false, false_or, exists_and_left, exists_const, scal, Int.reduceLT, Int.reduceLE, Int.reduceSub, Int.reduceAdd, Int.reduceNeg, if_true, if_false, rIsE]
      refine ⟨_, rfl, T.x_NotSeries.e, _, fun u r => r, _, T.kit_NotSeries_NotSeries, iteT ⟨_, rfl, T.x_NotSeries.e, _, fun u r => r, _, T.kit_NotSeries_BadNumber, ?_⟩⟩
      exact iteT q2

end
end K13

namespace K13
open PySem PySem.Spec PyProof.Rows L2
section
variable {P : Program} {w : World} {K : PySem.W.Frag} {mg : Str → Option Value} {base : Heap} {cx : Xs}
open P13
def Gd (xs ys : List Int) : Prop := Pol xs ∧ Pol ys ∧ ys.head? = some 1 ∧ xs.length ≤ 8 ∧ ys.length ≤ 8 ∧ Bd 6 xs ∧ Bd 6 ys
def Fr (H : Hp) (d a b : Addr) (xs ys : List Int) : Prop := Dr H d ∧ H a = some (.lst (xs.map V.int)) ∧ H b = some (.lst (ys.map V.int)) ∧ a ≠ d ∧ b ≠ d
theorem Fr.but {H H' : Hp} {d a b : Addr} {xs ys : List Int} (h : Fr H d a b xs ys) (hd : Dr H' d) (hb : FK.But d H H') : Fr H' d a b xs ys := ⟨hd, hb _ _ h.2.2.2.1 h.2.1, hb _ _ h.2.2.2.2 h.2.2.1, h.2.2.2.1, h.2.2.2.2⟩
theorem Fr.same {H H' : Hp} {d a b : Addr} {xs ys : List Int} (h : Fr H d a b xs ys) (s : Same H H') : Fr H' d a b xs ys := h.but (h.1.same s) (FK.But.of s)
def Sm (xs : List Int) : Prop := ∀ z ∈ xs, z.natAbs ≤ 4
/-- [1] + a drawn polynomial, trimmed -/
theorem rd_one {d : Addr} {m : Int} {σ : L2.St} {H : Hp} {Q : VK} (hσ : σ[1]? = some (some (.ref d))) (hd : Dr H d) (h0 : 0 ≤ m) (h1 : m ≤ 100) (go : ∀ p ys H', H p = none → Pol ys → Sm ys → (ys.length : Int) ≤ m → Dr H' d → FK.But d H H' → p ≠ d → H' p = some (.lst ((1 :: ys).map V.int)) → Q (.ref p) H') :
    tCall (spTrimmed K) [] E0 (tCons (tOp rCat (tLst (tCons (tC (V.int 1)) tNil)) (tCall (spPoly K) [] E0 (tCons (tVar 1) (tCons (tC (V.int m)) tNil)))) tNil) σ H Q := by
  refine ⟨by decide, fun p hp => ⟨_, hσ, d, m, rfl, hd.same (FK.same_new hp), h0, h1, fun D ys H1 hD py sy ly hd1 hb1 hL => ?_⟩⟩
  have hpd := hd.ne hp
  have hDp : H1 p = some (.lst [.int 1]) := hb1 _ _ hpd upd_same
  refine ⟨p, D, _, _, rfl, rfl, hDp, hL, ?_, fun q hq => ⟨q, 1 :: ys, rfl, .inl (.inl upd_same), ?_, fun r hr => ?_⟩⟩
  · rw [List.length_map]
    show 1 + ys.length ≤ 16777216
    omega
  · rw [List.length_cons]
    omega
  · rw [trim_pol (pol_cons py)]
    have hqd := hd1.ne hq
    have hd2 : Dr (upd H1 q (.lst ((1 :: ys).map V.int))) d := hd1.at hqd
    have hrd := hd2.ne hr
    have hb2 : FK.But d H (upd H1 q (.lst ((1 :: ys).map V.int))) := but_at (by
      cases e : H q with
      | none => rfl
      | some u =>
        have := hb1 q u hqd (FK.same_new hp _ _ e)
        rw [hq] at this
        cases this) fun b o n e => hb1 b o n (FK.same_new hp b o e)
    replace hr : upd H1 q (.lst ((1 :: ys).map V.int)) r = none := hr
    have hr0 : H r = none := by
      cases e : H r with
      | none => rfl
      | some u => rw [hb2 r u hrd e] at hr; cases hr
    exact go r ys _ hr0 py sy ly (hd2.at hrd) (but_at hr0 hb2) hrd upd_same
def BadT (H : Hp) (d : Addr) (t : V) : Prop := ∃ (tt pa pb : Addr) (zs ws : List Int), t = .ref tt ∧ H tt = some (.tup [.ref pa, .ref pb]) ∧ H pa = some (.lst (zs.map V.int)) ∧ H pb = some (.lst (ws.map V.int)) ∧ okFrac zs ws = false ∧ tt ≠ d ∧ pa ≠ d ∧ pb ≠ d
theorem BadT.but {H H' : Hp} {d : Addr} {t : V} (h : BadT H d t) (b : FK.But d H H') : BadT H' d t := by
  obtain ⟨tt, pa, pb, zs, ws, rfl, h1, h2, h3, h4, h5, h6, h7⟩ := h
  exact ⟨tt, pa, pb, zs, ws, rfl, b _ _ h5 h1, b _ _ h6 h2, b _ _ h7 h3, h4, h5, h6, h7⟩
theorem BadT.same {H H' : Hp} {d : Addr} {t : V} (h : BadT H d t) (s : Same H H') : BadT H' d t := h.but (FK.But.of s)
theorem polB_snoc (xs : List Int) : polB (xs ++ [0]) = false := by
  unfold polB
  rw [getLastD_snoc]
  simp
theorem bad1 (xs ys : List Int) : okFrac (xs ++ [0]) ys = false := by
  unfold okFrac
  rw [polB_snoc, Bool.false_and]
theorem bad2 (xs ys : List Int) : okFrac xs (ys ++ [0]) = false := by
  unfold okFrac
  rw [polB_snoc, Bool.false_and, Bool.and_false]
theorem bad3 (xs : List Int) {ys : List Int} (h : ys.head? ≠ some 1) : okFrac xs ys = false := by
  unfold okFrac
  rw [decide_eq_false h, Bool.and_false, Bool.and_false]
theorem cut_from (ys : List Int) : cutV (ys.map V.int) (some 1) none = (ys.drop 1).map V.int := by
  unfold cutV
  rw [HT.sIx_none, show (1 : Int) = ((1 : Nat) : Int) from rfl, HT.sIx_nat, List.length_map]
  cases ys with
  | nil => rfl
  | cons y ys =>
    rw [Nat.min_eq_left (by rw [List.length_cons]; omega), List.map_cons, List.drop_succ_cons, List.drop_zero, List.length_cons, Nat.add_sub_cancel, List.drop_succ_cons, List.drop_zero, ← List.length_map (f := V.int) (as := ys), List.take_length]
def Gv (H : Hp) (na nb gt : Addr) (xs ys : List Int) : Prop := ∃ c1 c2 : Addr, H na = some (.lst (xs.map V.int)) ∧ H nb = some (.lst (ys.map V.int)) ∧ H gt = some (.tup [.ref c1, .ref c2]) ∧ H c1 = some (.lst (xs.map V.int)) ∧ H c2 = some (.lst (ys.map V.int))
theorem Gv.same {H H' : Hp} {na nb gt : Addr} {xs ys : List Int} (h : Gv H na nb gt xs ys) (s : Same H H') : Gv H' na nb gt xs ys := by
  obtain ⟨c1, c2, h1, h2, h3, h4, h5⟩ := h
  exact ⟨c1, c2, s _ _ h1, s _ _ h2, s _ _ h3, s _ _ h4, s _ _ h5⟩
theorem Gd.ok {xs ys : List Int} (h : Gd xs ys) : okFrac xs ys = true := by
  unfold okFrac polB
  obtain ⟨h1, h2, h3, _⟩ := h
  rw [decide_eq_true h3, Bool.and_true, Bool.and_eq_true, Bool.or_eq_true, Bool.or_eq_true]
  exact ⟨h1.imp decide_eq_true decide_eq_true, h2.imp decide_eq_true decide_eq_true⟩
theorem Gd.sz {xs ys : List Int} (h : Gd xs ys) : CInv xs ys ∧ Bd 6 xs ∧ Bd 6 ys := by
  obtain ⟨h1, h2, h3, h4, h5, h6, h7⟩ := h
  exact ⟨⟨h4, h5, .inl ⟨h6, h7⟩⟩, h6, h7⟩
def Tl (H : Hp) (xs ys : List Int) (n : Int) (v : V) : Prop := (¬ (0 ≤ n ∧ n ≤ 200) ∧ v = .str "number") ∨ ∃ m : Nat, n = m ∧ m ≤ 200 ∧ ∃ D : Addr, v = .ref D ∧ H D = some (.lst ((ser xs ys (m + 1)).map V.int))
theorem Tl.same {H H' : Hp} {xs ys : List Int} {n : Int} {v : V} (h : Tl H xs ys n v) (s : Same H H') : Tl H' xs ys n v := by
  rcases h with h | ⟨m, h1, h2, D, h3, h4⟩
  · exact .inl h
  · exact .inr ⟨m, h1, h2, D, h3, s _ _ h4⟩
theorem ok_law (T : Txt K mg cx) {fa : Addr} {s : Shared} {H : Hp} {a : Addr} {ns : List Int} (g : mg "law" = some (.ref fa)) (hr1 : Room 7 callerA) (e0 : Env0 P w K mg base callerA [] s H) (sq : SqL K H a (ns.map V.int)) (hl : ns.length ≤ 63) :
    codeAny (model P w) callerA (.call (.ref fa) ⟨[.ref a], []⟩) (CR CX0 [] P w H s (fun v _ => v = .bl true) E0) s := by
  have H_law_draws := ok_law_draws (P := P) (w := w) (base := base) T
  have H_law_pick := ok_law_pick (P := P) (w := w) (base := base) T
  have H_law_polynomial := ok_law_polynomial (P := P) (w := w) (base := base) T
  have H_law_trimmed := ok_law_trimmed (P := P) (w := w) (base := base) T
  have H_law_product := ok_law_product (P := P) (w := w) (base := base) T
  have H_law_degree := ok_law_degree (P := P) (w := w) (base := base) T
  have H_law_told := ok_law_told (P := P) (w := w) (base := base) T
  refine T.d_law.run (vs := [.ref a]) g sc_law hr1 e0 (.cons rfl .nil) rfl fun cdv hr hG => ?_
  refine ⟨_, (C8.pss_cut (ps_set (i := 1) sc_law.nd rfl (Or.inl rfl) (by exact (FK.pe_h (E := E0) H_law_draws (hr.mono (by decide)) pass0 (pa_cons (pv 0) pa_nil))))
  (C8.pss_cut (ps_set (i := 2) sc_law.nd rfl (Or.inl rfl) (by exact (FK.pe_h (E := E0) H_law_polynomial (hr.mono (by decide)) pass0 (pa_cons (pv 1) (pa_cons pe_int pa_nil)))))
  (C8.pss_cut (ps_set (i := 3) sc_law.nd rfl (Or.inl rfl) (by exact (FK.pe_h (E := E0) H_law_trimmed (hr.mono (by decide)) pass0 (pa_cons (pe_op op_cat (pe_lst (pa_cons pe_int pa_nil)) (FK.pe_h (E := E0) H_law_polynomial (hr.mono (by decide)) pass0 (pa_cons (pv 1) (pa_cons pe_int pa_nil)))) pa_nil))))
  (C8.pss_cut (ps_if (pt_cmpR op_eq (FK.pe_h (E := E0) H_law_pick (hr.mono (by decide)) pass0 (pa_cons (pv 1) (pa_cons pe_int pa_nil))) pe_int (nomark _)) (pss_cons (ps_set (i := 12) sc_law.nd rfl (Or.inl rfl) (by exact (FK.pe_h (E := E0) H_law_trimmed (hr.mono (by decide)) pass0 (pa_cons (pe_op op_cat (pe_lst (pa_cons pe_int pa_nil)) (FK.pe_h (E := E0) H_law_polynomial (hr.mono (by decide)) pass0 (pa_cons (pv 1) (pa_cons pe_int pa_nil)))) pa_nil))))
  (pss_cons (ps_set (i := 2) sc_law.nd rfl (Or.inl rfl) (by exact (FK.pe_h (E := E0) H_law_product (hr.mono (by decide)) pass0 (pa_cons (pv 2) (pa_cons (pv 12) pa_nil)))))
  (pss_one (ps_set (i := 3) sc_law.nd rfl (Or.inl rfl) (by exact (FK.pe_h (E := E0) H_law_product (hr.mono (by decide)) pass0 (pa_cons (pv 3) (pa_cons (pv 12) pa_nil)))))))) pss_nil)
  (C8.pss_cut (ps_set (i := 4) sc_law.nd rfl (Or.inl rfl) (by exact (FK.pe_h (E := E0) H_law_pick (hr.mono (by decide)) pass0 (pa_cons (pv 1) (pa_cons pe_int pa_nil)))))
  (C8.pss_cut (ps_if (pt_cmpR op_eq (FK.pe_h (E := E0) H_law_pick (hr.mono (by decide)) pass0 (pa_cons (pv 1) (pa_cons pe_int pa_nil))) pe_int (nomark _)) (pss_one (ps_set (i := 4) sc_law.nd rfl (Or.inl rfl) (by exact (pe_ix (r := rIxL K) ix_list (pe_lst (pa_cons (pe_op op_add pe_int (FK.pe_h (E := E0) H_law_pick (hr.mono (by decide)) pass0 (pa_cons (pv 1) (pa_cons pe_int pa_nil)))) (pa_cons (pe_op op_sub (pe_un un_neg pe_int) (FK.pe_h (E := E0) H_law_pick (hr.mono (by decide)) pass0 (pa_cons (pv 1) (pa_cons pe_int pa_nil)))) (pa_cons (pe_op op_add pe_int (FK.pe_h (E := E0) H_law_pick (hr.mono (by decide)) pass0 (pa_cons (pv 1) (pa_cons pe_int pa_nil)))) pa_nil)))) (FK.pe_h (E := E0) H_law_pick (hr.mono (by decide)) pass0 (pa_cons (pv 1) (pa_cons pe_int pa_nil))) (fun _ _ => rfl))))) pss_nil)
  (C8.pss_cut (ps_set (i := 5) sc_law.nd rfl (Or.inl rfl) (by exact (pe_lst (pa_cons (pe_tup (pa_cons (pe_op op_cat (pv 2) (pe_lst (pa_cons pe_int pa_nil))) (pa_cons (pv 3) pa_nil))) (pa_cons (pe_tup (pa_cons (pv 2) (pa_cons (pe_lst pa_nil) pa_nil))) (pa_cons (pe_tup (pa_cons (pv 2) (pa_cons (pe_op op_cat (pe_op op_cat (pe_lst (pa_cons pe_int pa_nil)) (pe_slice sl_list (pv 3) (po_some pe_int) po_none)) (pe_lst (pa_cons pe_int pa_nil))) pa_nil))) pa_nil))))))
  (C8.pss_cut (ps_set (i := 5) sc_law.nd rfl (Or.inl rfl) (by exact (pe_op op_cat (pv 5) (pe_lst (pa_cons (pe_tup (pa_cons (pv 2) (pa_cons (pe_op op_cat (pv 3) (pe_lst (pa_cons pe_int pa_nil))) pa_nil))) (pa_cons (pe_tup (pa_cons (pv 2) (pa_cons (pe_lst (pa_cons pe_int (pa_cons pe_int pa_nil))) pa_nil))) pa_nil))))))
  (C8.pss_cut (ps_for PassesOwn.never rfl (pi_range1 rfl T.n_range (pa_cons pe_int pa_nil)) (pg_name (i := 6) sc_law.nd rfl (Or.inl rfl))
  (pss_one (ps_if (pt_cmpR op_ne (FK.pe_h (E := E0) H_law_told (hr.mono (by decide)) pass0 (pa_cons (pv 6) (pa_cons (pe_ix (r := rIxL K) ix_list (pv 5) (FK.pe_h (E := E0) H_law_pick (hr.mono (by decide)) pass0 (pa_cons (pv 1) (pa_cons pe_int pa_nil))) (fun _ _ => rfl)) (pa_cons (pv 4) pa_nil)))) pe_str (nomark _)) (pss_one (ps_ret pe_bl)) pss_nil)))
  (C8.pss_cut (ps_set (i := 7) sc_law.nd rfl (Or.inl rfl) (by exact (pe_tup (pa_cons (pe_callTy call_list_of (by rfl) T.n_list (by decide +kernel) (pa_cons (pv 2) pa_nil)) (pa_cons (pe_callTy call_list_of (by rfl) T.n_list (by decide +kernel) (pa_cons (pv 3) pa_nil)) pa_nil)))))
  (C8.pss_cut (ps_set (i := 8) sc_law.nd rfl (Or.inl rfl) (by exact (FK.pe_h (E := E0) H_law_told (hr.mono (by decide)) pass0 (pa_cons pe_int (pa_cons (pv 7) (pa_cons (pv 4) pa_nil))))))
  (C8.pss_cut (ps_if (PW.pt (pw_or (pt_not (pt_val (pe_callB call_isi (by rfl) T.n_isinstance (by decide +kernel) (pa_cons (pv 8) (pa_cons (pe_bltn (v := .ty "bool") (by rfl) T.n_bool (by decide +kernel) rfl) pa_nil))))) (pw_or1 (pt_cmpR op_ne (pv 8) (pe_cmpR op_eq (FK.pe_h (E := E0) H_law_degree (hr.mono (by decide)) pass0 (pa_cons (pv 2) (pa_cons (pv 3) pa_nil))) pe_int (nomark _)) (nomark _))))) (pss_one (ps_ret pe_bl)) pss_nil)
  (C8.pss_cut (ps_set (i := 9) sc_law.nd rfl (Or.inl rfl) (by exact (FK.pe_h (E := E0) H_law_told (hr.mono (by decide)) pass0 (pa_cons pe_int (pa_cons (pv 7) (pa_cons (pv 4) pa_nil))))))
  (C8.pss_cut (ps_if (pt_cmpR (op_neD hr.units) (pv 7) (pe_tup (pa_cons (pv 2) (pa_cons (pv 3) pa_nil))) (nomark _)) (pss_one (ps_ret pe_bl)) pss_nil)
  (C8.pss_cut (ps_if (PW.pt (pw_or (pt_cmpR op_lt (pv 4) pe_int (nomark _)) (pw_or1 (pt_cmpR op_gt (pv 4) pe_int (nomark _))))) (pss_one (ps_ret (pe_cmpR op_eq (pv 9) pe_str (nomark _)))) pss_nil)
  (C8.pss_cut (ps_if (PW.pt (pw_or (pt_not (pt_val (pe_callB call_isi (by rfl) T.n_isinstance (by decide +kernel) (pa_cons (pv 9) (pa_cons (pe_bltn (v := .ty "list") (by rfl) T.n_list (by decide +kernel) rfl) pa_nil))))) (pw_or1 (pt_cmpR op_ne (pe_callB call_len_seq (by rfl) T.n_len PySem.boot_len (pa_cons (pv 9) pa_nil)) (pe_op op_add (pv 4) pe_int) (nomark _))))) (pss_one (ps_ret pe_bl)) pss_nil)
  (C8.pss_cut (ps_set (i := 10) sc_law.nd rfl (Or.inl rfl) (by exact (FK.pe_h (E := E0) H_law_product (hr.mono (by decide)) pass0 (pa_cons (pv 9) (pa_cons (pv 3) pa_nil)))))
  (C8.pss_cut (ps_for PassesOwn.never rfl (pi_range1 rfl T.n_range (pa_cons (pe_op op_add (pv 4) pe_int) pa_nil)) (pg_name (i := 11) sc_law.nd rfl (Or.inl rfl))
  (pss_cons (ps_set (i := 13) sc_law.nd rfl (Or.inl rfl) (by exact pe_int))
  (pss_cons (ps_if (pt_cmpR op_lt (pv 11) (pe_callB call_len_seq (by rfl) T.n_len PySem.boot_len (pa_cons (pv 2) pa_nil)) (nomark _)) (pss_one (ps_set (i := 13) sc_law.nd rfl (Or.inl rfl) (by exact (pe_ix (r := rIxL K) ix_list (pv 2) (pv 11) (fun _ _ => rfl))))) pss_nil)
  (pss_one (ps_if (pt_cmpR op_ne (pe_ix (r := rIxL K) ix_list (pv 10) (pv 11) (fun _ _ => rfl)) (pv 13) (nomark _)) (pss_one (ps_ret pe_bl)) pss_nil)))))
  (pss_one (ps_ret pe_bl)))))))))))))))))))), ?_⟩
  -- draws
  refine ⟨fun σ H => ∃ d : Addr, σ = [some (.ref a), some (.ref d), none, none, none, none, none, none, none, none, none, none, none, none] ∧ Dr H d, ?_, ?_⟩
  · exact ⟨_, rfl, a, ns, rfl, sq, hl, fun d H' hd hD hs => ⟨d, rfl, hD⟩⟩
  rintro σ H1 ⟨d, rfl, hD⟩
  -- numerator
  refine ⟨fun σ H => ∃ (na : Addr) (xs : List Int), σ = [some (.ref a), some (.ref d), some (.ref na), none, none, none, none, none, none, none, none, none, none, none] ∧ Dr H d ∧ H na = some (.lst (xs.map V.int)) ∧ na ≠ d ∧ Pol xs ∧ Sm xs ∧ xs.length ≤ 6, ?_, ?_⟩
  · refine ⟨_, rfl, d, 6, rfl, hD, by decide, by decide, fun D xs H' hD' px sx lx hd hb hL => ⟨D, xs, rfl, hd, hL, hD.ne hD', px, sx, by omega⟩⟩
  rintro σ H2 ⟨na, xs, rfl, hD2, hN, hnd, px, sx, lx⟩
  -- denominator
  refine ⟨fun σ H => ∃ (nb : Addr) (ys : List Int), σ = [some (.ref a), some (.ref d), some (.ref na), some (.ref nb), none, none, none, none, none, none, none, none, none, none] ∧ Fr H d na nb xs (1 :: ys) ∧ Pol ys ∧ Sm ys ∧ ys.length ≤ 5, ?_, ?_⟩
  · refine rd_one (d := d) (m := 5) rfl hD2 (by decide) (by decide) fun p ys H' hp py sy ly hd hb hpd hL => ?_
    exact ⟨p, ys, rfl, ⟨hd, hb _ _ hnd hN, hL, hnd, hpd⟩, py, sy, by omega⟩
  rintro σ H3 ⟨nb, ys, rfl, fr, py, sy, ly⟩
  have sm1 : ∀ {zs : List Int}, Sm zs → Sm (1 :: zs) := fun {zs} h z hz => by
    rcases List.mem_cons.mp hz with rfl | hz
    · decide
    · exact h z hz
  -- a common factor
  refine ⟨fun σ H => ∃ (na nb : Addr) (xs ys : List Int) (v12 : Option V), σ = [some (.ref a), some (.ref d), some (.ref na), some (.ref nb), none, none, none, none, none, none, none, none, v12, none] ∧ Fr H d na nb xs ys ∧ Gd xs ys, ?_, ?_⟩
  · refine ⟨_, rfl, d, 2, rfl, fr.1, by decide, fun r H' r0 r1 hd' hb => ⟨rfl, _, rfl, ?_⟩⟩
    have fr1 := fr.but hd' hb
    refine ite2 (fun _ => ?_) (fun _ => ⟨na, nb, xs, 1 :: ys, none, rfl, fr1, px, pol_cons py, rfl, by omega, by rw [List.length_cons]; omega, bd_small sx, bd_small (sm1 sy)⟩)
    refine rd_one (d := d) (m := 2) rfl hd' (by decide) (by decide) fun p cs H4 hp pc sc lc hd4 hb4 hpd hL => ?_
    have fr4 := fr1.but hd4 hb4
    refine ⟨_, rfl, _, rfl, na, p, xs, 1 :: cs, 6, 6, rfl, .inl (.inl fr4.2.1), .inl (.inl hL), by omega, by rw [List.length_cons]; omega, bd_small sx, bd_small (sm1 sc), by decide, fun D1 H5 hD1 s5 hL5 => ?_⟩
    have fr5 := fr4.same s5
    refine ⟨_, rfl, _, rfl, nb, p, 1 :: ys, 1 :: cs, 6, 6, rfl, .inl (.inl fr5.2.2.1), .inl (.inl (s5 _ _ hL)), by rw [List.length_cons]; omega, by rw [List.length_cons]; omega, bd_small (sm1 sy), bd_small (sm1 sc), by decide, fun D2 H6 hD2 s6 hL6 => ?_⟩
    have fr6 := fr5.same s6
    have l1 := @prod_le xs (1 :: cs)
    have l2 := @prod_le (1 :: ys) (1 :: cs)
    rw [List.length_cons] at l1 l2
    rw [List.length_cons] at l2
    have lc3 : (1 :: cs).length ≤ 3 := by rw [List.length_cons]; omega
    exact ⟨D1, D2, prod xs (1 :: cs), prod (1 :: ys) (1 :: cs), some (.ref p), rfl, ⟨fr6.1, s6 _ _ hL5, hL6, fr4.1.ne hD1, fr5.1.ne hD2⟩, prod_pol px (pol_cons pc), prod_pol (pol_cons py) (pol_cons pc), prod_head rfl rfl, by omega, by omega, prod_bd sx (sm1 sc) lc3, prod_bd (sm1 sy) (sm1 sc) lc3⟩
  clear fr hD2 hN hnd px sx lx py sy ly sm1 hD
  clear ys xs
  rintro σ H4 ⟨na, nb, xs, ys, v12, rfl, fr, gd⟩
  -- n
  refine ⟨fun σ H => ∃ n : Int, σ = [some (.ref a), some (.ref d), some (.ref na), some (.ref nb), some (.int n), none, none, none, none, none, none, none, v12, none] ∧ Fr H d na nb xs ys, ?_, ?_⟩
  · exact ⟨_, rfl, d, 41, rfl, fr.1, by decide, fun r H' r0 r1 hd hb => ⟨r, rfl, fr.but hd hb⟩⟩
  clear fr
  rintro σ H5 ⟨n0, rfl, fr⟩
  refine ⟨fun σ H => ∃ n : Int, σ = [some (.ref a), some (.ref d), some (.ref na), some (.ref nb), some (.int n), none, none, none, none, none, none, none, v12, none] ∧ Fr H d na nb xs ys, ?_, ?_⟩
  · refine ⟨_, rfl, d, 6, rfl, fr.1, by decide, fun r H' r0 r1 hd' hb => ⟨rfl, _, rfl, ?_⟩⟩
    have fr1 := fr.but hd' hb
    refine ite2 (fun _ => ?_) (fun _ => ⟨n0, rfl, fr1⟩)
    simp only [tSeq, tIfS, tOr, tAnd, tB, tTest, tCB, tCons, tVar, tC, tNil, tNot, tNotV, tRet, tRetN, tNext, tBreak, tOrV, tAndV, tOp, tUn, rEq, rNe, tChain, rI0, rI, rU, tAsg, gName, tDrop, tAug, ipI, tIf, tCall, tCallS, tLst, tTup, tBM, tBM0, rAppend, rExtend, rPop, rReverse, tyV, rIxL, rIxT, rIxS, L2.start, List.map_cons, List.map_nil, List.length_cons, List.length_nil, List.replicate, List.cons_append, List.nil_append, List.append_nil, List.getElem?_cons_zero, List.getElem?_cons_succ, List.set_cons_zero, List.set_cons_succ, Nat.reduceAdd, Nat.reduceSub, Option.some.injEq, exists_eq_left', exists_eq_left, V.int.injEq, V.bl.injEq, V.str.injEq, V.ref.injEq, List.cons.injEq, and_true, true_and, and_assoc, reduceCtorEq, false_and, exists_false, or_false, false_or, exists_and_left, exists_const, scal, Int.reduceLT, Int.reduceLE, Int.reduceSub, Int.reduceAdd, Int.reduceNeg, if_true, if_false]
    refine ⟨d, 41, rfl, hd', by decide, fun r1 H1 a0 a1 hd1 hb1 => ⟨r1, rfl, d, 3, rfl, hd1, by decide, fun r2 H2 b0 b1 hd2 hb2 => ⟨r2, rfl, d, 9, rfl, hd2, by decide, fun r3 H3 c0 c1 hd3 hb3 => ⟨r3, rfl, by decide, fun p hp => ⟨d, 3, rfl, hd3.same (FK.same_new hp), by decide, fun r4 H4 e0 e1 hd4 hb4 => ?_⟩⟩⟩⟩⟩
    obtain ⟨v, hv, hm⟩ := atI_mem (cs := [V.int (160 + r1), V.int (-1 - r2), V.int (201 + r3)]) e0 e1
    refine ⟨_, r4, rfl, .inl (.inl (hb4 _ _ (hd3.ne hp) upd_same)), v, hv, ?_⟩
    have hi : ∃ z : Int, v = .int z := by
      simp only [List.mem_cons, List.not_mem_nil, or_false] at hm
      rcases hm with rfl | rfl | rfl <;> exact ⟨_, rfl⟩
    obtain ⟨z, rfl⟩ := hi
    exact ⟨z, rfl, (((fr1.but hd1 hb1).but hd2 hb2).but hd3 hb3).same (FK.same_new hp) |>.but hd4 hb4⟩
  clear fr
  rintro σ H6 ⟨n, rfl, fr⟩
  -- bad
  refine ⟨fun σ H => ∃ (l : Addr) (ts : List V), σ = [some (.ref a), some (.ref d), some (.ref na), some (.ref nb), some (.int n), some (.ref l), none, none, none, none, none, none, v12, none] ∧ Fr H d na nb xs ys ∧ H l = some (.lst ts) ∧ l ≠ d ∧ ts.length = 3 ∧ ∀ t ∈ ts, BadT H d t, ?_, ?_⟩
  · simp only [tSeq, tIfS, tOr, tAnd, tB, tTest, tCB, tCons, tVar, tC, tNil, tNot, tNotV, tRet, tRetN, tNext, tBreak, tOrV, tAndV, tOp, tUn, rEq, rNe, tChain, rI0, rI, rU, tAsg, gName, tDrop, tAug, ipI, tIf, tCall, tCallS, tLst, tTup, tBM, tBM0, rAppend, rExtend, rPop, rReverse, tyV, rIxL, rIxT, rIxS, L2.start, List.map_cons, List.map_nil, List.length_cons, List.length_nil, List.replicate, List.cons_append, List.nil_append, List.append_nil, List.getElem?_cons_zero, List.getElem?_cons_succ, List.set_cons_zero, List.set_cons_succ, Nat.reduceAdd, Nat.reduceSub, Option.some.injEq, exists_eq_left', exists_eq_left, V.int.injEq, V.bl.injEq, V.str.injEq, V.ref.injEq, List.cons.injEq, and_true, true_and, and_assoc, reduceCtorEq, false_and, exists_false, or_false, false_or, exists_and_left, exists_const, scal, Int.reduceLT, Int.reduceLE, Int.reduceSub, Int.reduceAdd, Int.reduceNeg, if_true, if_false, tSl, tPart, tNoPart, rSlL]
    refine ⟨by decide, fun p1 hp1 => ⟨na, p1, _, _, rfl, rfl, FK.same_new hp1 _ _ fr.2.1, upd_same, ?_, fun q1 hq1 => ⟨by decide, fun t1 ht1 => ⟨by decide, fun p2 hp2 => ⟨by decide, fun t2 ht2 => ⟨by decide, fun p3 hp3 => ?_⟩⟩⟩⟩⟩⟩
    · rw [List.length_map]
      exact Nat.le_trans (Nat.add_le_add_right gd.2.2.2.1 _) (by decide)
    have fr1 := fr.same (FK.same_new (o := .lst [V.int 0]) hp1)
    have fr2 := fr1.same (FK.same_new (o := .lst (xs.map V.int ++ [V.int 0])) hq1)
    have fr3 := fr2.same (FK.same_new (o := .tup [V.ref q1, V.ref nb]) ht1)
    have fr4 := fr3.same (FK.same_new (o := .lst []) hp2)
    have fr5 := fr4.same (FK.same_new (o := .tup [V.ref na, V.ref p2]) ht2)
    have fr6 := fr5.same (FK.same_new (o := .lst [V.int 2]) hp3)
    have z6 := gd.2.2.2.1
    have z7 := gd.2.2.2.2.1
    have B1 : BadT _ d (.ref t1) := ⟨t1, q1, nb, xs ++ [0], ys, rfl, upd_same, (FK.same_new ht1) _ _ (by rw [upd_same, List.map_append]; rfl), fr3.2.2.1, bad1 xs ys, fr2.1.ne ht1, fr1.1.ne hq1, fr.2.2.2.2⟩
    have B2 : BadT _ d (.ref t2) := ⟨t2, na, p2, xs, [], rfl, upd_same, fr5.2.1, (FK.same_new ht2) _ _ upd_same, bad3 xs (by decide), fr4.1.ne ht2, fr.2.2.2.1, fr3.1.ne hp2⟩
    have B1' := ((B1.same (FK.same_new (o := .lst []) hp2)).same (FK.same_new (o := .tup [V.ref na, V.ref p2]) ht2)).same (FK.same_new (o := .lst [V.int 2]) hp3)
    have B2' := B2.same (FK.same_new (o := .lst [V.int 2]) hp3)
    refine ⟨_, .inl (.inl fr6.2.2.1), fun s1 hs1 => ?_⟩
    rw [cut_from]
    refine ⟨p3, s1, _, _, rfl, rfl, (FK.same_new hs1) _ _ upd_same, upd_same, ?_, fun q2 hq2 => ⟨by decide, fun p4 hp4 => ⟨q2, p4, _, _, rfl, rfl, (FK.same_new hp4) _ _ upd_same, upd_same, ?_, fun q3 hq3 => ⟨by decide, fun t3 ht3 => ⟨by decide, fun l hl => ?_⟩⟩⟩⟩⟩
    · rw [List.length_map, List.length_drop]
      exact Nat.le_trans (show _ ≤ 20 by show 1 + (ys.length - 1) ≤ 20; omega) (by decide)
    · rw [List.length_append, List.length_map, List.length_drop]
      exact Nat.le_trans (show _ ≤ 20 by show 1 + (ys.length - 1) + 1 ≤ 20; omega) (by decide)
    have fr7 := fr6.same (FK.same_new (o := .lst ((ys.drop 1).map V.int)) hs1)
    have fr8 := fr7.same (FK.same_new (o := .lst ([V.int 2] ++ (ys.drop 1).map V.int)) hq2)
    have fr9 := fr8.same (FK.same_new (o := .lst [V.int 1]) hp4)
    have fr10 := fr9.same (FK.same_new (o := .lst ([V.int 2] ++ (ys.drop 1).map V.int ++ [V.int 1])) hq3)
    have fr11 := fr10.same (FK.same_new (o := .tup [V.ref na, V.ref q3]) ht3)
    have B3 : BadT _ d (.ref t3) := ⟨t3, na, q3, xs, 2 :: (ys.drop 1 ++ [1]), rfl, upd_same, fr11.2.1, (FK.same_new ht3) _ _ (by rw [upd_same, List.map_cons, List.map_append]; rfl), bad3 xs (by intro z; cases z), fr10.1.ne ht3, fr.2.2.2.1, fr9.1.ne hq3⟩
    have up : ∀ {t : V}, BadT _ d t → BadT _ d t := fun {t} b => ((((b.same (FK.same_new (o := .lst ((ys.drop 1).map V.int)) hs1)).same (FK.same_new (o := .lst ([V.int 2] ++ (ys.drop 1).map V.int)) hq2)).same (FK.same_new (o := .lst [V.int 1]) hp4)).same (FK.same_new (o := .lst ([V.int 2] ++ (ys.drop 1).map V.int ++ [V.int 1])) hq3)).same (FK.same_new (o := .tup [V.ref na, V.ref q3]) ht3)
    refine ⟨fr11.same (FK.same_new hl), _, upd_same, fr11.1.ne hl, rfl, fun t ht => ?_⟩
    have B := FK.same_new (o := .lst [V.ref t1, V.ref t2, V.ref t3]) hl
    simp only [List.mem_cons, List.not_mem_nil, or_false] at ht
    rcases ht with rfl | rfl | rfl
    · exact (up B1').same B
    · exact (up B2').same B
    · exact B3.same B
  clear fr
  rintro σ H7 ⟨l, ts, rfl, fr, hl7, hld, htl, hts⟩
  refine ⟨fun σ H => ∃ (l : Addr) (ts : List V), σ = [some (.ref a), some (.ref d), some (.ref na), some (.ref nb), some (.int n), some (.ref l), none, none, none, none, none, none, v12, none] ∧ Fr H d na nb xs ys ∧ H l = some (.lst ts) ∧ l ≠ d ∧ ts.length = 5 ∧ ∀ t ∈ ts, BadT H d t, ?_, ?_⟩
  · simp only [tSeq, tIfS, tOr, tAnd, tB, tTest, tCB, tCons, tVar, tC, tNil, tNot, tNotV, tRet, tRetN, tNext, tBreak, tOrV, tAndV, tOp, tUn, rEq, rNe, tChain, rI0, rI, rU, tAsg, gName, tDrop, tAug, ipI, tIf, tCall, tCallS, tLst, tTup, tBM, tBM0, rAppend, rExtend, rPop, rReverse, tyV, rIxL, rIxT, rIxS, L2.start, List.map_cons, List.map_nil, List.length_cons, List.length_nil, List.replicate, List.cons_append, List.nil_append, List.append_nil, List.getElem?_cons_zero, List.getElem?_cons_succ, List.set_cons_zero, List.set_cons_succ, Nat.reduceAdd, Nat.reduceSub, Option.some.injEq, exists_eq_left', exists_eq_left, V.int.injEq, V.bl.injEq, V.str.injEq, V.ref.injEq, List.cons.injEq, and_true, true_and, and_assoc, reduceCtorEq, false_and, exists_false, or_false, false_or, exists_and_left, exists_const, scal, Int.reduceLT, Int.reduceLE, Int.reduceSub, Int.reduceAdd, Int.reduceNeg, if_true, if_false]
    have z6 := gd.2.2.2.1
    have z7 := gd.2.2.2.2.1
    refine ⟨by decide, fun p1 hp1 => ⟨nb, p1, _, _, rfl, rfl, FK.same_new hp1 _ _ fr.2.2.1, upd_same, ?_, fun q1 hq1 => ⟨by decide, fun t1 ht1 => ⟨by decide, fun p2 hp2 => ⟨by decide, fun t2 ht2 => ⟨by decide, fun p3 hp3 => ?_⟩⟩⟩⟩⟩⟩
    · rw [List.length_map]
      exact Nat.le_trans (Nat.add_le_add_right gd.2.2.2.2.1 _) (by decide)
    have fr1 := fr.same (FK.same_new (o := .lst [V.int 0]) hp1)
    have fr2 := fr1.same (FK.same_new (o := .lst (ys.map V.int ++ [V.int 0])) hq1)
    have fr3 := fr2.same (FK.same_new (o := .tup [V.ref na, V.ref q1]) ht1)
    have fr4 := fr3.same (FK.same_new (o := .lst [V.int 0, V.int 1]) hp2)
    have fr5 := fr4.same (FK.same_new (o := .tup [V.ref na, V.ref p2]) ht2)
    have fr6 := fr5.same (FK.same_new (o := .lst [V.ref t1, V.ref t2]) hp3)
    have B1 : BadT _ d (.ref t1) := ⟨t1, na, q1, xs, ys ++ [0], rfl, upd_same, fr3.2.1, (FK.same_new ht1) _ _ (by rw [upd_same, List.map_append]; rfl), bad2 xs ys, fr2.1.ne ht1, fr.2.2.2.1, fr1.1.ne hq1⟩
    have B2 : BadT _ d (.ref t2) := ⟨t2, na, p2, xs, [0, 1], rfl, upd_same, fr5.2.1, (FK.same_new ht2) _ _ upd_same, bad3 xs (by decide), fr4.1.ne ht2, fr.2.2.2.1, fr3.1.ne hp2⟩
    have B1' := ((B1.same (FK.same_new (o := .lst [V.int 0, V.int 1]) hp2)).same (FK.same_new (o := .tup [V.ref na, V.ref p2]) ht2)).same (FK.same_new (o := .lst [V.ref t1, V.ref t2]) hp3)
    have B2' := B2.same (FK.same_new (o := .lst [V.ref t1, V.ref t2]) hp3)
    have sU := (((((FK.same_new (o := .lst [V.int 0]) hp1).trans (FK.same_new (o := .lst (ys.map V.int ++ [V.int 0])) hq1)).trans (FK.same_new (o := .tup [V.ref na, V.ref q1]) ht1)).trans (FK.same_new (o := .lst [V.int 0, V.int 1]) hp2)).trans (FK.same_new (o := .tup [V.ref na, V.ref p2]) ht2)).trans (FK.same_new (o := .lst [V.ref t1, V.ref t2]) hp3)
    refine ⟨l, p3, _, _, rfl, rfl, sU _ _ hl7, upd_same, ?_, fun l2 hl2 => ⟨l2, rfl, fr6.same (FK.same_new hl2), _, upd_same, fr6.1.ne hl2, ?_, fun t ht => ?_⟩⟩
    · rw [htl]
      exact Nat.le_trans (show 5 ≤ 16777216 by decide) (Nat.le_refl _)
    · rw [List.length_append, htl]
      rfl
    have B := FK.same_new (o := .lst (ts ++ [V.ref t1, V.ref t2])) hl2
    rcases List.mem_append.mp ht with ht | ht
    · exact ((hts t ht).same sU).same B
    simp only [List.mem_cons, List.not_mem_nil, or_false] at ht
    rcases ht with rfl | rfl
    · exact B1'.same B
    · exact B2'.same B
  clear fr hl7 hld htl hts
  clear ts l
  rintro σ H8 ⟨l, ts, rfl, fr, hl8, hld, htl, hts⟩
  -- five that are none
  refine ⟨fun σ H => ∃ v6 : Option V, σ = [some (.ref a), some (.ref d), some (.ref na), some (.ref nb), some (.int n), some (.ref l), v6, none, none, none, none, none, v12, none] ∧ Fr H d na nb xs ys, ?_, ?_⟩
  · refine FK.rd_for (J := Itr 0 2) (H1 := H8) (fun R r => ⟨2, rfl, by decide, by decide, r⟩) walk_nat
      (fun i σ H => ∃ v6 : Option V, σ = [some (.ref a), some (.ref d), some (.ref na), some (.ref nb), some (.int n), some (.ref l), v6, none, none, none, none, none, v12, none] ∧ Fr H d na nb xs ys ∧ H l = some (.lst ts) ∧ ∀ t ∈ ts, BadT H d t) ⟨none, rfl, fr, hl8, hts⟩ (fun _ _ _ _ _ => trivial) ?_ ?_
    · rintro i v σ H1 H2 hi ⟨v6, rfl, fr, hl8, hts⟩ ⟨rfl, hv⟩
      obtain rfl : v = .int (i : Nat) := hv
      refine ⟨_, rfl, _, rfl, _, rfl, d, 5, rfl, fr.1, by decide, fun r H' r0 r1 hd' hb => ?_⟩
      obtain ⟨v, hv, hm⟩ := atI_mem (cs := ts) r0 (by rw [htl]; exact r1)
      have fr' := fr.but hd' hb
      have hl' := hb l _ hld hl8
      have hts' : ∀ t ∈ ts, BadT H' d t := fun t ht => (hts t ht).but hb
      obtain ⟨tt, pa, pb, zs, ws, rfl, h1, h2, h3, h4, _⟩ := hts' v hm
      refine ⟨l, ts, r, _, rfl, rfl, SqL.of hl', hv, ?_⟩
      refine ⟨_, rfl, i, tt, pa, pb, zs, ws, n, rfl, SqT.of h1, .inl (.inl h2), .inl (.inl h3), fun z => (by rw [h4] at z; cases z), fun _ H'' s' => ?_, fun z => (by rw [h4] at z; cases z), fun _ _ z => (by rw [h4] at z; cases z), fun z => (by rw [h4] at z; cases z)⟩
      refine ⟨rfl, _, rfl, ?_⟩
      rw [show (!decide (V.str "series" = V.str "series")) = false by rw [decide_eq_true rfl]; rfl]
      exact iteF ⟨_, rfl, fr'.same s', s' _ _ hl', fun t ht => (hts' t ht).same s'⟩
    · rintro σ H1 ⟨v6, rfl, fr, _⟩
      exact ⟨v6, rfl, fr⟩
  clear fr hl8 hts
  rintro σ H9 ⟨v6, rfl, fr⟩
  -- given
  refine ⟨fun σ H => ∃ gt : Addr, σ = [some (.ref a), some (.ref d), some (.ref na), some (.ref nb), some (.int n), some (.ref l), v6, some (.ref gt), none, none, none, none, v12, none] ∧ Gv H na nb gt xs ys, ?_, ?_⟩
  · simp only [tSeq, tIfS, tOr, tAnd, tB, tTest, tCB, tCons, tVar, tC, tNil, tNot, tNotV, tRet, tRetN, tNext, tBreak, tOrV, tAndV, tOp, tUn, rEq, rNe, tChain, rI0, rI, rU, tAsg, gName, tDrop, tAug, ipI, tIf, tCall, tCallS, tLst, tTup, tBM, tBM0, rAppend, rExtend, rPop, rReverse, tyV, rIxL, rIxT, rIxS, L2.start, List.map_cons, List.map_nil, List.length_cons, List.length_nil, List.replicate, List.cons_append, List.nil_append, List.append_nil, List.getElem?_cons_zero, List.getElem?_cons_succ, List.set_cons_zero, List.set_cons_succ, Nat.reduceAdd, Nat.reduceSub, Option.some.injEq, exists_eq_left', exists_eq_left, V.int.injEq, V.bl.injEq, V.str.injEq, V.ref.injEq, List.cons.injEq, and_true, true_and, and_assoc, reduceCtorEq, false_and, exists_false, or_false, false_or, exists_and_left, exists_const, scal, Int.reduceLT, Int.reduceLE, Int.reduceSub, Int.reduceAdd, Int.reduceNeg, if_true, if_false]
    refine ⟨_, .inl (.inl (.inl fr.2.1)), fun c1 hc1 => ⟨_, .inl (.inl (.inl (FK.same_new hc1 _ _ fr.2.2.1))), fun c2 hc2 => ⟨by decide, fun p hp => ⟨c1, c2, ?_, ?_, upd_same, ?_, ?_⟩⟩⟩⟩
    · exact FK.same_new hp _ _ (FK.same_new hc2 _ _ (FK.same_new hc1 _ _ fr.2.1))
    · exact FK.same_new hp _ _ (FK.same_new hc2 _ _ (FK.same_new hc1 _ _ fr.2.2.1))
    · exact FK.same_new hp _ _ (FK.same_new hc2 _ _ upd_same)
    · exact FK.same_new hp _ _ upd_same
  rintro σ H10 ⟨gt, rfl, gv⟩
  -- reduced
  refine ⟨fun σ H => σ = [some (.ref a), some (.ref d), some (.ref na), some (.ref nb), some (.int n), some (.ref l), v6, some (.ref gt), some (.bl (decide ((comF 200 xs ys).length = 1))), none, none, none, v12, none] ∧ Gv H na nb gt xs ys, ?_, ?_⟩
  · have gv0 := gv
    obtain ⟨c1, c2, g1, g2, g3, g4, g5⟩ := gv
    exact ⟨_, rfl, _, rfl, 1, gt, c1, c2, xs, ys, n, rfl, SqT.of g3, .inl (.inl g4), .inl (.inl g5), fun _ => gd.sz, fun z => (by rw [gd.ok] at z; cases z), fun _ z => absurd z (by decide), fun _ _ _ z => absurd z (by decide), fun _ _ H' s' => ⟨rfl, gv0.same s'⟩⟩
  clear gv
  rintro σ H11 ⟨rfl, gv⟩
  -- reduced as it should be
  refine ⟨fun σ H => σ = [some (.ref a), some (.ref d), some (.ref na), some (.ref nb), some (.int n), some (.ref l), v6, some (.ref gt), some (.bl (decide ((comF 200 xs ys).length = 1))), none, none, none, v12, none] ∧ Gv H na nb gt xs ys, ?_, ?_⟩
  · simp only [tSeq, tIfS, tOr, tAnd, tB, tTest, tCB, tCons, tVar, tC, tNil, tNot, tNotV, tRet, tRetN, tNext, tBreak, tOrV, tAndV, tOp, tUn, rEq, rNe, tChain, rI0, rI, rU, tAsg, gName, tDrop, tAug, ipI, tIf, tCall, tCallS, tLst, tTup, tBM, tBM0, rAppend, rExtend, rPop, rReverse, tyV, rIxL, rIxT, rIxS, L2.start, List.map_cons, List.map_nil, List.length_cons, List.length_nil, List.replicate, List.cons_append, List.nil_append, List.append_nil, List.getElem?_cons_zero, List.getElem?_cons_succ, List.set_cons_zero, List.set_cons_succ, Nat.reduceAdd, Nat.reduceSub, Option.some.injEq, exists_eq_left', exists_eq_left, V.int.injEq, V.bl.injEq, V.str.injEq, V.ref.injEq, List.cons.injEq, and_true, true_and, and_assoc, reduceCtorEq, false_and, exists_false, or_false, false_or, exists_and_left, exists_const, scal, Int.reduceLT, Int.reduceLE, Int.reduceSub, Int.reduceAdd, Int.reduceNeg, if_true, if_false]
    have gv0 := gv
    obtain ⟨c1, c2, g1, g2, g3, g4, g5⟩ := gv
    refine ⟨_, _, _, _, true, rfl, .ty "bool", .base (.bl _), kit_ty (by decide +kernel), _, rfl, iteF ⟨na, nb, xs, ys, rfl, .inl (.inl g1), .inl (.inl g2), gd.1, gd.2.1, gd.2.2.2.1, gd.2.2.2.2.1, gd.2.2.2.2.2.1, gd.2.2.2.2.2.2, fun H' s' => ⟨rfl, ?_⟩⟩⟩
    have e : decide ((comF 200 xs ys).length = 1) = decide (V.int (((lcomF 200 (prim xs) (prim ys)).length : Int) - 1) = V.int 0) := by
      rw [com_prim gd.1 gd.2.1]
      by_cases c : (lcomF 200 (prim xs) (prim ys)).length = 1
      · rw [decide_eq_true c, c]
        rfl
      · rw [decide_eq_false c, decide_eq_false (fun z => c (by have := V.int.inj z; omega))]
    rw [← e, decide_eq_true rfl]
    exact iteF (gv0.same s')
  clear gv
  rintro σ H12 ⟨rfl, gv⟩
  -- told
  refine ⟨fun σ H => ∃ v9 : V, σ = [some (.ref a), some (.ref d), some (.ref na), some (.ref nb), some (.int n), some (.ref l), v6, some (.ref gt), some (.bl (decide ((comF 200 xs ys).length = 1))), some v9, none, none, v12, none] ∧ Gv H na nb gt xs ys ∧ Tl H xs ys n v9, ?_, ?_⟩
  · have gv0 := gv
    obtain ⟨c1, c2, g1, g2, g3, g4, g5⟩ := gv
    exact ⟨_, rfl, _, rfl, 0, gt, c1, c2, xs, ys, n, rfl, SqT.of g3, .inl (.inl g4), .inl (.inl g5), fun _ => gd.sz, fun z => (by rw [gd.ok] at z; cases z), fun _ _ hn H' s' => ⟨_, rfl, gv0.same s', .inl ⟨hn, rfl⟩⟩, fun m hm _ _ hn D H' hD s' hL => ⟨_, rfl, gv0.same s', .inr ⟨m, hm, by omega, D, rfl, hL⟩⟩, fun _ z => absurd rfl z⟩
  clear gv
  rintro σ H13 ⟨v9, rfl, gv, tl⟩
  -- given as it was
  refine ⟨fun σ H => σ = [some (.ref a), some (.ref d), some (.ref na), some (.ref nb), some (.int n), some (.ref l), v6, some (.ref gt), some (.bl (decide ((comF 200 xs ys).length = 1))), some v9, none, none, v12, none] ∧ Gv H na nb gt xs ys ∧ Tl H xs ys n v9, ?_, ?_⟩
  · simp only [tSeq, tIfS, tOr, tAnd, tB, tTest, tCB, tCons, tVar, tC, tNil, tNot, tNotV, tRet, tRetN, tNext, tBreak, tOrV, tAndV, tOp, tUn, rEq, rNe, tChain, rI0, rI, rU, tAsg, gName, tDrop, tAug, ipI, tIf, tCall, tCallS, tLst, tTup, tBM, tBM0, rAppend, rExtend, rPop, rReverse, tyV, rIxL, rIxT, rIxS, L2.start, List.map_cons, List.map_nil, List.length_cons, List.length_nil, List.replicate, List.cons_append, List.nil_append, List.append_nil, List.getElem?_cons_zero, List.getElem?_cons_succ, List.set_cons_zero, List.set_cons_succ, Nat.reduceAdd, Nat.reduceSub, Option.some.injEq, exists_eq_left', exists_eq_left, V.int.injEq, V.bl.injEq, V.str.injEq, V.ref.injEq, List.cons.injEq, and_true, true_and, and_assoc, reduceCtorEq, false_and, exists_false, or_false, false_or, exists_and_left, exists_const, scal, Int.reduceLT, Int.reduceLE, Int.reduceSub, Int.reduceAdd, Int.reduceNeg, if_true, if_false]
    refine ⟨by decide, fun p hp => ?_⟩
    have gv' := gv.same (FK.same_new (o := .tup [V.ref na, V.ref nb]) hp)
    have tl' := tl.same (FK.same_new (o := .tup [V.ref na, V.ref nb]) hp)
    have gv0 := gv'
    obtain ⟨c1, c2, g1, g2, g3, g4, g5⟩ := gv'
    have sh : SeqAt.shaped (.tuple [.list (xs.map PyData.int), .list (ys.map PyData.int)]) = true := by
      unfold SeqAt.shaped
      rw [Bool.and_eq_true]
      constructor
      · simp only [PyData.canLay0, PyData.canLayAll0, canLay_ints, Bool.and_true]
      · refine decide_eq_true ?_
        have h1 := depth_ints xs
        have h2 := depth_ints ys
        simp only [PyData.depth, PyData.depthAll]
        omega
    refine ⟨_, _, .tup (SqT.of g3) (.cons (.lst (SqL.of g4) (dpAll_ints xs)) (.cons (.lst (SqL.of g5) (dpAll_ints ys)) .nil)), .tup (SqT.of upd_same) (.cons (.lst (SqL.of g1) (dpAll_ints xs)) (.cons (.lst (SqL.of g2) (dpAll_ints ys)) .nil)), sh, sh, ?_⟩
    have ev : PyData.eqv (.tuple [.list (xs.map PyData.int), .list (ys.map PyData.int)]) (.tuple [.list (xs.map PyData.int), .list (ys.map PyData.int)]) = true := by
      simp only [PyData.eqv, PyData.eqvAll, eqv_ints, decide_true, Bool.and_true]
    rw [ev]
    exact ⟨_, rfl, iteF ⟨gv0, tl'⟩⟩
  clear gv tl
  rintro σ H14 ⟨rfl, gv, tl⟩
  -- n out of its range
  refine ⟨fun σ H => ∃ (m : Nat) (D : Addr), n = m ∧ m ≤ 200 ∧ v9 = .ref D ∧ σ = [some (.ref a), some (.ref d), some (.ref na), some (.ref nb), some (.int n), some (.ref l), v6, some (.ref gt), some (.bl (decide ((comF 200 xs ys).length = 1))), some (.ref D), none, none, v12, none] ∧ Gv H na nb gt xs ys ∧ H D = some (.lst ((ser xs ys (m + 1)).map V.int)), ?_, ?_⟩
  · simp only [tSeq, tIfS, tOr, tAnd, tB, tTest, tCB, tCons, tVar, tC, tNil, tNot, tNotV, tRet, tRetN, tNext, tBreak, tOrV, tAndV, tOp, tUn, rEq, rNe, tChain, rI0, rI, rU, tAsg, gName, tDrop, tAug, ipI, tIf, tCall, tCallS, tLst, tTup, tBM, tBM0, rAppend, rExtend, rPop, rReverse, tyV, rIxL, rIxT, rIxS, L2.start, List.map_cons, List.map_nil, List.length_cons, List.length_nil, List.replicate, List.cons_append, List.nil_append, List.append_nil, List.getElem?_cons_zero, List.getElem?_cons_succ, List.set_cons_zero, List.set_cons_succ, Nat.reduceAdd, Nat.reduceSub, Option.some.injEq, exists_eq_left', exists_eq_left, V.int.injEq, V.bl.injEq, V.str.injEq, V.ref.injEq, List.cons.injEq, and_true, true_and, and_assoc, reduceCtorEq, false_and, exists_false, or_false, false_or, exists_and_left, exists_const, scal, Int.reduceLT, Int.reduceLE, Int.reduceSub, Int.reduceAdd, Int.reduceNeg, if_true, if_false]
    rcases tl with ⟨hn, rfl⟩ | ⟨m, rfl, hm, D, rfl, hD⟩
    · refine ite2 (fun c => ⟨rfl, ?_⟩) (fun c => ite2 (fun c2 => ⟨rfl, ?_⟩) (fun c2 => absurd ⟨?_, ?_⟩ hn))
      · exact decide_eq_true rfl
      · exact decide_eq_true rfl
      · exact Int.not_lt.mp fun z => c (decide_eq_true z)
      · exact Int.not_lt.mp fun z => c2 (decide_eq_true z)
    · rw [decide_eq_false (show ¬ (m : Int) < 0 by omega)]
      refine iteF ?_
      rw [decide_eq_false (show ¬ (200 : Int) < m by omega)]
      exact iteF ⟨m, rfl, hm, D, rfl, rfl, gv, hD⟩
  clear gv tl
  rintro σ H15 ⟨m, D, rfl, hm, rfl, rfl, gv, hD15⟩
  -- as long as it should be
  refine ⟨fun σ H => σ = [some (.ref a), some (.ref d), some (.ref na), some (.ref nb), some (.int m), some (.ref l), v6, some (.ref gt), some (.bl (decide ((comF 200 xs ys).length = 1))), some (.ref D), none, none, v12, none] ∧ Gv H na nb gt xs ys ∧ H D = some (.lst ((ser xs ys (m + 1)).map V.int)), ?_, ?_⟩
  · simp only [tSeq, tIfS, tOr, tAnd, tB, tTest, tCB, tCons, tVar, tC, tNil, tNot, tNotV, tRet, tRetN, tNext, tBreak, tOrV, tAndV, tOp, tUn, rEq, rNe, tChain, rI0, rI, rU, tAsg, gName, tDrop, tAug, ipI, tIf, tCall, tCallS, tLst, tTup, tBM, tBM0, rAppend, rExtend, rPop, rReverse, tyV, rIxL, rIxT, rIxS, L2.start, List.map_cons, List.map_nil, List.length_cons, List.length_nil, List.replicate, List.cons_append, List.nil_append, List.append_nil, List.getElem?_cons_zero, List.getElem?_cons_succ, List.set_cons_zero, List.set_cons_succ, Nat.reduceAdd, Nat.reduceSub, Option.some.injEq, exists_eq_left', exists_eq_left, V.int.injEq, V.bl.injEq, V.str.injEq, V.ref.injEq, List.cons.injEq, and_true, true_and, and_assoc, reduceCtorEq, false_and, exists_false, or_false, false_or, exists_and_left, exists_const, scal, Int.reduceLT, Int.reduceLE, Int.reduceSub, Int.reduceAdd, Int.reduceNeg, if_true, if_false]
    refine ⟨_, _, _, _, true, rfl, .ty "list", .base (.lst hD15), kit_ty (by decide +kernel), _, rfl, iteF ⟨_, .inl (SqL.of hD15), ?_⟩⟩
    rw [List.length_map, ser_length, decide_eq_true (show ((m + 1 : Nat) : Int) = (m : Int) + 1 by omega)]
    exact iteF ⟨gv, hD15⟩
  clear gv hD15
  rintro σ H16 ⟨rfl, gv, hD16⟩
  -- product
  have hser := ser_bd gd.2.2.2.2.2.1 gd.2.2.2.2.2.2 gd.2.2.2.2.1 (m + 1)
  refine ⟨fun σ H => ∃ p : Addr, σ = [some (.ref a), some (.ref d), some (.ref na), some (.ref nb), some (.int m), some (.ref l), v6, some (.ref gt), some (.bl (decide ((comF 200 xs ys).length = 1))), some (.ref D), some (.ref p), none, v12, none] ∧ H na = some (.lst (xs.map V.int)) ∧ H p = some (.lst ((prod (ser xs ys (m + 1)) ys).map V.int)), ?_, ?_⟩
  · obtain ⟨c1, c2, g1, g2, g3, g4, g5⟩ := gv
    have z7 := gd.2.2.2.2.1
    exact ⟨_, rfl, _, rfl, D, nb, ser xs ys (m + 1), ys, 10 * (m + 1), 6, rfl, .inl (.inl hD16), .inl (.inl g2), by rw [ser_length]; omega, by omega, hser, gd.2.2.2.2.2.2, by omega, fun p H' hp s' hL => ⟨p, rfl, s' _ _ g1, hL⟩⟩
  clear gv hD16
  rintro σ H17 ⟨p, rfl, hN, hP⟩
  -- item by item
  refine ⟨fun σ H => True, ?_, ?_⟩
  · refine FK.rd_for (J := Itr 0 (m + 1)) (H1 := H17) (fun R r => ?_) walk_nat
      (fun i σ H => ∃ v11 v13 : Option V, σ = [some (.ref a), some (.ref d), some (.ref na), some (.ref nb), some (.int m), some (.ref l), v6, some (.ref gt), some (.bl (decide ((comF 200 xs ys).length = 1))), some (.ref D), some (.ref p), v11, v12, v13] ∧ H = H17) ⟨_, _, rfl, rfl⟩ (fun _ _ _ _ _ => trivial) ?_ (fun _ _ _ => trivial)
    · simp only [iRng1, tSeq, tIfS, tOr, tAnd, tB, tTest, tCB, tCons, tVar, tC, tNil, tNot, tNotV, tRet, tRetN, tNext, tBreak, tOrV, tAndV, tOp, tUn, rEq, rNe, tChain, rI0, rI, rU, tAsg, gName, tDrop, tAug, ipI, tIf, tCall, tCallS, tLst, tTup, tBM, tBM0, rAppend, rExtend, rPop, rReverse, tyV, rIxL, rIxT, rIxS, L2.start, List.map_cons, List.map_nil, List.length_cons, List.length_nil, List.replicate, List.cons_append, List.nil_append, List.append_nil, List.getElem?_cons_zero, List.getElem?_cons_succ, List.set_cons_zero, List.set_cons_succ, Nat.reduceAdd, Nat.reduceSub, Option.some.injEq, exists_eq_left', exists_eq_left, V.int.injEq, V.bl.injEq, V.str.injEq, V.ref.injEq, List.cons.injEq, and_true, true_and, and_assoc, reduceCtorEq, false_and, exists_false, or_false, false_or, exists_and_left, exists_const, scal, Int.reduceLT, Int.reduceLE, Int.reduceSub, Int.reduceAdd, Int.reduceNeg, if_true, if_false]
      refine ⟨by omega, by omega, ?_⟩
      rw [show ((m : Int) + 1).toNat = m + 1 by omega]
      exact r
    · rintro i v σ H1 H2 hi ⟨v11, v13, rfl, rfl⟩ ⟨rfl, hv⟩
      obtain rfl : v = .int (i : Nat) := hv
      simp only [tSeq, tIfS, tOr, tAnd, tB, tTest, tCB, tCons, tVar, tC, tNil, tNot, tNotV, tRet, tRetN, tNext, tBreak, tOrV, tAndV, tOp, tUn, rEq, rNe, tChain, rI0, rI, rU, tAsg, gName, tDrop, tAug, ipI, tIf, tCall, tCallS, tLst, tTup, tBM, tBM0, rAppend, rExtend, rPop, rReverse, tyV, rIxL, rIxT, rIxS, L2.start, List.map_cons, List.map_nil, List.length_cons, List.length_nil, List.replicate, List.cons_append, List.nil_append, List.append_nil, List.getElem?_cons_zero, List.getElem?_cons_succ, List.set_cons_zero, List.set_cons_succ, Nat.reduceAdd, Nat.reduceSub, Option.some.injEq, exists_eq_left', exists_eq_left, V.int.injEq, V.bl.injEq, V.str.injEq, V.ref.injEq, List.cons.injEq, and_true, true_and, and_assoc, reduceCtorEq, false_and, exists_false, or_false, false_or, exists_and_left, exists_const, scal, Int.reduceLT, Int.reduceLE, Int.reduceSub, Int.reduceAdd, Int.reduceNeg, if_true, if_false]
      have hy0 : ys ≠ [] := fun z => by
        have := gd.2.2.1
        rw [z] at this
        cases this
      have hs0 : ser xs ys (m + 1) ≠ [] := fun z => by
        have := ser_length xs ys (m + 1)
        rw [z] at this
        cases this
      have h0 : ys.getD 0 0 = 1 := by
        have := gd.2.2.1
        rw [List.head?_eq_getElem?] at this
        rw [List.getD_eq_getElem?_getD, this]
        rfl
      have ly0 := List.length_pos_iff.mpr hy0
      have hk : (prod (ser xs ys (m + 1)) ys)[i]? = some (xs.getD i 0) := by
        rw [prod_get hs0 hy0 (by rw [ser_length]; omega), ser_length, ser_prod h0 hi]
      have hk2 : atI ((prod (ser xs ys (m + 1)) ys).map V.int) (i : Int) = some (.int (xs.getD i 0)) := atI_nat (by rw [List.getElem?_map, hk]; rfl)
      refine ⟨_, .inl (SqL.of hN), ite2 (fun c => ?_) (fun c => ?_)⟩
      · have c := of_decide_eq_true c
        rw [List.length_map] at c
        refine ⟨_, SqL.of hN, _, atI_getD (by omega), _, SqL.of hP, _, hk2, rfl, ?_⟩
        rw [decide_eq_true rfl]
        exact iteF ⟨_, rfl⟩
      · have c : ¬ _ := fun z => c (decide_eq_true z)
        rw [List.length_map] at c
        have hz : xs.getD i 0 = 0 := getD_len (by omega)
        rw [hz] at hk2
        refine ⟨_, SqL.of hP, _, hk2, rfl, ?_⟩
        rw [decide_eq_true rfl]
        exact iteF ⟨_, rfl⟩
  intro σ H18 _
  exact rfl

end
end K13

namespace K13
open PySem PySem.Spec PyProof.Rows L2
theorem law_holds {P : Program} {w : World} {K : PySem.W.Frag} {mg : Str → Option Value} {h : Heap} {fa : Addr} (inK : K.In h) (T : ∃ cx : Xs, Txt K mg cx) (g : mg "law" = some (.ref fa)) (base : Heap) (s : Shared) (H : Hp) (a : Addr) (ns : List Int) (hl : ns.length ≤ 63) (hb : ∀ z ∈ ns, Builtin.Int.intBits z ≤ 1048576)
    (e0 : Env0 P w K mg base callerA [] s H) (sq : SqL K H a (ns.map V.int)) : codeAny (model P w) callerA (.call (.ref fa) ⟨[.ref a], []⟩) (CR CX0 [] P w H s (fun v _ => v = .bl true) E0) s := by
  obtain ⟨cx, T⟩ := T
  exact ok_law T g ⟨rfl, by decide, by decide⟩ e0 sq hl
end K13
open PySem PySem.W PyProof.Rows
set_option maxHeartbeats 0 in
theorem PySem.Challenge.cw_foldfloor_k13_expansions_holds : PySem.Challenge.rw_foldfloor_k13_expansions.Holds := by
  w_on; o_law; k_head; (case hw => w_witness2)
  k_fill
  refine FK.walk_law (l := PySem.Challenge.rw_foldfloor_k13_expansions) (n := 63) rfl (by decide) rfl (fun w h Y => PySem.W.kIn_of Y) ?F
  intro w mg fa h KX G hmg
  refine K13.law_holds KX ?T hmg
  case T =>
    refine' K13.mk_txt {
      d_trimmed := FK.at_mk KX G ?q1_a ?q1_l ?q1_c ?q1_k (fun _ _ _ _ _ _ us hl => match us, hl with | [_], _ => rfl),
      d_primitive := FK.at_mk KX G ?q2_a ?q2_l ?q2_c ?q2_k (fun _ _ _ _ _ _ us hl => match us, hl with | [_], _ => rfl),
      d_remainder := FK.at_mk KX G ?q3_a ?q3_l ?q3_c ?q3_k (fun _ _ _ _ _ _ us hl => match us, hl with | [_, _], _ => rfl),
      d_common_divisor := FK.at_mk KX G ?q4_a ?q4_l ?q4_c ?q4_k (fun _ _ _ _ _ _ us hl => match us, hl with | [_, _], _ => rfl),
      d_is_polynomial := FK.at_mk KX G ?q5_a ?q5_l ?q5_c ?q5_k (fun _ _ _ _ _ _ us hl => match us, hl with | [_], _ => rfl),
      d_check_fraction := FK.at_mk KX G ?q6_a ?q6_l ?q6_c ?q6_k (fun _ _ _ _ _ _ us hl => match us, hl with | [_], _ => rfl),
      d_terms := FK.at_mk KX G ?q7_a ?q7_l ?q7_c ?q7_k (fun _ _ _ _ _ _ us hl => match us, hl with | [_, _], _ => rfl),
      d_expand := FK.at_mk KX G ?q8_a ?q8_l ?q8_c ?q8_k (fun _ _ _ _ _ _ us hl => match us, hl with | [_, _], _ => rfl),
      d_is_reduced := FK.at_mk KX G ?q9_a ?q9_l ?q9_c ?q9_k (fun _ _ _ _ _ _ us hl => match us, hl with | [_], _ => rfl),
      d_law_number := FK.at_mk KX G ?q10_a ?q10_l ?q10_c ?q10_k (fun _ _ _ _ _ _ us hl => match us, hl with | [_], _ => rfl),
      d_law_draws := FK.at_mk KX G ?q11_a ?q11_l ?q11_c ?q11_k (fun _ _ _ _ _ _ us hl => match us, hl with | [_], _ => rfl),
      d_law_draw := FK.at_mk KX G ?q12_a ?q12_l ?q12_c ?q12_k (fun _ _ _ _ _ _ us hl => match us, hl with | [_], _ => rfl),
      d_law_pick := FK.at_mk KX G ?q13_a ?q13_l ?q13_c ?q13_k (fun _ _ _ _ _ _ us hl => match us, hl with | [_, _], _ => rfl),
      d_law_product := FK.at_mk KX G ?q14_a ?q14_l ?q14_c ?q14_k (fun _ _ _ _ _ _ us hl => match us, hl with | [_, _], _ => rfl),
      d_law_trimmed := FK.at_mk KX G ?q15_a ?q15_l ?q15_c ?q15_k (fun _ _ _ _ _ _ us hl => match us, hl with | [_], _ => rfl),
      d_law_primitive := FK.at_mk KX G ?q16_a ?q16_l ?q16_c ?q16_k (fun _ _ _ _ _ _ us hl => match us, hl with | [_], _ => rfl),
      d_law_rest := FK.at_mk KX G ?q17_a ?q17_l ?q17_c ?q17_k (fun _ _ _ _ _ _ us hl => match us, hl with | [_, _], _ => rfl),
      d_law_degree := FK.at_mk KX G ?q18_a ?q18_l ?q18_c ?q18_k (fun _ _ _ _ _ _ us hl => match us, hl with | [_, _], _ => rfl),
      d_law_polynomial := FK.at_mk KX G ?q19_a ?q19_l ?q19_c ?q19_k (fun _ _ _ _ _ _ us hl => match us, hl with | [_, _], _ => rfl),
      d_law_told := FK.at_mk KX G ?q20_a ?q20_l ?q20_c ?q20_k (fun _ _ _ _ _ _ us hl => match us, hl with | [_, _, _], _ => rfl),
      d_law := FK.at_mk KX G ?q21_a ?q21_l ?q21_c ?q21_k (fun _ _ _ _ _ _ us hl => match us, hl with | [_], _ => rfl),
      n_abs := PySem.W.mg_none_of KX G ?q22_a,
      n_bool := PySem.W.mg_none_of KX G ?q23_a,
      n_enumerate := PySem.W.mg_none_of KX G ?q24_a,
      n_int := PySem.W.mg_none_of KX G ?q25_a,
      n_isinstance := PySem.W.mg_none_of KX G ?q26_a,
      n_len := PySem.W.mg_none_of KX G ?q27_a,
      n_list := PySem.W.mg_none_of KX G ?q28_a,
      n_min := PySem.W.mg_none_of KX G ?q29_a,
      n_range := PySem.W.mg_none_of KX G ?q30_a,
      x_FoldError := FK.xc_mk KX G ?q31_a ?q31_k ?q31_x ?q31_b ?q31_t ?q31_c ?q31_e1 ?q31_e2 ?q31_e4 ?q31_e5 ?q31_e6 ?q31_e7 ?q31_e8,
      x_NotSeries := FK.xc_mk KX G ?q32_a ?q32_k ?q32_x ?q32_b ?q32_t ?q32_c ?q32_e1 ?q32_e2 ?q32_e4 ?q32_e5 ?q32_e6 ?q32_e7 ?q32_e8,
      x_BadNumber := FK.xc_mk KX G ?q33_a ?q33_k ?q33_x ?q33_b ?q33_t ?q33_c ?q33_e1 ?q33_e2 ?q33_e4 ?q33_e5 ?q33_e6 ?q33_e7 ?q33_e8,
      c_MOST_TERMS := PySem.W.mg_of KX G ?q34_a,
      exm_NotSeries := PySem.W.exm_ref ?q35_a ?q35_b ?q35_c ?q35_d,
      kit_NotSeries_NotSeries := FK.kit_same,
      kit_NotSeries_BadNumber := FK.kit_mk ?q37_rfl ?q37_a ?q37_b ?q37_c,
      exm_BadNumber := PySem.W.exm_ref ?q38_a ?q38_b ?q38_c ?q38_d,
      kit_BadNumber_NotSeries := FK.kit_mk ?q39_rfl ?q39_a ?q39_b ?q39_c,
      kit_BadNumber_BadNumber := FK.kit_same,
      n_gcd := PySem.W.mg_of KX G ?q41_a }
    (case q1_a => k_is)
    (case q1_l => k_is)
    (case q1_c => k_is)
    (case q1_k => k_is)
    (case q2_a => k_is)
    (case q2_l => k_is)
    (case q2_c => k_is)
    (case q2_k => k_is)
    (case q3_a => k_is)
    (case q3_l => k_is)
    (case q3_c => k_is)
    (case q3_k => k_is)
    (case q4_a => k_is)
    (case q4_l => k_is)
    (case q4_c => k_is)
    (case q4_k => k_is)
    (case q5_a => k_is)
    (case q5_l => k_is)
    (case q5_c => k_is)
    (case q5_k => k_is)
    (case q6_a => k_is)
    (case q6_l => k_is)
    (case q6_c => k_is)
    (case q6_k => k_is)
    (case q7_a => k_is)
    (case q7_l => k_is)
    (case q7_c => k_is)
    (case q7_k => k_is)
    (case q8_a => k_is)
    (case q8_l => k_is)
    (case q8_c => k_is)
    (case q8_k => k_is)
    (case q9_a => k_is)
    (case q9_l => k_is)
    (case q9_c => k_is)
    (case q9_k => k_is)
    (case q10_a => k_is)
    (case q10_l => k_is)
    (case q10_c => k_is)
    (case q10_k => k_is)
    (case q11_a => k_is)
    (case q11_l => k_is)
    (case q11_c => k_is)
    (case q11_k => k_is)
    (case q12_a => k_is)
    (case q12_l => k_is)
    (case q12_c => k_is)
    (case q12_k => k_is)
    (case q13_a => k_is)
    (case q13_l => k_is)
    (case q13_c => k_is)
    (case q13_k => k_is)
    (case q14_a => k_is)
    (case q14_l => k_is)
    (case q14_c => k_is)
    (case q14_k => k_is)
    (case q15_a => k_is)
    (case q15_l => k_is)
    (case q15_c => k_is)
    (case q15_k => k_is)
    (case q16_a => k_is)
    (case q16_l => k_is)
    (case q16_c => k_is)
    (case q16_k => k_is)
    (case q17_a => k_is)
    (case q17_l => k_is)
    (case q17_c => k_is)
    (case q17_k => k_is)
    (case q18_a => k_is)
    (case q18_l => k_is)
    (case q18_c => k_is)
    (case q18_k => k_is)
    (case q19_a => k_is)
    (case q19_l => k_is)
    (case q19_c => k_is)
    (case q19_k => k_is)
    (case q20_a => k_is)
    (case q20_l => k_is)
    (case q20_c => k_is)
    (case q20_k => k_is)
    (case q21_a => k_is)
    (case q21_l => k_is)
    (case q21_c => k_is)
    (case q21_k => k_is)
    (case q22_a => (try dsimp only); k_is)
    (case q23_a => (try dsimp only); k_is)
    (case q24_a => (try dsimp only); k_is)
    (case q25_a => (try dsimp only); k_is)
    (case q26_a => (try dsimp only); k_is)
    (case q27_a => (try dsimp only); k_is)
    (case q28_a => (try dsimp only); k_is)
    (case q29_a => (try dsimp only); k_is)
    (case q30_a => (try dsimp only); k_is)
    (case q31_a => (try dsimp only); k_is)
    (case q31_k => (try dsimp only); k_is)
    (case q31_x => (try dsimp only); k_exc)
    (case q31_b => (try dsimp only); k_is)
    (case q31_t => (try dsimp only); k_is)
    (case q31_c => (try dsimp only); k_is)
    (case q31_e1 => (try dsimp only); k_is)
    (case q31_e2 => (try dsimp only); k_is)
    (case q31_e4 => (try dsimp only); k_is)
    (case q31_e5 => (try dsimp only); k_is)
    (case q31_e6 => (try dsimp only); k_is)
    (case q31_e7 => (try dsimp only); k_is)
    (case q31_e8 => (try dsimp only); k_is)
    (case q32_a => (try dsimp only); k_is)
    (case q32_k => (try dsimp only); k_is)
    (case q32_x => (try dsimp only); k_exc)
    (case q32_b => (try dsimp only); k_is)
    (case q32_t => (try dsimp only); k_is)
    (case q32_c => (try dsimp only); k_is)
    (case q32_e1 => (try dsimp only); k_is)
    (case q32_e2 => (try dsimp only); k_is)
    (case q32_e4 => (try dsimp only); k_is)
    (case q32_e5 => (try dsimp only); k_is)
    (case q32_e6 => (try dsimp only); k_is)
    (case q32_e7 => (try dsimp only); k_is)
    (case q32_e8 => (try dsimp only); k_is)
    (case q33_a => (try dsimp only); k_is)
    (case q33_k => (try dsimp only); k_is)
    (case q33_x => (try dsimp only); k_exc)
    (case q33_b => (try dsimp only); k_is)
    (case q33_t => (try dsimp only); k_is)
    (case q33_c => (try dsimp only); k_is)
    (case q33_e1 => (try dsimp only); k_is)
    (case q33_e2 => (try dsimp only); k_is)
    (case q33_e4 => (try dsimp only); k_is)
    (case q33_e5 => (try dsimp only); k_is)
    (case q33_e6 => (try dsimp only); k_is)
    (case q33_e7 => (try dsimp only); k_is)
    (case q33_e8 => (try dsimp only); k_is)
    (case q34_a => (try dsimp only); k_is)
    (case q35_a => (try dsimp only); k_is)
    (case q35_b => (try dsimp only); k_is)
    (case q35_c => (try dsimp only); k_is)
    (case q35_d => (try dsimp only); k_is)
    (case q37_rfl => dsimp only; decide)
    (case q37_a => (try dsimp only); k_is)
    (case q37_b => (try dsimp only); k_is)
    (case q37_c => (try dsimp only); k_is)
    (case q38_a => (try dsimp only); k_is)
    (case q38_b => (try dsimp only); k_is)
    (case q38_c => (try dsimp only); k_is)
    (case q38_d => (try dsimp only); k_is)
    (case q39_rfl => dsimp only; decide)
    (case q39_a => (try dsimp only); k_is)
    (case q39_b => (try dsimp only); k_is)
    (case q39_c => (try dsimp only); k_is)
    (case q41_a => (try dsimp only); k_is)

