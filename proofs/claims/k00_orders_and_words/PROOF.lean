import PyProof.Rows.All
import Wide.All
import OpenK.AllK
import Wide.FinOn
import PyProof.EqAt
import PyProof.EqKinds
import PyProof.TupleCall
import PyProof.ReprRoads
import HandS.ForMost
import HandS.Exc
import HandS.TryOnly
import HandS.ExcOwn
import HandS.WordsExc
import HandS.IsInst
import HandS.ExcIs
import HandS.FStr
import HandS.RaiseMore
import HandS.Wide
import HandS.Zip
import HandS.NoneIn
import HandS.Codes
import HandS.EndBits
import HandS.Walk
import PySem.Challenge.RW_foldfloor_k00_orders_and_words
set_option Elab.async false
set_option linter.all false
set_option maxRecDepth 100000
set_option maxHeartbeats 8000000
/-! Own kit: a def bundled with where it stands, calls of such defs, repr of data, the law's entry with nothing being shown. -/
namespace FK
open PySem PySem.Spec PyProof.Rows L2
section
variable {P : Program} {w : World} {K : PySem.W.Frag} {mg : Str → Option Value} {base : Heap}
/-- the def of the statement st stands under its name -/
def At (K : PySem.W.Frag) (mg : Str → Option Value) (x : Str) (st : Stmt) (ps : List Str) : Prop :=
  ∃ (f : Addr) (fd : FuncData), Fun K x x st f fd ∧ mg x = some (.ref f) ∧ Binds K fd ps []
/-- the def of this name keeps the promise -/
def Has (P : Program) (w : World) (K : PySem.W.Frag) (mg : Str → Option Value) (base : Heap) (CX : CXT) (k : Nat) (x : Str) (ps : List Str) (sp : Sp) : Prop :=
  ∃ (f : Addr) (fd : FuncData), FnOk P w K mg base CX k f fd ps sp ∧ mg x = some (.ref f) ∧ PySem.W.keepIn K (.ref f) = true ∧ Binds K fd ps []
theorem Has.mono {CX : CXT} {j k : Nat} {x : Str} {ps : List Str} {sp : Sp} (h : Has P w K mg base CX j x ps sp) (hk : j ≤ k) : Has P w K mg base CX k x ps sp := by
  obtain ⟨f, fd, h1, h2⟩ := h
  exact ⟨f, fd, h1.mono hk, h2⟩
theorem At.ok {x : Str} {st : Stmt} {N ps : List Str} {k : Nat} {sp : Sp} (D : At K mg x st ps) (S : FnScope N ps (defScope st)) (len : ∀ vs H Q E, sp vs H Q E → vs.length = ps.length)
    (hbody : ∀ (f : Addr) (cdv : Value) (A : Around) (outer : List Env) (s : Shared) (H : Hp) (vs : List V) (Q : VK) (E : XK), Room k (A.deeper (envOfC x (defScope st) s.heap.objs.size f cdv)) → sp vs H Q E →
      ∃ t, PSs (cxOf CX0 P w K mg base N x (defScope st) f cdv A outer s H E).nox (defBody st) t ∧ t { nx := fun _ H' => Q .non H', rt := Q } (start N vs) H) : Has P w K mg base CX0 (k + 1) x ps sp := by
  obtain ⟨f, fd, F, g, b⟩ := D
  exact ⟨f, fd, F.ok S len (hbody f), g, F.kp, b⟩
theorem At.okX {x : Str} {st : Stmt} {N ps : List Str} {k : Nat} {sp : Sp} (D : At K mg x st ps) (S : FnScope N ps (defScope st)) (len : ∀ vs H Q E, sp vs H Q E → vs.length = ps.length)
    (hbody : ∀ (f : Addr) (cdv : Value) (A : Around) (outer : List Env) (s : Shared) (H : Hp) (vs : List V) (Q : VK) (E : XK), Room k (A.deeper (envOfC x (defScope st) s.heap.objs.size f cdv)) → sp vs H Q E →
      ∃ t, PSs (cxOf (L2.CX P w) P w K mg base N x (defScope st) f cdv A outer s H E) (defBody st) t ∧ t { nx := fun _ H' => Q .non H', rt := Q } (start N vs) H) : Has P w K mg base (L2.CX P w) (k + 1) x ps sp := by
  obtain ⟨f, fd, F, g, b⟩ := D
  exact ⟨f, fd, F.okX S len (hbody f), g, F.kp, b⟩
end
/-- what the top says of an own error class (no __init__ of its own) that stands at C -/
structure XC (K : PySem.W.Frag) (mg : Str → Option Value) (x : Str) (C : Addr) : Prop where
  g : mg x = some (.ref C)
  k : PySem.W.keepIn K (.ref C) = true
  x : PySem.W.excIn K C [.type "ValueError", .type "Exception", .type "BaseException", .type "object"] "ValueError.__new__" = true
  b : PySem.W.subIn K (.ref C) (.type "BaseException") = some true
  t : PySem.W.typeIn K (.ref C) = some (.type "type")
  c : PySem.W.isClsIn K C = true
  e : ExcC K C
section
variable {X : Cx} {k : Nat} {x : Str} {ps : List Str} {sp : Sp} {p pos : Pos} {e : Expr} {es : List Expr} {t : TA}
/-- f(e, ..), what f lets out goes to E -/
theorem pe_h {CX : CXT} {E : XK} (h : Has X.prog X.w X.K X.mg X.base CX k x ps sp) (hr : Room k X.A) (hx : Passes CX X E) (ha : PA X (e :: es) t) (hg : Gl X x := by rfl) (hdb : (x == ("__debug__" : Str)) = false := by decide)
    (he : starEach (e :: es) X.env = (false, eval e X.env) :: starEach es X.env := by rfl) (hpl : (backTo pos (starEach es X.env)).any (·.1) = false := by rfl) :
    PE X (.Call (.Name x p) (e :: es) [] pos) (tCall sp [] E t) := by
  obtain ⟨f, fd, F, g, kp, b⟩ := h
  exact pe_call F hr hg g kp b .nil hx ha hdb he hpl
theorem pe_h0 {CX : CXT} {E : XK} (h : Has X.prog X.w X.K X.mg X.base CX k x ps sp) (hr : Room k X.A) (hx : Passes CX X E) (hg : Gl X x := by rfl) (hdb : (x == ("__debug__" : Str)) = false := by decide) :
    PE X (.Call (.Name x p) [] [] pos) (tCall sp [] E tNil) := by
  obtain ⟨f, fd, F, g, kp, b⟩ := h
  exact pe_call0 F hr hg g kp b .nil hx hdb
/-- the same in a try's body: what f lets out is wished for at the slots -/
theorem pe_hS {CX : CXT} {E : L2.St → XK} (h : Has X.prog X.w X.K X.mg X.base CX k x ps sp) (hr : Room k X.A) (hx : ∀ σ, PassesAt CX X σ (E σ)) (ha : PA X (e :: es) t) (hg : Gl X x := by rfl) (hdb : (x == ("__debug__" : Str)) = false := by decide)
    (he : starEach (e :: es) X.env = (false, eval e X.env) :: starEach es X.env := by rfl) (hpl : (backTo pos (starEach es X.env)).any (·.1) = false := by rfl) :
    PE X (.Call (.Name x p) (e :: es) [] pos) (tCallS sp E t) := by
  obtain ⟨f, fd, F, g, kp, b⟩ := h
  exact pe_callS F hr hg g kp b hx ha hdb he hpl
/-- repr(x), x data of any depth, where nothing is being shown -/
def rRepr (K : PySem.W.Frag) : List V → Hp → VK → Prop := fun xs H Q => ∃ (x : V) (d : PyData), xs = [x] ∧ Dp K H x d ∧ d.showable = true ∧ d.hasDict = false ∧ d.depth < 40 ∧ d.shown.length ≤ sizeLine ∧ Q (.str d.shown) H
theorem call_repr (hg : X.A.guards = some []) (hr : Room k X.A) : CallR X (.builtin "repr") (rRepr X.K) := by
  intro pins s σ H xs us Q I r h
  obtain ⟨x, d, rfl, hd, hs, hn, hdp, hz, q⟩ := h
  obtain ⟨u, rfl, rx⟩ := vals1 r
  obtain ⟨as, rd⟩ := Dp.reads I d _ u hd rx
  have hu := hr.units
  cases hd with
  | non =>
    cases rx
    exact PySem.P.repr_of_none ⟨.str _, H, I.tok _, ⟨_, rfl⟩, q⟩
  | bl b =>
    cases rx
    exact PySem.P.repr_of_bool ⟨.str _, H, I.tok _, ⟨_, rfl⟩, q⟩
  | int i =>
    obtain ⟨t, rfl⟩ := rx
    exact PySem.P.repr_of_int (of_decide_eq_true hs) ⟨.str _, H, I.tok _, ⟨_, rfl⟩, q⟩
  | str x =>
    obtain ⟨t, rfl⟩ := rx
    exact PySem.P.repr_of_str ⟨.str _, H, I.tok _, ⟨_, rfl⟩, q⟩ hz
  | lst h1 h2 =>
    cases rx
    exact repr_of_reads' (s := s) rd hs (PyData.noDict_hsm hn) hg (by omega) (fun _ _ e => e) (fun h' u tk hk => ⟨.str _, H, I.kept (t' := tk) hk, ⟨u, rfl⟩, q⟩) hz
  | tup h1 h2 =>
    cases rx
    exact repr_of_reads' (s := s) rd hs (PyData.noDict_hsm hn) hg (by omega) (fun _ _ e => e) (fun h' u tk hk => ⟨.str _, H, I.kept (t' := tk) hk, ⟨u, rfl⟩, q⟩) hz
/-- int(n) of a whole number -/
theorem call_intI : CallR X (.type "int") (fun xs H Q => ∃ i, xs = [.int i] ∧ Q (.int i) H) := fun pins s σ H xs us Q I r h => call_int1 pins s σ H xs us Q I r (.inl h)
/-- isinstance(e, c) in the suite that holds e, whatever class e has -/
theorem call_isEx {a : Addr} {oe : Obj} {cls : Value} {dd : Option Addr} {pn : List (Addr × Obj)} (hz : Zc cls dd oe) (hf : ∃ vs, oe.data = .fields vs) :
    CallR (X.suite a ((a, oe) :: pn)) (.builtin "isinstance") (fun xs H Q => ∃ D : Addr, cls = .ref D ∧ dd = none ∧ ExcC X.K D ∧ rIsE X.K D a xs H Q) := by
  intro pins s σ H xs us Q I r h
  obtain ⟨D, rfl, rfl, C, q⟩ := h
  exact call_isE C hz hf pins s σ H xs us Q I r q
end
end FK

/-! Own entry of a law: its def run where the caller stands, with nothing being shown. -/
namespace FK
open PySem PySem.Spec PyProof.Rows L2
section
variable {P : Program} {w : World} {K : PySem.W.Frag} {mg : Str → Option Value} {base : Heap}
/-- the law's def, called by the caller: what its body says of every answer -/
theorem run_def {x q : Str} {pr : Arguments} {body : List Stmt} {sc : Scope} {N ps : List Str} {k : Nat} {f : Addr} {A : Around} {s : Shared} {H : Hp} {us : List Value} {vs : List V} {args : Args} {Q : VK} {kV doc pm cdv ct oc : Value} {an od : Option Addr} {osl : Array (Option Value)}
    (lk : K.lookup f = some ⟨oc, od, .func (PySem.W.fnOf x q pr body sc .none kV doc pm an cdv ct), osl⟩) (hc : PySem.W.codeIn K cdv q = true)
    (S : FnScope N ps sc) (hr : Room (k + 1) A) (e0 : Env0 P w K mg base A [] s H) (hv : Vals vs us) (hl : vs.length = ps.length) (hb : BindsTo s (PySem.W.fnOf x q pr body sc .none kV doc pm an cdv ct) args (ps.zip us))
    {t : TS} (hp : PSs (cxOf CX0 P w K mg base N q sc f cdv A [] s H E0).nox body t) (ht : t { nx := fun _ H' => Q .non H', rt := Q } (start N vs) H) :
    codeAny (model P w) A (.call (.ref f) args) (CR CX0 [] P w H s Q E0) s := by
  have up : ∀ {b : Addr} {o : Obj}, base.get? b = some o → s.heap.get? b = some o := fun {b o} e => (e0.bs b o e).1
  have inK : K.In s.heap := e0.mod.kin.keeps fun _ _ e => up e
  refine codeAny_call_function hr.depth (inK _ _ lk) rfl S.co S.gen rfl (PySem.W.codeRec_of inK hc) (hb _ _ _ _ ?_)
  refine wpAny_newFunctionEnv_cells S.kind (fun z hz => ?_) fun env he s1 C => ?_
  · rcases S.par z.1 (List.of_mem_zip (show (z.1, z.2) ∈ ps.zip us from hz)).1 with c | c
    · exact Or.inl c
    · exact Or.inr ⟨c, PySem.W.cellsFrom_some _ _ _ (Or.inl c)⟩
  · cases he
    have nl : s.heap.NoLimit := e0.mod.nolimit.keeps fun _ _ e => up e
    refine ⟨nl.keeps C.toInCall.keep, codeAny_func ?_⟩
    have I := inv_start (CX := CX0) (qual := q) (f := f) (cd := cdv) (E := E0) S hr.hd e0 hl hv C
    refine wpAny_mono (hp.nox.run [] s1 (start N vs) H _ I ht) (fun fl s2 z => ?_) fun _ _ z => z
    cases fl with
    | ret u => obtain ⟨v, _, H2, J, rv, q⟩ := z; exact ⟨v, H2, J.os, J.bare, J.base, J.hok, rv, q⟩
    | next => obtain ⟨_, H2, J, q⟩ := z; exact ⟨.non, H2, J.os, J.bare, J.base, J.hok, rfl, q⟩
    | brk => exact False.elim (let ⟨_, _, _, q⟩ := z; q)
    | cont => exact False.elim (let ⟨_, _, _, q⟩ := z; q)
/-- from the caller's state to an abstract heap in which nothing but the script may stand -/
theorem law_in {mb : Str → Option Value} {fa a : Addr} {s : Shared} {vs : List Value} {ns : List Int} (inK : K.In s.heap) (gl : s.heap.Ns mainGlobals mg) (bl : s.heap.Ns builtinsNs mb) (bb : ∀ z : Str, z ≠ "__name__" → mb z = bootBuiltins z) (nl : s.heap.NoLimit) (gs : s.gens = #[])
    (la : s.heap.get? a = some { cls := .type "list", data := .seq vs.toArray }) (ia : IntsAre vs ns) (le : ns.length ≤ sizeLine)
    (go : ∀ (base : Heap) (H : Hp), Env0 P w K mg base callerA [] s H → SqL K H a (ns.map V.int) → codeAny (model P w) callerA (.call (.ref fa) ⟨[.ref a], []⟩) (CR CX0 [] P w H s (fun v _ => v = .bl true) E0) s) :
    codeAny (model P w) callerA (.call (.ref fa) ⟨[.ref a], []⟩) (fun r s' => r = .ok (.ret (.bool true)) ∧ OldK s.heap s'.heap ∧ s'.os = s.os ∧ AllBare s'.gens) s := by
  have rv : Vals (ns.map V.int) vs := vals_ints ia
  have lv := ia.length
  have lm : (ns.map V.int).length ≤ sizeLine := by rw [List.length_map]; exact le
  -- the abstract heap: the script, locked, if it is no object of the text itself
  obtain ⟨H, hH⟩ : ∃ H : Hp, ∀ b, H b = if b = a ∧ K.lookup a = none then some (HO.frz { cls := .type "list", data := .seq vs.toArray } (.lst (ns.map V.int))) else none := ⟨_, fun _ => rfl⟩
  have Hno : ∀ {b : Addr}, ¬(b = a ∧ K.lookup a = none) → H b = none := fun {b} c => by rw [hH, if_neg c]
  have Hyes : ∀ {b : Addr} {u : HO}, H b = some u → (b = a ∧ K.lookup a = none) ∧ u = .frz { cls := .type "list", data := .seq vs.toArray } (.lst (ns.map V.int)) := fun {b u} e => by
    rw [hH] at e
    by_cases c : b = a ∧ K.lookup a = none
    · rw [if_pos c] at e; cases e; exact ⟨c, rfl⟩
    · rw [if_neg c] at e; cases e
  have sq : SqL K H a (ns.map V.int) := by
    cases c : K.lookup a with
    | none => exact .inl (.inr ⟨_, by rw [hH, if_pos ⟨rfl, c⟩]⟩)
    | some o =>
      have e := (inK a o c).symm.trans la
      cases e
      exact .inr ⟨_, vs.toArray, _, c, rfl, rfl, rfl, by rw [List.size_toArray, lv]; exact le, by simpa using rv⟩
  have kept : ∀ {b : Addr} {o : Obj}, s.heap.get? b = some o → H b = none → (hidT s.heap H).get? b = some o := fun e n => hidT_get e n
  have ok : HOk P w H s.heap := fun b u e => by
    obtain ⟨⟨rfl, _⟩, rfl⟩ := Hyes e
    exact ⟨la, lm, vs, _, rv, la⟩
  have dk : ∀ {b : Addr} {o : Obj} {es : Array DictEntry} {n : Nat}, s.heap.get? b = some o → o.data = .dict es n → H b = none := fun {b o es n} e d => by
    refine Hno fun c => ?_
    rw [c.1, la] at e
    cases e
    exact nomatch d
  have nsk : ∀ {b : Addr} {m : Str → Option Value}, s.heap.Ns b m → (hidT s.heap H).Ns b m := fun {b m} z => by
    obtain ⟨o, es, n, e, d, r⟩ := z
    exact ⟨o, es, n, kept e (dk e d), d, r⟩
  have kb : K.In (hidT s.heap H) := fun b o e => kept (inK b o e) (Hno fun c => by rw [c.1, c.2] at e; cases e)
  have M : Mod K mg (hidT s.heap H) := ⟨kb, nsk gl, ⟨mb, nsk bl, bb⟩, by obtain ⟨mc, h1, h2⟩ := nl; exact ⟨mc, nsk h1, h2⟩⟩
  have e0 : Env0 P w K mg (hidT s.heap H) callerA [] s H := ⟨rfl, M, fun _ _ e => of_hidT e, Nat.le_of_eq (hidT_size _ _), trivial, fun b hb => absurd (show b ∈ ([] : List Addr) from hb) List.not_mem_nil, ok, .of_eq gs⟩
  refine codeAny_mono (go _ H e0 sq) fun r s' z => ?_
  match r, z with
  | .error _, z => exact False.elim z
  | .ok .next, z => exact False.elim z
  | .ok .brk, z => exact False.elim z
  | .ok .cont, z => exact False.elim z
  | .ok (.ret u), z =>
    obtain ⟨v, H', os, bare, un, ok', rv', ev⟩ := z
    cases (show v = .bl true from ev)
    cases (show u = Value.bool true from rv')
    refine ⟨rfl, OldK.of_keep fun b o e => ?_, os, bare⟩
    cases c : H b with
    | none => exact un.keep b o e c (fun z => absurd (show b ∈ ([] : List Addr) from z) List.not_mem_nil) List.not_mem_nil
    | some u =>
      obtain ⟨_, rfl⟩ := Hyes c
      have g1 := (ok b _ c).1
      have g2 := (ok' b _ (un.frzs b _ _ c)).1
      exact g2.trans (g1.symm.trans e)
/-- a bundled def, called by the caller -/
theorem At.run {x : Str} {st : Stmt} {N ps : List Str} {k : Nat} {fa : Addr} {s : Shared} {H : Hp} {us : List Value} {vs : List V} {Q : VK} (D : At K mg x st ps) (g : mg x = some (.ref fa)) (S : FnScope N ps (defScope st)) (hr : Room (k + 1) callerA)
    (e0 : Env0 P w K mg base callerA [] s H) (hv : Vals vs us) (hl : vs.length = ps.length)
    (go : ∀ (cdv : Value), Room k (callerA.deeper (envOfC x (defScope st) s.heap.objs.size fa cdv)) → (callerA.deeper (envOfC x (defScope st) s.heap.objs.size fa cdv)).guards = some [] →
      ∃ t, PSs (cxOf CX0 P w K mg base N x (defScope st) fa cdv callerA [] s H E0).nox (defBody st) t ∧ t { nx := fun _ H' => Q .non H', rt := Q } (start N vs) H) :
    codeAny (model P w) callerA (.call (.ref fa) ⟨us, []⟩) (CR CX0 [] P w H s Q E0) s := by
  obtain ⟨f, fd, F, g', b⟩ := D
  cases g.symm.trans g'
  obtain ⟨oc, od, kV, doc, pm, an, cdv, ct, osl, rfl, lk, hc⟩ := F.ex
  have inK : K.In s.heap := e0.mod.kin.keeps fun b o e => (e0.bs b o e).1
  have hlu : us.length = ps.length := by rw [← hv.length]; exact hl
  have hb := b s us inK (by rw [List.append_nil]; exact hlu)
  rw [List.append_nil] at hb
  obtain ⟨t, h1, h2⟩ := go cdv (hr.deeper _) rfl
  exact run_def lk hc S hr e0 hv hl hb h1 h2
end
/-- the end of a law row -/
theorem walk_law {l : PySem.W.OpenLaw} {n : Nat} {q : Program} {loose : List Str} {XP : (Str → Option Value) → Heap → Prop} {YP : World → Heap → Prop} {d : DefRec} {K : Params → PySem.W.Frag}
    (hn : l.most = some n) (hn2 : n ≤ sizeLine) (hdf : d.params.defaults = []) (hY : ∀ (w : World) (h : Heap), YP w h → (K w.params).In h)
    (F : ∀ (w : World) (mg : Str → Option Value) (fa : Addr) (h : Heap), (K w.params).In h → h.Ns mainGlobals mg → mg d.name = some (.ref fa) →
      ∀ (base : Heap) (s : Shared) (H : Hp) (a : Addr) (ns : List Int), ns.length ≤ n → (∀ z ∈ ns, Builtin.Int.intBits z ≤ 1048576) → Env0 l.prog w (K w.params) mg base callerA [] s H → SqL (K w.params) H a (ns.map V.int) →
        codeAny (model l.prog w) callerA (.call (.ref fa) ⟨[.ref a], []⟩) (CR CX0 [] l.prog w H s (fun v _ => v = .bl true) E0) s) :
    PySem.W.WalkO q loose XP YP l.row.toRowW d [] (fun f vs => PySem.call f vs) := by
  refine Att.attach_callB hn hdf fun w s0 s mg mb fa o pm cd doc a vs ns G Y ho hd hcd hmg la ia hl hbits gs => ?_
  have inK := hY w _ Y
  exact law_in inK G.T.g G.T.b G.T.builtins G.T.nolimit gs la ia (Nat.le_trans hl hn2) fun base H e0 sq => F w mg fa _ inK G.T.g hmg base s H a ns hl hbits e0 sq
section
variable {K : PySem.W.Frag} {mg : Str → Option Value} {h : Heap}
theorem at_mk {x : Str} {st : Stmt} {ps : List Str} {f : Addr} {oc : Value} {od an : Option Addr} {osl : Array (Option Value)} {kV doc pm cdv ct : Value} (inK : K.In h) (G : h.Ns mainGlobals mg) (a : PySem.W.nsIn K mainGlobals x = some (some (.ref f)))
    (l : K.lookup f = some ⟨oc, od, .func (PySem.W.fnOf x x (defArgs st) (defBody st) (defScope st) .none kV doc pm an cdv ct), osl⟩) (c : PySem.W.codeIn K cdv x = true) (k : PySem.W.keepIn K (.ref f) = true)
    (b : ∀ (kV doc pm : Value) (an : Option Addr) (cdv ct : Value) (us : List Value), us.length = ps.length → bindArgs (PySem.W.fnOf x x (defArgs st) (defBody st) (defScope st) .none kV doc pm an cdv ct) ⟨us, []⟩ = pure (ps.zip us)) : At K mg x st ps :=
  ⟨f, _, fun_mk l c k, PySem.W.mg_of inK G a, (fun_mk l c k).binds b⟩
theorem xc_mk {x : Str} {C : Addr} (inK : K.In h) (G : h.Ns mainGlobals mg) (g : PySem.W.nsIn K mainGlobals x = some (some (.ref C))) (k : PySem.W.keepIn K (.ref C) = true)
    (q : PySem.W.excIn K C [.type "ValueError", .type "Exception", .type "BaseException", .type "object"] "ValueError.__new__" = true) (b : PySem.W.subIn K (.ref C) (.type "BaseException") = some true) (t : PySem.W.typeIn K (.ref C) = some (.type "type")) (c : PySem.W.isClsIn K C = true)
    (e1 : PySem.W.findIn K (.ref C) "__getattribute__" = some (some (.builtin "BaseException.__getattribute__"))) (e2 : PySem.W.findIn K (.ref C) "__getattr__" = some none) (e4 : PySem.W.hasDictIn K C = true) (e5 : PySem.W.findIn K (.ref C) "__class__" = some (some (.builtin "object.__class__")))
    (e6 : PySem.W.specialIn K (.builtin "object.__class__") "__get__" = some (some (.builtin "getset_descriptor.__get__"))) (e7 : PySem.W.takesIn K (.builtin "object.__class__") = some true) (e8 : PySem.W.mroIn K C (.type "object") = some true) : XC K mg x C :=
  ⟨PySem.W.mg_of inK G g, k, q, b, t, c, ⟨e1, e2, b, e4, e5, e6, e7, e8⟩⟩
theorem tup_mk {a : Addr} {items : Array Value} {dd : Option Addr} {n : Nat} {sl : Array (Option Value)} (l : K.lookup a = some ⟨.type "tuple", dd, .seq items n, sl⟩) : ∃ (dd : Option Addr) (n : Nat) (sl : Array (Option Value)), K.lookup a = some ⟨.type "tuple", dd, .seq items n, sl⟩ := ⟨_, _, _, l⟩
theorem tup2s_mk {a : Addr} {x y : Str} {t1 t2 : Tok} {dd : Option Addr} {n : Nat} {sl : Array (Option Value)} (l : K.lookup a = some ⟨.type "tuple", dd, .seq #[.str x t1, .str y t2] n, sl⟩) : ∃ (dd : Option Addr) (n : Nat) (sl : Array (Option Value)) (t1 t2 : Tok), K.lookup a = some ⟨.type "tuple", dd, .seq #[.str x t1, .str y t2] n, sl⟩ := ⟨_, _, _, _, _, l⟩
theorem kit_mk {D C : Addr} {b : Bool} (n : (Value.ref D == Value.ref C) = false) (c : PySem.W.isClsIn K C = true) (t : PySem.W.typeIn K (.ref C) = some (.type "type")) (s : PySem.W.subIn K (.ref D) (.ref C) = some b) : PySem.W.kitOne K (.ref D) (.ref C) = some b := by
  have e : ((PySem.W.clsIn K C).isSome && PySem.W.typeIn K (.ref C) == some (.type "type")) = true := by
    have c' : (PySem.W.clsIn K C).isSome = true := c
    rw [c', t] <;> rfl
  show (if (Value.ref D == Value.ref C) = true then some true else (if ((PySem.W.clsIn K C).isSome && PySem.W.typeIn K (.ref C) == some (.type "type")) = true then PySem.W.subIn K (.ref D) (.ref C) else none)) = some b
  rw [if_neg (by rw [n]; exact Bool.false_ne_true), if_pos e]
  exact s
theorem kit_same {K : PySem.W.Frag} {D : Addr} : PySem.W.kitOne K (.ref D) (.ref D) = some true := by
  show (if (Value.ref D == Value.ref D) = true then some true else _) = some true
  rw [if_pos (beq_self_eq_true _)]
end
end FK

/-! Own readings: loops and comprehensions over a walk, what stands in the heap behind them. -/
namespace FK
open PySem PySem.Spec PyProof.Rows L2
/-- all but what stands at d is as it was -/
def But (d : Addr) (H H' : Hp) : Prop := ∀ b o, b ≠ d → H b = some o → H' b = some o
theorem But.refl {d : Addr} {H : Hp} : But d H H := fun _ _ _ h => h
theorem But.trans {d : Addr} {H H1 H2 : Hp} (a : But d H H1) (b : But d H1 H2) : But d H H2 := fun c o n h => b c o n (a c o n h)
theorem But.of {d : Addr} {H H' : Hp} (a : Same H H') : But d H H' := fun c o _ h => a c o h
theorem But.upd {d : Addr} {H : Hp} {o : HO} : But d H (upd H d o) := fun c u n h => by rw [upd_ne n]; exact h
theorem same_new {H : Hp} {p : Addr} {o : HO} (h : H p = none) : Same H (upd H p o) := fun b u e => by
  have n : b ≠ p := fun z => by rw [z, h] at e; cases e
  rw [upd_ne n]
  exact e
theorem Same.tupS {K : PySem.W.Frag} {H H' : Hp} {a : Addr} {xs : List V} (e : Same H H') (h : SqT K H a xs) : SqT K H' a xs := by
  rcases h with (h | ⟨o, h⟩) | h
  · exact .inl (.inl (e _ _ h))
  · exact .inl (.inr ⟨o, e _ _ h⟩)
  · exact .inr h
/-- a for over a walk, what is walked told by hw -/
theorem rd_for {wi : TI} {g : TG} {tb : TS} {D : Ends} {σ : L2.St} {H H1 : Hp} {J : It} {n : Nat} {G : Hp → Prop} {Y : Nat → Hp → V → Hp → Prop} (hw : ∀ R : It → Hp → Prop, R J H1 → wi σ H R) (w : Walk J n G Y) (Pv : Nat → L2.St → Hp → Prop)
    (h0 : Pv 0 σ H1) (hG : ∀ i σ H, i ≤ n → Pv i σ H → G H)
    (hs : ∀ i x σ H H', i < n → Pv i σ H → Y i H x H' → g x σ H' fun σ2 H2 => tb { D with nx := Pv (i + 1), ct := Pv (i + 1), bk := D.nx } σ2 H2) (hd : ∀ σ H, Pv n σ H → D.nx σ H) : tFor wi g tb D σ H :=
  hw _ (for_it w Pv h0 hG hs hd)
/-- a comprehension over a walk, one plain name, no test: Pv by the turn, the items made and the heap; the new list stands at D, told apart -/
theorem rd_lc {wi : TI} {i : Nat} {te : TE} {vs : List Nat} {σ : L2.St} {H H1 : Hp} {J : It} {n : Nat} {G : Hp → Prop} {Y : Nat → Hp → V → Hp → Prop} {Q : VK} (hw : ∀ R : It → Hp → Prop, R J H1 → wi σ H R) (w : Walk J n G Y)
    (Pv : Nat → List V → Hp → Prop) (h0 : ∀ D, H1 D = none → Pv 0 [] (upd H1 D (.lst [])))
    (hk : ∀ D i acc y H, H1 D = none → H D = some (.lst acc) → Pv i (acc ++ [y]) H → Pv i (acc ++ [y]) (upd H D (.lst (acc ++ [y]))))
    (hG : ∀ i acc H, i ≤ n → Pv i acc H → G H) (hl : n < sizeLine)
    (hv : ∀ x, wipe ((wipe σ vs).set i (some x)) vs = wipe σ vs)
    (hs : ∀ D j x acc H H' (R : VK), H1 D = none → j < n → acc.length = j → Pv j acc H → H D = some (.lst acc) → Y j H x H' →
      (∀ y H4, H4 D = some (.lst acc) → Pv (j + 1) (acc ++ [y]) H4 → R y H4) → te ((wipe σ vs).set i (some x)) H' R)
    (hd : ∀ D acc H, H1 D = none → acc.length = n → Pv n acc H → H D = some (.lst acc) → Q (.ref D) H) : tLc wi (gName i) tYes te vs σ H Q := by
  refine hw _ fun D hD => ?_
  refine lc_it w (fun j H => ∃ acc, acc.length = j ∧ H D = some (.lst acc) ∧ Pv j acc H) ⟨[], rfl, upd_same, h0 D hD⟩ (fun j H hj ⟨acc, _, _, p⟩ => hG j acc H hj p) ?_ ?_
  · intro j x H' H'' hj ⟨acc, ha, hD2, p⟩ y
    refine ⟨hv x, ?_⟩
    simp only [tYes, if_true]
    refine hs D j x acc H' H'' _ hD hj ha p hD2 y fun y' H4 z1 z2 => ?_
    exact ⟨acc, z1, by omega, acc ++ [y'], by rw [List.length_append, ha]; rfl, upd_same, hk D _ acc y' H4 hD z1 z2⟩
  · intro H' ⟨acc, ha, hD2, p⟩
    exact hd D acc H' hD ha p hD2
/-- a comprehension whose items touch nothing: the list zs is made at a new place -/
theorem rd_lc_pure {wi : TI} {i : Nat} {te : TE} {vs : List Nat} {σ : L2.St} {H H1 : Hp} {J : It} {G : Hp → Prop} {Y : Nat → Hp → V → Hp → Prop} {Q : VK} (zs : List V) (hw : ∀ R : It → Hp → Prop, R J H1 → wi σ H R) (w : Walk J zs.length G Y)
    (hG : ∀ D o, H1 D = none → G (upd H1 D o)) (hl : zs.length < sizeLine) (hv : ∀ x, wipe ((wipe σ vs).set i (some x)) vs = wipe σ vs)
    (hs : ∀ D j x z H' H'' (R : VK), H1 D = none → zs[j]? = some z → H' = upd H1 D (.lst (zs.take j)) → Y j H' x H'' → R z H'' → te ((wipe σ vs).set i (some x)) H'' R)
    (hd : ∀ D, H1 D = none → Q (.ref D) (upd H1 D (.lst zs))) (hY : ∀ j H' x H'', Y j H' x H'' → H'' = H') : tLc wi (gName i) tYes te vs σ H Q := by
  have one : ∀ {D D2 : Addr} {o : HO} {u : HO}, H1 D = none → upd H1 D2 o D = some u → D = D2 := fun {D D2 o u} h1 h2 => by
    by_cases c : D = D2
    · exact c
    · rw [upd_ne c, h1] at h2; cases h2
  refine rd_lc hw w (fun j acc H' => ∃ D acc0, H1 D = none ∧ H' = upd H1 D (.lst acc0) ∧ acc = zs.take j) (fun D hD => ⟨D, [], hD, rfl, by simp⟩) ?_ ?_ hl hv ?_ ?_
  · rintro D j acc y H' hD hD2 ⟨D2, acc0, hD3, rfl, e⟩
    have e2 := one hD hD2
    subst e2
    exact ⟨D, _, hD, upd_upd, e⟩
  · rintro j acc H' _ ⟨D, acc0, hD, rfl, _⟩
    exact hG D _ hD
  · rintro D j x acc H' H'' R hD hj ha ⟨D2, acc0, hD3, rfl, rfl⟩ hD2 y go
    have e2 := one hD hD2
    subst e2
    rw [upd_same] at hD2
    cases hD2
    have e3 := hY _ _ _ _ y
    subst e3
    refine hs D j x zs[j] _ _ R hD (List.getElem?_eq_getElem hj) rfl y ?_
    exact go zs[j] _ upd_same ⟨D, _, hD, rfl, by rw [List.take_add_one, List.getElem?_eq_getElem hj]; rfl⟩
  · rintro D acc H' hD ha ⟨D2, acc0, hD3, rfl, rfl⟩ hD2
    have e2 := one hD hD2
    subst e2
    rw [upd_same] at hD2
    cases hD2
    rw [List.take_length]
    exact hd D hD
theorem same_at {H H' : Hp} {p : Addr} {o : HO} (h : H p = none) (s : Same H H') : Same H (upd H' p o) := fun b u e => by
  have n : b ≠ p := fun z => by rw [z, h] at e; cases e
  rw [upd_ne n]
  exact s b u e
/-- a comprehension whose items only lay new things: the list zs is made -/
theorem rd_lc_same {wi : TI} {i : Nat} {te : TE} {vs : List Nat} {σ : L2.St} {H H1 : Hp} {J : It} {G : Hp → Prop} {Y : Nat → Hp → V → Hp → Prop} {Q : VK} (zs : List V) (hw : ∀ R : It → Hp → Prop, R J H1 → wi σ H R) (w : Walk J zs.length G Y)
    (hG : ∀ H', Same H1 H' → G H') (hl : zs.length < sizeLine) (hv : ∀ x, wipe ((wipe σ vs).set i (some x)) vs = wipe σ vs)
    (hs : ∀ j x z H' H'' (R : VK), zs[j]? = some z → Same H1 H' → Y j H' x H'' → (∀ H4, Same H'' H4 → R z H4) → te ((wipe σ vs).set i (some x)) H'' R)
    (hd : ∀ D H', H1 D = none → Same H1 H' → H' D = some (.lst zs) → Q (.ref D) H') (hY : ∀ j H' x H'', Y j H' x H'' → Same H' H'') : tLc wi (gName i) tYes te vs σ H Q := by
  refine rd_lc hw w (fun j acc H' => Same H1 H' ∧ acc = zs.take j) (fun D hD => ⟨same_new hD, by simp⟩) ?_ ?_ hl hv ?_ ?_
  · rintro D j acc y H' hD hD2 ⟨s, e⟩
    exact ⟨same_at hD s, e⟩
  · rintro j acc H' _ ⟨s, _⟩
    exact hG _ s
  · rintro D j x acc H' H'' R hD hj ha ⟨s, rfl⟩ hD2 y go
    refine hs j x zs[j] _ _ R (List.getElem?_eq_getElem hj) s y fun H4 s4 => ?_
    have s5 := (hY _ _ _ _ y).trans s4
    exact go zs[j] _ (s5 _ _ hD2) ⟨s.trans s5, by rw [List.take_add_one, List.getElem?_eq_getElem hj]; rfl⟩
  · rintro D acc H' hD ha ⟨s, rfl⟩ hD2
    rw [List.take_length] at hD2
    exact hd D H' hD s hD2
/-- a comprehension with a test whose items touch nothing -/
theorem rd_lc_filter {wi : TI} {i : Nat} {tt : TT} {te : TE} {vs : List Nat} {σ : L2.St} {H H1 : Hp} {J : It} {G : Hp → Prop} {Q : VK} (xs : List V) (p : V → Bool) (f : V → V) (hw : ∀ R : It → Hp → Prop, R J H1 → wi σ H R) (w : Walk J xs.length G (YAt xs))
    (hG : ∀ D o, H1 D = none → G (upd H1 D o)) (hl : xs.length < sizeLine) (hv : ∀ x, wipe ((wipe σ vs).set i (some x)) vs = wipe σ vs)
    (ht : ∀ x H' (R : Bool → Hp → Prop), x ∈ xs → R (p x) H' → tt ((wipe σ vs).set i (some x)) H' R)
    (hs : ∀ x H' (R : VK), x ∈ xs → p x = true → R (f x) H' → te ((wipe σ vs).set i (some x)) H' R)
    (hd : ∀ D, H1 D = none → Q (.ref D) (upd H1 D (.lst ((xs.filter p).map f)))) : tLc wi (gName i) tt te vs σ H Q := by
  refine hw _ fun D hD => ?_
  refine lc_it w (fun j H' => H' = upd H1 D (.lst (((xs.take j).filter p).map f))) (by simp) (fun j H' hj e => by rw [e]; exact hG D _ hD) ?_ ?_
  · rintro j x H' H'' hj rfl ⟨rfl, hx⟩
    have hm : x ∈ xs := List.mem_of_getElem? hx
    have et : xs.take (j + 1) = xs.take j ++ [x] := by rw [List.take_add_one, hx]; rfl
    refine ⟨hv x, ht x _ _ hm ?_⟩
    cases e : p x with
    | true =>
      refine iteT (hs x _ _ hm e ⟨_, upd_same, ?_, ?_⟩)
      · rw [List.length_map]
        exact Nat.lt_of_le_of_lt (Nat.le_trans (List.length_filter_le _ _) (by rw [List.length_take]; exact Nat.min_le_right _ _)) hl
      · rw [upd_upd, et, List.filter_append, List.map_append]
        simp [e]
    | false =>
      refine iteF ?_
      rw [et, List.filter_append]
      simp [e]
  · rintro H' rfl
    rw [List.take_length]
    exact hd D hD
end FK

namespace K00
open PySem PySem.Spec PyProof.Rows L2
def topS (i : Nat) : Stmt := PySem.Challenge.pw_foldfloor_k00_orders_and_words.main.body.getD i (.Pass ⟨0, 0, 0, 0⟩)
abbrev s_is_order : Stmt := topS 8
abbrev s_is_orders : Stmt := topS 9
abbrev s_check_orders : Stmt := topS 10
abbrev s_is_letter : Stmt := topS 11
abbrev s_are_two_letters : Stmt := topS 12
abbrev s_is_word : Stmt := topS 13
abbrev s_check_long_word : Stmt := topS 14
abbrev s_check_word : Stmt := topS 15
abbrev s_check_two_letters : Stmt := topS 16
abbrev s_order_between : Stmt := topS 17
abbrev s_order_of : Stmt := topS 18
abbrev s_kind_of : Stmt := topS 19
abbrev s_law_number : Stmt := topS 21
abbrev s_law_draws : Stmt := topS 22
abbrev s_law_draw : Stmt := topS 23
abbrev s_law_pick : Stmt := topS 24
abbrev s_law_kind : Stmt := topS 25
abbrev s_law_told : Stmt := topS 26
abbrev s_law : Stmt := topS 27
theorem sc_is_order : FnScope ["order"] ["order"] (defScope s_is_order) := ⟨rfl, rfl, rfl, by decide +kernel, rfl, by decide +kernel, by decide +kernel⟩
theorem sc_is_orders : FnScope ["orders", "order"] ["orders"] (defScope s_is_orders) := ⟨rfl, rfl, rfl, by decide +kernel, rfl, by decide +kernel, by decide +kernel⟩
theorem sc_check_orders : FnScope ["orders"] ["orders"] (defScope s_check_orders) := ⟨rfl, rfl, rfl, by decide +kernel, rfl, by decide +kernel, by decide +kernel⟩
theorem sc_is_letter : FnScope ["text"] ["text"] (defScope s_is_letter) := ⟨rfl, rfl, rfl, by decide +kernel, rfl, by decide +kernel, by decide +kernel⟩
theorem sc_are_two_letters : FnScope ["one", "other"] ["one", "other"] (defScope s_are_two_letters) := ⟨rfl, rfl, rfl, by decide +kernel, rfl, by decide +kernel, by decide +kernel⟩
theorem sc_is_word : FnScope ["text", "most", "letter"] ["text", "most"] (defScope s_is_word) := ⟨rfl, rfl, rfl, by decide +kernel, rfl, by decide +kernel, by decide +kernel⟩
theorem sc_check_long_word : FnScope ["word", "most"] ["word", "most"] (defScope s_check_long_word) := ⟨rfl, rfl, rfl, by decide +kernel, rfl, by decide +kernel, by decide +kernel⟩
theorem sc_check_word : FnScope ["word"] ["word"] (defScope s_check_word) := ⟨rfl, rfl, rfl, by decide +kernel, rfl, by decide +kernel, by decide +kernel⟩
theorem sc_check_two_letters : FnScope ["one", "other"] ["one", "other"] (defScope s_check_two_letters) := ⟨rfl, rfl, rfl, by decide +kernel, rfl, by decide +kernel, by decide +kernel⟩
theorem sc_order_between : FnScope ["orders", "one", "other", "order", "pair"] ["orders", "one", "other"] (defScope s_order_between) := ⟨rfl, rfl, rfl, by decide +kernel, rfl, by decide +kernel, by decide +kernel⟩
theorem sc_order_of : FnScope ["orders", "one", "other"] ["orders", "one", "other"] (defScope s_order_of) := ⟨rfl, rfl, rfl, by decide +kernel, rfl, by decide +kernel, by decide +kernel⟩
theorem sc_kind_of : FnScope ["orders", "finite", "whole", "order", "parts"] ["orders"] (defScope s_kind_of) := ⟨rfl, rfl, rfl, by decide +kernel, rfl, by decide +kernel, by decide +kernel⟩
theorem sc_law_number : FnScope ["cell"] ["cell"] (defScope s_law_number) := ⟨rfl, rfl, rfl, by decide +kernel, rfl, by decide +kernel, by decide +kernel⟩
theorem sc_law_draws : FnScope ["script", "draws", "seed", "cell", "k", "rest", "once", "twice"] ["script"] (defScope s_law_draws) := ⟨rfl, rfl, rfl, by decide +kernel, rfl, by decide +kernel, by decide +kernel⟩
theorem sc_law_draw : FnScope ["draws"] ["draws"] (defScope s_law_draw) := ⟨rfl, rfl, rfl, by decide +kernel, rfl, by decide +kernel, by decide +kernel⟩
theorem sc_law_pick : FnScope ["draws", "many"] ["draws", "many"] (defScope s_law_pick) := ⟨rfl, rfl, rfl, by decide +kernel, rfl, by decide +kernel, by decide +kernel⟩
theorem sc_law_kind : FnScope ["orders", "total", "whole", "k", "p", "q", "r", "order"] ["orders"] (defScope s_law_kind) := ⟨rfl, rfl, rfl, by decide +kernel, rfl, by decide +kernel, by decide +kernel⟩
theorem sc_law_told : FnScope ["way", "orders", "one", "other", "e"] ["way", "orders", "one", "other"] (defScope s_law_told) := ⟨rfl, rfl, rfl, by decide +kernel, rfl, by decide +kernel, by decide +kernel⟩
theorem sc_law : FnScope ["script", "draws", "count", "orders", "good", "order", "one", "other", "due", "word", "at", "k", "way", "letter"] ["script"] (defScope s_law) := ⟨rfl, rfl, rfl, by decide +kernel, rfl, by decide +kernel, by decide +kernel⟩
/-- where the top's classes and constants stand -/
structure Xs where
  FoldError : Addr
  NotOrders : Addr
  NotWord : Addr
  BadNumber : Addr
  a_PAIRS : Addr
  t_MOST_LETTERS : Tok
  b0 : Addr
  b1 : Addr
  b2 : Addr
/-- what the top has written -/
structure Txt (K : PySem.W.Frag) (mg : Str → Option Value) (cx : Xs) : Prop where
  d_is_order : FK.At K mg "is_order" s_is_order ["order"]
  d_is_orders : FK.At K mg "is_orders" s_is_orders ["orders"]
  d_check_orders : FK.At K mg "check_orders" s_check_orders ["orders"]
  d_is_letter : FK.At K mg "is_letter" s_is_letter ["text"]
  d_are_two_letters : FK.At K mg "are_two_letters" s_are_two_letters ["one", "other"]
  d_is_word : FK.At K mg "is_word" s_is_word ["text", "most"]
  d_check_long_word : FK.At K mg "check_long_word" s_check_long_word ["word", "most"]
  d_check_word : FK.At K mg "check_word" s_check_word ["word"]
  d_check_two_letters : FK.At K mg "check_two_letters" s_check_two_letters ["one", "other"]
  d_order_between : FK.At K mg "order_between" s_order_between ["orders", "one", "other"]
  d_order_of : FK.At K mg "order_of" s_order_of ["orders", "one", "other"]
  d_kind_of : FK.At K mg "kind_of" s_kind_of ["orders"]
  d_law_number : FK.At K mg "_law_number" s_law_number ["cell"]
  d_law_draws : FK.At K mg "_law_draws" s_law_draws ["script"]
  d_law_draw : FK.At K mg "_law_draw" s_law_draw ["draws"]
  d_law_pick : FK.At K mg "_law_pick" s_law_pick ["draws", "many"]
  d_law_kind : FK.At K mg "_law_kind" s_law_kind ["orders"]
  d_law_told : FK.At K mg "_law_told" s_law_told ["way", "orders", "one", "other"]
  d_law : FK.At K mg "law" s_law ["script"]
  n_all : mg "all" = none
  n_bool : mg "bool" = none
  n_int : mg "int" = none
  n_isinstance : mg "isinstance" = none
  n_len : mg "len" = none
  n_range : mg "range" = none
  n_repr : mg "repr" = none
  n_sum : mg "sum" = none
  n_tuple : mg "tuple" = none
  n_zip : mg "zip" = none
  x_FoldError : FK.XC K mg "FoldError" cx.FoldError
  x_NotOrders : FK.XC K mg "NotOrders" cx.NotOrders
  x_NotWord : FK.XC K mg "NotWord" cx.NotWord
  x_BadNumber : FK.XC K mg "BadNumber" cx.BadNumber
  c_PAIRS : mg "PAIRS" = some (.ref cx.a_PAIRS)
  c_MOST_LETTERS : mg "MOST_LETTERS" = some (.int 60 cx.t_MOST_LETTERS)
  exm_NotOrders : PySem.W.exmOne K (.ref cx.NotOrders) (.ref cx.FoldError) = some true
  kit_NotOrders_NotOrders : PySem.W.kitOne K (.ref cx.NotOrders) (.ref cx.NotOrders) = some true
  kit_NotOrders_BadNumber : PySem.W.kitOne K (.ref cx.NotOrders) (.ref cx.BadNumber) = some false
  kit_NotOrders_NotWord : PySem.W.kitOne K (.ref cx.NotOrders) (.ref cx.NotWord) = some false
  exm_NotWord : PySem.W.exmOne K (.ref cx.NotWord) (.ref cx.FoldError) = some true
  kit_NotWord_NotOrders : PySem.W.kitOne K (.ref cx.NotWord) (.ref cx.NotOrders) = some false
  kit_NotWord_BadNumber : PySem.W.kitOne K (.ref cx.NotWord) (.ref cx.BadNumber) = some false
  kit_NotWord_NotWord : PySem.W.kitOne K (.ref cx.NotWord) (.ref cx.NotWord) = some true
  p_PAIRS : ∃ (dd : Option Addr) (n : Nat) (sl : Array (Option Value)), K.lookup cx.a_PAIRS = some ⟨.type "tuple", dd, .seq #[.ref cx.b0, .ref cx.b1, .ref cx.b2] n, sl⟩
  p_b0 : ∃ (dd : Option Addr) (n : Nat) (sl : Array (Option Value)) (t1 t2 : Tok), K.lookup cx.b0 = some ⟨.type "tuple", dd, .seq #[.str "0" t1, .str "1" t2] n, sl⟩
  p_b1 : ∃ (dd : Option Addr) (n : Nat) (sl : Array (Option Value)) (t1 t2 : Tok), K.lookup cx.b1 = some ⟨.type "tuple", dd, .seq #[.str "1" t1, .str "2" t2] n, sl⟩
  p_b2 : ∃ (dd : Option Addr) (n : Nat) (sl : Array (Option Value)) (t1 t2 : Tok), K.lookup cx.b2 = some ⟨.type "tuple", dd, .seq #[.str "0" t1, .str "2" t2] n, sl⟩
theorem mk_txt {K : PySem.W.Frag} {mg : Str → Option Value} {y0 : Addr} {y1 : Addr} {y2 : Addr} {y3 : Addr} {y4 : Addr} {y5 : Tok} {y6 : Addr} {y7 : Addr} {y8 : Addr} (T : Txt K mg ⟨y0, y1, y2, y3, y4, y5, y6, y7, y8⟩) : ∃ cx : Xs, Txt K mg cx := ⟨_, T⟩
section
variable {P : Program} {w : World} {K : PySem.W.Frag} {mg : Str → Option Value} {base : Heap} {cx : Xs}
/-- what the orders of a floor are -/
def okOrder (n : Int) : Bool := decide (n = 0) || (decide (2 ≤ n) && decide (n ≤ 12))
def okOrders (ns : List Int) : Bool := decide (ns.length = 3) && ns.all okOrder
theorem tyx_tup {H : Hp} {a : Addr} {xs : List V} (h : SqT K H a xs) : TyX K H (.ref a) (.type "tuple") := by
  rcases h with (h | ⟨o, h⟩) | ⟨o, its, n, hk, hc, _⟩
  · exact .base (.tup h)
  · exact .fTuple h
  · exact .kTuple hk hc
def spIsOrder : Sp := fun vs H Q _ => ∃ n : Int, vs = [.int n] ∧ Q (.bl (okOrder n)) H
theorem ok_is_order (T : Txt K mg cx) : FK.Has P w K mg base CX0 1 "is_order" ["order"] spIsOrder := by
  refine T.d_is_order.ok sc_is_order (fun vs H Q E h => ?_) (fun f cdv A outer s H vs Q E hr h => ?_)
  · obtain ⟨n, rfl, _⟩ := h
    rfl
  · obtain ⟨n, rfl, q⟩ := h
    refine ⟨_, (pss_cons (ps_if (PW.pt (pw_or (pt_val (pe_callB call_isi (by rfl) T.n_isinstance (by decide +kernel) (pa_cons (pv 0) (pa_cons (pe_bltn (v := .ty "bool") (by rfl) T.n_bool (by decide +kernel) rfl) pa_nil)))) (pw_or1 (pt_not (pt_val (pe_callB call_isi (by rfl) T.n_isinstance (by decide +kernel) (pa_cons (pv 0) (pa_cons (pe_bltn (v := .ty "int") (by rfl) T.n_int (by decide +kernel) rfl) pa_nil)))))))) (pss_one (ps_ret pe_bl)) pss_nil)
  (pss_one (ps_ret (pe_or (pe_cmpR op_eq (pv 0) pe_int (nomark _)) (pe_one (pe_chain op_le op_le pe_int (pv 0) pe_int)))))), ?_⟩
    simp only [tSeq, tIfS, tOr, tAnd, tB, tTest, tCB, tCons, tVar, tC, tNil, tNot, tNotV, tRet, tRetN, tNext, tBreak, tOrV, tAndV, tOp, tUn, rEq, rNe, tChain, rI0, rI, rU, tAsg, gName, tDrop, tAug, ipI, tIf, tCall, tCallS, tLst, tTup, tBM, tBM0, rAppend, rExtend, rPop, rReverse, tyV, rIxL, rIxT, rIxS, L2.start, List.map_cons, List.map_nil, List.length_cons, List.length_nil, List.replicate, List.cons_append, List.nil_append, List.append_nil, List.getElem?_cons_zero, List.getElem?_cons_succ, List.set_cons_zero, List.set_cons_succ, Nat.reduceAdd, Nat.reduceSub, Option.some.injEq, exists_eq_left', exists_eq_left, V.int.injEq, V.bl.injEq, V.str.injEq, V.ref.injEq, List.cons.injEq, and_true, true_and, and_assoc, reduceCtorEq, false_and, exists_false, or_false, false_or, exists_and_left, exists_const, scal, Int.reduceLT, Int.reduceLE, Int.reduceSub, Int.reduceAdd, Int.reduceNeg, if_true, if_false]
    refine ⟨_, _, _, _, false, rfl, .ty "bool", .base (.int n), kit_ty (by decide +kernel), _, rfl, iteF ?_⟩
    refine ⟨_, _, _, _, true, rfl, .ty "int", .base (.int n), kit_ty (by decide +kernel), _, rfl, iteF ?_⟩
    unfold okOrder at q
    refine ite2 (fun c => ?_) (fun c => ?_)
    · rw [c] at q
      exact q
    · rw [eq_false_of_ne_true c] at q
      refine ite2 (fun c2 => ?_) (fun c2 => ?_)
      · rw [c2] at q
        exact q
      · rw [eq_false_of_ne_true c2] at q
        exact q
def spIsOrders (K : PySem.W.Frag) : Sp := fun vs H Q _ => ∃ (a : Addr) (ns : List Int), vs = [.ref a] ∧ SqT K H a (ns.map V.int) ∧ ∀ H', Same H H' → Q (.bl (okOrders ns)) H'
theorem ok_is_orders (T : Txt K mg cx) : FK.Has P w K mg base CX0 2 "is_orders" ["orders"] (spIsOrders K) := by
  have H_is_order := ok_is_order (P := P) (w := w) (base := base) T
  refine T.d_is_orders.ok sc_is_orders (fun vs H Q E h => ?_) (fun f cdv A outer s H vs Q E hr h => ?_)
  · obtain ⟨a, ns, rfl, _⟩ := h
    rfl
  · obtain ⟨a, ns, rfl, hS, q⟩ := h
    refine ⟨_, (pss_cons (ps_if (PW.pt (pw_or (pt_not (pt_val (pe_callB call_isi (by rfl) T.n_isinstance (by decide +kernel) (pa_cons (pv 0) (pa_cons (pe_bltn (v := .ty "tuple") (by rfl) T.n_tuple (by decide +kernel) rfl) pa_nil))))) (pw_or1 (pt_cmpR op_ne (pe_callB call_len_seq (by rfl) T.n_len PySem.boot_len (pa_cons (pv 0) pa_nil)) pe_int (nomark _))))) (pss_one (ps_ret pe_bl)) pss_nil)
  (pss_one (ps_ret (pe_callB (cr_all rfl) (by rfl) T.n_all (by decide +kernel) (pa_cons (pe_lc (own := [("order", 1)]) (g := gName 1) (tt := tYes) rfl sc_is_orders.nd (pi_tup (pv 0)) (blkOk_by (own := [("order", 1)]) (N := ["orders", "order"]) (sc := defScope s_is_orders) (by decide +kernel)) (fun _ _ _ _ _ => (pg_name (i := 1) sc_is_orders.nd rfl (Or.inl rfl))) (fun _ _ _ _ _ => pts_nil) (fun _ _ _ _ _ => (FK.pe_h (E := E0) H_is_order (hr.mono (by decide)) pass0 (pa_cons (pv 1) pa_nil)))) pa_nil))))), ?_⟩
    simp only [tSeq, tIfS, tOr, tAnd, tB, tTest, tCB, tCons, tVar, tC, tNil, tNot, tNotV, tRet, tRetN, tNext, tBreak, tOrV, tAndV, tOp, tUn, rEq, rNe, tChain, rI0, rI, rU, tAsg, gName, tDrop, tAug, ipI, tIf, tCall, tCallS, tLst, tTup, tBM, tBM0, rAppend, rExtend, rPop, rReverse, tyV, rIxL, rIxT, rIxS, L2.start, List.map_cons, List.map_nil, List.length_cons, List.length_nil, List.replicate, List.cons_append, List.nil_append, List.append_nil, List.getElem?_cons_zero, List.getElem?_cons_succ, List.set_cons_zero, List.set_cons_succ, Nat.reduceAdd, Nat.reduceSub, Option.some.injEq, exists_eq_left', exists_eq_left, V.int.injEq, V.bl.injEq, V.str.injEq, V.ref.injEq, List.cons.injEq, and_true, true_and, and_assoc, reduceCtorEq, false_and, exists_false, or_false, false_or, exists_and_left, exists_const, scal, Int.reduceLT, Int.reduceLE, Int.reduceSub, Int.reduceAdd, Int.reduceNeg, if_true, if_false]
    refine ⟨_, _, _, _, true, rfl, .ty "tuple", tyx_tup hS, kit_ty (by decide +kernel), _, rfl, iteF ?_⟩
    refine ⟨_, .inr hS, ite2 (fun c => ?_) (fun c => ?_)⟩
    · have e : okOrders ns = false := by
        unfold okOrders
        rw [List.length_map] at c
        rw [decide_eq_false (fun z => by rw [z] at c; exact absurd c (by decide)), Bool.false_and]
      have q2 := q H (Same.refl H)
      rw [e] at q2
      exact q2
    · have e : ns.length = 3 := by
        rw [List.length_map] at c
        have c2 : ((ns.length : Nat) : Int) = 3 := by
          by_cases z : ((ns.length : Nat) : Int) = 3
          · exact z
          · exact absurd (by rw [decide_eq_false z]; rfl) c
        omega
      refine FK.rd_lc_pure (J := Itt K a) (H1 := H) ((ns.map okOrder).map V.bl) (fun R r => ⟨_, rfl, a, rfl, ⟨_, hS⟩, r⟩)
        (by have w := walk_tup (K := K) (a := a) (xs := ns.map V.int); rw [List.length_map] at w; rw [List.length_map, List.length_map]; exact w)
        (fun D o hD => FK.Same.tupS (FK.same_new hD) hS) (by rw [List.length_map, List.length_map, e]; decide) (fun _ => rfl) ?_ ?_ (fun _ _ _ _ (z : _ ∧ _) => z.1)
      · rintro D j x z H' H'' R hD hz rfl ⟨rfl, hx⟩ go
        rw [List.getElem?_map] at hx hz
        rw [List.getElem?_map] at hz
        cases en : ns[j]? with
        | none => rw [en] at hx; cases hx
        | some n =>
          rw [en] at hx hz
          cases hx
          cases hz
          simp only [tSeq, tIfS, tOr, tAnd, tB, tTest, tCB, tCons, tVar, tC, tNil, tNot, tNotV, tRet, tRetN, tNext, tBreak, tOrV, tAndV, tOp, tUn, rEq, rNe, tChain, rI0, rI, rU, tAsg, gName, tDrop, tAug, ipI, tIf, tCall, tCallS, tLst, tTup, tBM, tBM0, rAppend, rExtend, rPop, rReverse, tyV, rIxL, rIxT, rIxS, L2.start, List.map_cons, List.map_nil, List.length_cons, List.length_nil, List.replicate, List.cons_append, List.nil_append, List.append_nil, List.getElem?_cons_zero, List.getElem?_cons_succ, List.set_cons_zero, List.set_cons_succ, Nat.reduceAdd, Nat.reduceSub, Option.some.injEq, exists_eq_left', exists_eq_left, V.int.injEq, V.bl.injEq, V.str.injEq, V.ref.injEq, List.cons.injEq, and_true, true_and, and_assoc, reduceCtorEq, false_and, exists_false, or_false, false_or, exists_and_left, exists_const, scal, Int.reduceLT, Int.reduceLE, Int.reduceSub, Int.reduceAdd, Int.reduceNeg, if_true, if_false, wipe]
          exact ⟨n, rfl, go⟩
      · intro D hD
        refine ⟨D, ns.map okOrder, rfl, SqL.of upd_same, ?_⟩
        have e2 : okOrders ns = (ns.map okOrder).all id := by
          unfold okOrders
          rw [e, List.all_map]
          rfl
        rw [← e2]
        exact q _ (FK.same_new hD)
def spCheckOrders (K : PySem.W.Frag) (C : Addr) : Sp := fun vs H Q E => ∃ (a : Addr) (ns : List Int), vs = [.ref a] ∧ SqT K H a (ns.map V.int) ∧ (okOrders ns = false → ∀ H', Same H H' → E (.ref C) none H') ∧ (okOrders ns = true → ∀ H', Same H H' → Q .non H')
theorem ok_check_orders (T : Txt K mg cx) : FK.Has P w K mg base (L2.CX P w) 4 "check_orders" ["orders"] (spCheckOrders K cx.NotOrders) := by
  have H_is_orders := ok_is_orders (P := P) (w := w) (base := base) T
  refine T.d_check_orders.okX sc_check_orders (fun vs H Q E h => ?_) (fun f cdv A outer s H vs Q E hr h => ?_)
  · obtain ⟨a, ns, rfl, _⟩ := h
    rfl
  · obtain ⟨a, ns, rfl, hS, qE, q⟩ := h
    refine ⟨_, (pss_one (ps_if (pt_not (pt_val (FK.pe_h (E := E0) H_is_orders (hr.mono (by decide)) pass0 (pa_cons (pv 0) pa_nil)))) (pss_one (ps_raise rfl (takes_of rfl rfl rfl rfl) (pmk_own PySem.F.excBase_ValueError T.x_NotOrders.x T.x_NotOrders.g T.x_NotOrders.k (raises_own T.x_NotOrders.b T.x_NotOrders.t) (by exact rfl)))) pss_nil)), ?_⟩
    simp only [tSeq, tIfS, tOr, tAnd, tB, tTest, tCB, tCons, tVar, tC, tNil, tNot, tNotV, tRet, tRetN, tNext, tBreak, tOrV, tAndV, tOp, tUn, rEq, rNe, tChain, rI0, rI, rU, tAsg, gName, tDrop, tAug, ipI, tIf, tCall, tCallS, tLst, tTup, tBM, tBM0, rAppend, rExtend, rPop, rReverse, tyV, rIxL, rIxT, rIxS, L2.start, List.map_cons, List.map_nil, List.length_cons, List.length_nil, List.replicate, List.cons_append, List.nil_append, List.append_nil, List.getElem?_cons_zero, List.getElem?_cons_succ, List.set_cons_zero, List.set_cons_succ, Nat.reduceAdd, Nat.reduceSub, Option.some.injEq, exists_eq_left', exists_eq_left, V.int.injEq, V.bl.injEq, V.str.injEq, V.ref.injEq, List.cons.injEq, and_true, true_and, and_assoc, reduceCtorEq, false_and, exists_false, or_false, false_or, exists_and_left, exists_const, scal, Int.reduceLT, Int.reduceLE, Int.reduceSub, Int.reduceAdd, Int.reduceNeg, if_true, if_false]
    refine ⟨a, ns, rfl, hS, fun H' hs => ⟨_, rfl, ?_⟩⟩
    cases e : okOrders ns with
    | false => exact iteT (qE e H' hs)
    | true => exact iteF (q e H' hs)
/-- one letter -/
def isLet (x : Str) : Bool := inV (.str x) [.str "0", .str "1", .str "2"]
def spIsLetter : Sp := fun vs H Q _ => ∃ x : Str, vs = [.str x] ∧ ∀ H', Same H H' → Q (.bl (isLet x)) H'
theorem ok_is_letter (T : Txt K mg cx) : FK.Has P w K mg base CX0 1 "is_letter" ["text"] spIsLetter := by
  refine T.d_is_letter.ok sc_is_letter (fun vs H Q E h => ?_) (fun f cdv A outer s H vs Q E hr h => ?_)
  · obtain ⟨n, rfl, _⟩ := h
    rfl
  · obtain ⟨x, rfl, q⟩ := h
    refine ⟨_, (pss_one (ps_ret (pe_cmpR op_in_seq (pv 0) (pe_tup (pa_cons pe_str (pa_cons pe_str (pa_cons pe_str pa_nil)))) (by rfl)))), ?_⟩
    simp only [tSeq, tIfS, tOr, tAnd, tB, tTest, tCB, tCons, tVar, tC, tNil, tNot, tNotV, tRet, tRetN, tNext, tBreak, tOrV, tAndV, tOp, tUn, rEq, rNe, tChain, rI0, rI, rU, tAsg, gName, tDrop, tAug, ipI, tIf, tCall, tCallS, tLst, tTup, tBM, tBM0, rAppend, rExtend, rPop, rReverse, tyV, rIxL, rIxT, rIxS, L2.start, List.map_cons, List.map_nil, List.length_cons, List.length_nil, List.replicate, List.cons_append, List.nil_append, List.append_nil, List.getElem?_cons_zero, List.getElem?_cons_succ, List.set_cons_zero, List.set_cons_succ, Nat.reduceAdd, Nat.reduceSub, Option.some.injEq, exists_eq_left', exists_eq_left, V.int.injEq, V.bl.injEq, V.str.injEq, V.ref.injEq, List.cons.injEq, and_true, true_and, and_assoc, reduceCtorEq, false_and, exists_false, or_false, false_or, exists_and_left, exists_const, scal, Int.reduceLT, Int.reduceLE, Int.reduceSub, Int.reduceAdd, Int.reduceNeg, if_true, if_false]
    exact ⟨by decide, fun p hp => ⟨p, _, rfl, .inr (SqT.of upd_same), rfl, rfl, q _ (FK.same_new hp)⟩⟩
def twoLet (x y : Str) : Bool := isLet x && (isLet y && !decide (x = y))
def spTwoLetters : Sp := fun vs H Q _ => ∃ x y : Str, vs = [.str x, .str y] ∧ ∀ H', Same H H' → Q (.bl (twoLet x y)) H'
theorem ok_are_two_letters (T : Txt K mg cx) : FK.Has P w K mg base CX0 2 "are_two_letters" ["one", "other"] spTwoLetters := by
  have H_is_letter := ok_is_letter (P := P) (w := w) (base := base) T
  refine T.d_are_two_letters.ok sc_are_two_letters (fun vs H Q E h => ?_) (fun f cdv A outer s H vs Q E hr h => ?_)
  · obtain ⟨n, m, rfl, _⟩ := h
    rfl
  · obtain ⟨x, y, rfl, q⟩ := h
    refine ⟨_, (pss_one (ps_ret (pe_and (FK.pe_h (E := E0) H_is_letter (hr.mono (by decide)) pass0 (pa_cons (pv 0) pa_nil)) (pe_and (FK.pe_h (E := E0) H_is_letter (hr.mono (by decide)) pass0 (pa_cons (pv 1) pa_nil)) (pe_one (pe_cmpR op_ne (pv 0) (pv 1) (nomark _))))))), ?_⟩
    simp only [tSeq, tIfS, tOr, tAnd, tB, tTest, tCB, tCons, tVar, tC, tNil, tNot, tNotV, tRet, tRetN, tNext, tBreak, tOrV, tAndV, tOp, tUn, rEq, rNe, tChain, rI0, rI, rU, tAsg, gName, tDrop, tAug, ipI, tIf, tCall, tCallS, tLst, tTup, tBM, tBM0, rAppend, rExtend, rPop, rReverse, tyV, rIxL, rIxT, rIxS, L2.start, List.map_cons, List.map_nil, List.length_cons, List.length_nil, List.replicate, List.cons_append, List.nil_append, List.append_nil, List.getElem?_cons_zero, List.getElem?_cons_succ, List.set_cons_zero, List.set_cons_succ, Nat.reduceAdd, Nat.reduceSub, Option.some.injEq, exists_eq_left', exists_eq_left, V.int.injEq, V.bl.injEq, V.str.injEq, V.ref.injEq, List.cons.injEq, and_true, true_and, and_assoc, reduceCtorEq, false_and, exists_false, or_false, false_or, exists_and_left, exists_const, scal, Int.reduceLT, Int.reduceLE, Int.reduceSub, Int.reduceAdd, Int.reduceNeg, if_true, if_false]
    refine ⟨x, rfl, fun H1 s1 => ⟨_, rfl, ?_⟩⟩
    unfold twoLet at q
    cases e : isLet x with
    | false =>
      rw [e] at q
      exact iteF (q H1 s1)
    | true =>
      rw [e] at q
      refine iteT ⟨y, rfl, fun H2 s2 => ⟨_, rfl, ?_⟩⟩
      cases e2 : isLet y with
      | false =>
        rw [e2] at q
        exact iteF (q H2 (s1.trans s2))
      | true =>
        rw [e2] at q
        exact iteT (q H2 (s1.trans s2))
/-- a word of at most so many letters -/
def okWord (x : Str) (m : Int) : Bool := decide ((x.length : Int) ≤ m) && x.cps.toList.all fun c => isLet ⟨#[c]⟩
def spIsWord : Sp := fun vs H Q _ => ∃ (x : Str) (m : Int), vs = [.str x, .int m] ∧ x.length < sizeLine ∧ ∀ H', Same H H' → Q (.bl (okWord x m)) H'
theorem ok_is_word (T : Txt K mg cx) : FK.Has P w K mg base CX0 2 "is_word" ["text", "most"] spIsWord := by
  have H_is_letter := ok_is_letter (P := P) (w := w) (base := base) T
  refine T.d_is_word.ok sc_is_word (fun vs H Q E h => ?_) (fun f cdv A outer s H vs Q E hr h => ?_)
  · obtain ⟨n, m, rfl, _⟩ := h
    rfl
  · obtain ⟨x, m, rfl, hx, q⟩ := h
    refine ⟨_, (pss_one (ps_ret (pe_and (pe_cmpR op_le (pe_callB call_len_str (by rfl) T.n_len PySem.boot_len (pa_cons (pv 0) pa_nil)) (pv 1) (nomark _)) (pe_one (pe_callB (cr_all rfl) (by rfl) T.n_all (by decide +kernel) (pa_cons (pe_lc (own := [("letter", 2)]) (g := gName 2) (tt := tYes) rfl sc_is_word.nd (pi_str (pv 0)) (blkOk_by (own := [("letter", 2)]) (N := ["text", "most", "letter"]) (sc := defScope s_is_word) (by decide +kernel)) (fun _ _ _ _ _ => (pg_name (i := 2) sc_is_word.nd rfl (Or.inl rfl))) (fun _ _ _ _ _ => pts_nil) (fun _ _ _ _ _ => (FK.pe_h (E := E0) H_is_letter (hr.mono (by decide)) pass0 (pa_cons (pv 2) pa_nil)))) pa_nil)))))), ?_⟩
    simp only [tSeq, tIfS, tOr, tAnd, tB, tTest, tCB, tCons, tVar, tC, tNil, tNot, tNotV, tRet, tRetN, tNext, tBreak, tOrV, tAndV, tOp, tUn, rEq, rNe, tChain, rI0, rI, rU, tAsg, gName, tDrop, tAug, ipI, tIf, tCall, tCallS, tLst, tTup, tBM, tBM0, rAppend, rExtend, rPop, rReverse, tyV, rIxL, rIxT, rIxS, L2.start, List.map_cons, List.map_nil, List.length_cons, List.length_nil, List.replicate, List.cons_append, List.nil_append, List.append_nil, List.getElem?_cons_zero, List.getElem?_cons_succ, List.set_cons_zero, List.set_cons_succ, Nat.reduceAdd, Nat.reduceSub, Option.some.injEq, exists_eq_left', exists_eq_left, V.int.injEq, V.bl.injEq, V.str.injEq, V.ref.injEq, List.cons.injEq, and_true, true_and, and_assoc, reduceCtorEq, false_and, exists_false, or_false, false_or, exists_and_left, exists_const, scal, Int.reduceLT, Int.reduceLE, Int.reduceSub, Int.reduceAdd, Int.reduceNeg, if_true, if_false]
    refine ⟨Nat.le_of_lt hx, ?_⟩
    unfold okWord at q
    cases e : decide ((x.length : Int) ≤ m) with
    | false =>
      rw [e] at q
      exact iteF (q H (Same.refl H))
    | true =>
      rw [e] at q
      refine iteT ?_
      have hn : ((x.cps.toList.map fun c => isLet ⟨#[c]⟩).map V.bl).length = x.cps.size := by simp
      refine FK.rd_lc_same (J := Its x) (H1 := H) ((x.cps.toList.map fun c => isLet ⟨#[c]⟩).map V.bl) (fun R r => ⟨_, rfl, x, rfl, r⟩) (by rw [hn]; exact walk_str) (fun _ _ => trivial) (by rw [hn]; exact hx) (fun _ => rfl) ?_ ?_ (fun _ _ _ _ (z : _ ∧ _) => by rw [z.1]; exact Same.refl _)
      · rintro j v z H' H'' R hz s1 ⟨rfl, c, hc, rfl⟩ go
        rw [List.getElem?_map, List.getElem?_map, Array.getElem?_toList, hc] at hz
        cases hz
        simp only [tSeq, tIfS, tOr, tAnd, tB, tTest, tCB, tCons, tVar, tC, tNil, tNot, tNotV, tRet, tRetN, tNext, tBreak, tOrV, tAndV, tOp, tUn, rEq, rNe, tChain, rI0, rI, rU, tAsg, gName, tDrop, tAug, ipI, tIf, tCall, tCallS, tLst, tTup, tBM, tBM0, rAppend, rExtend, rPop, rReverse, tyV, rIxL, rIxT, rIxS, L2.start, List.map_cons, List.map_nil, List.length_cons, List.length_nil, List.replicate, List.cons_append, List.nil_append, List.append_nil, List.getElem?_cons_zero, List.getElem?_cons_succ, List.set_cons_zero, List.set_cons_succ, Nat.reduceAdd, Nat.reduceSub, Option.some.injEq, exists_eq_left', exists_eq_left, V.int.injEq, V.bl.injEq, V.str.injEq, V.ref.injEq, List.cons.injEq, and_true, true_and, and_assoc, reduceCtorEq, false_and, exists_false, or_false, false_or, exists_and_left, exists_const, scal, Int.reduceLT, Int.reduceLE, Int.reduceSub, Int.reduceAdd, Int.reduceNeg, if_true, if_false, wipe]
        exact ⟨_, rfl, fun H4 s4 => go H4 s4⟩
      · intro D H' hD s1 hD2
        refine ⟨D, _, rfl, SqL.of hD2, ?_⟩
        have q2 := q H' s1
        rw [show (true && x.cps.toList.all fun c => isLet ⟨#[c]⟩) = (x.cps.toList.map fun c => isLet ⟨#[c]⟩).all id by rw [List.all_map]; rfl] at q2
        exact q2

theorem pairs_sq (T : Txt K mg cx) (H : Hp) : SqT K H cx.a_PAIRS [.ref cx.b0, .ref cx.b1, .ref cx.b2] := by
  obtain ⟨dd, n, sl, l⟩ := T.p_PAIRS
  exact .inr ⟨_, _, _, l, rfl, rfl, show (_ : Nat) ≤ 16777216 from (by simp), .cons rfl (.cons rfl (.cons rfl .nil))⟩
theorem pair_sq {b : Addr} {x y : Str} (p : ∃ (dd : Option Addr) (n : Nat) (sl : Array (Option Value)) (t1 t2 : Tok), K.lookup b = some ⟨.type "tuple", dd, .seq #[.str x t1, .str y t2] n, sl⟩) (H : Hp) : SqT K H b [.str x, .str y] := by
  obtain ⟨dd, n, sl, t1, t2, l⟩ := p
  exact .inr ⟨_, _, _, l, rfl, rfl, show (_ : Nat) ≤ 16777216 from (by simp), .cons ⟨t1, rfl⟩ (.cons ⟨t2, rfl⟩ .nil)⟩
def inP (x y p q : Str) : Bool := inV (.str x) [.str p, .str q] && inV (.str y) [.str p, .str q]
/-- the order of two letters -/
def betw (m0 m1 m2 : Int) (x y : Str) : Int := if inP x y "0" "1" = true then m0 else if inP x y "1" "2" = true then m1 else if inP x y "0" "2" = true then m2 else 0
def spBetween (K : PySem.W.Frag) : Sp := fun vs H Q _ => ∃ (a : Addr) (m0 m1 m2 : Int) (x y : Str), vs = [.ref a, .str x, .str y] ∧ SqT K H a [.int m0, .int m1, .int m2] ∧ ∀ H', Same H H' → Q (.int (betw m0 m1 m2 x y)) H'
theorem ok_order_between (T : Txt K mg cx) : FK.Has P w K mg base CX0 1 "order_between" ["orders", "one", "other"] (spBetween K) := by
  refine T.d_order_between.ok sc_order_between (fun vs H Q E h => ?_) (fun f cdv A outer s H vs Q E hr h => ?_)
  · obtain ⟨a, m0, m1, m2, x, y, rfl, _⟩ := h
    rfl
  · obtain ⟨a, m0, m1, m2, x, y, rfl, hS, q⟩ := h
    refine ⟨_, (pss_cons (ps_for PassesOwn.never rfl (RZ.pi_zipA (by rfl) T.n_zip (pa_cons (pv 0) (pa_cons (pe_glob (v := .ref cx.a_PAIRS) rfl T.c_PAIRS rfl) pa_nil))) (pg_tup rfl (pgs_cons (pg_name (i := 3) sc_order_between.nd rfl (Or.inl rfl)) (pgs_cons (pg_name (i := 4) sc_order_between.nd rfl (Or.inl rfl)) pgs_nil)))
  (pss_one (ps_if (PW.pt (pw_and (pt_cmpR op_in_seq (pv 1) (pv 4) (by rfl)) (pw_and1 (pt_cmpR op_in_seq (pv 2) (pv 4) (by rfl))))) (pss_one (ps_ret (pv 3))) pss_nil)))
  (pss_one (ps_ret pe_int))), ?_⟩
    simp only [tSeq, tIfS, tOr, tAnd, tB, tTest, tCB, tCons, tVar, tC, tNil, tNot, tNotV, tRet, tRetN, tNext, tBreak, tOrV, tAndV, tOp, tUn, rEq, rNe, tChain, rI0, rI, rU, tAsg, gName, tDrop, tAug, ipI, tIf, tCall, tCallS, tLst, tTup, tBM, tBM0, rAppend, rExtend, rPop, rReverse, tyV, rIxL, rIxT, rIxS, L2.start, List.map_cons, List.map_nil, List.length_cons, List.length_nil, List.replicate, List.cons_append, List.nil_append, List.append_nil, List.getElem?_cons_zero, List.getElem?_cons_succ, List.set_cons_zero, List.set_cons_succ, Nat.reduceAdd, Nat.reduceSub, Option.some.injEq, exists_eq_left', exists_eq_left, V.int.injEq, V.bl.injEq, V.str.injEq, V.ref.injEq, List.cons.injEq, and_true, true_and, and_assoc, reduceCtorEq, false_and, exists_false, or_false, false_or, exists_and_left, exists_const, scal, Int.reduceLT, Int.reduceLE, Int.reduceSub, Int.reduceAdd, Int.reduceNeg, if_true, if_false]
    have hP := pairs_sq T
    have turn : ∀ (b : Addr) (p r : Str) (m : Int) (D : Ends) (H' : Hp) (v3 v4 : Option V) (tp : Addr), SqT K H' b [.str p, .str r] → Same H H' → H' tp = none →
        (inP x y p r = true → D.rt (.int m) (upd H' tp (.tup [.int m, .ref b]))) → (inP x y p r = false → D.nx [some (.ref a), some (.str x), some (.str y), some (.int m), some (.ref b)] (upd H' tp (.tup [.int m, .ref b]))) →
        tIfS (tAnd (tTest (tOp (rIn K false) (tVar 1) (tVar 4))) (tTest (tOp (rIn K false) (tVar 2) (tVar 4)))) (tRet (tVar 3)) tNext D [some (.ref a), some (.str x), some (.str y), some (.int m), some (.ref b)] (upd H' tp (.tup [.int m, .ref b])) := by
      intro b p r m D H' v3 v4 tp hb s1 hn q1 q2
      have hb2 := FK.Same.tupS (FK.same_new (o := .tup [.int m, .ref b]) hn) hb
      simp only [tSeq, tIfS, tOr, tAnd, tB, tTest, tCB, tCons, tVar, tC, tNil, tNot, tNotV, tRet, tRetN, tNext, tBreak, tOrV, tAndV, tOp, tUn, rEq, rNe, tChain, rI0, rI, rU, tAsg, gName, tDrop, tAug, ipI, tIf, tCall, tCallS, tLst, tTup, tBM, tBM0, rAppend, rExtend, rPop, rReverse, tyV, rIxL, rIxT, rIxS, L2.start, List.map_cons, List.map_nil, List.length_cons, List.length_nil, List.replicate, List.cons_append, List.nil_append, List.append_nil, List.getElem?_cons_zero, List.getElem?_cons_succ, List.set_cons_zero, List.set_cons_succ, Nat.reduceAdd, Nat.reduceSub, Option.some.injEq, exists_eq_left', exists_eq_left, V.int.injEq, V.bl.injEq, V.str.injEq, V.ref.injEq, List.cons.injEq, and_true, true_and, and_assoc, reduceCtorEq, false_and, exists_false, or_false, false_or, exists_and_left, exists_const, scal, Int.reduceLT, Int.reduceLE, Int.reduceSub, Int.reduceAdd, Int.reduceNeg, if_true, if_false]
      unfold inP at q1 q2
      refine ⟨b, _, rfl, .inr hb2, rfl, rfl, _, rfl, ?_⟩
      cases e : inV (.str x) [.str p, .str r] with
      | false =>
        rw [e] at q2
        exact iteF (q2 rfl)
      | true =>
        rw [e] at q1 q2
        refine iteT ⟨b, _, rfl, .inr hb2, rfl, rfl, _, rfl, ?_⟩
        cases e2 : inV (.str y) [.str p, .str r] with
        | false =>
          rw [e2] at q2
          exact iteF (q2 rfl)
        | true =>
          rw [e2] at q1
          exact iteT (q1 rfl)
    refine ⟨_, rfl, a, cx.a_PAIRS, _, _, rfl, .inr ⟨hS, hP H, RZ.for_zipT (xs := [.int m0, .int m1, .int m2]) (ys := [.ref cx.b0, .ref cx.b1, .ref cx.b2]) rfl
      (fun i σ H' => ∃ v3 v4 : Option V, σ = [some (.ref a), some (.str x), some (.str y), v3, v4] ∧ Same H H' ∧ (1 ≤ i → inP x y "0" "1" = false) ∧ (2 ≤ i → inP x y "1" "2" = false) ∧ (3 ≤ i → inP x y "0" "2" = false))
      ⟨none, none, rfl, Same.refl H, by omega, by omega, by omega⟩ (fun i σ H' ⟨_, _, _, s1, _⟩ => ⟨FK.Same.tupS s1 hS, hP H'⟩) ?_ ?_⟩⟩
    · rintro i v u tp σ H' hv hu ⟨v3, v4, rfl, s1, c1, c2, c3⟩ hn
      have gt : ∀ (m : Int) (b : Addr) (tb : TS) (D : Ends), tb D [some (.ref a), some (.str x), some (.str y), some (.int m), some (.ref b)] (upd H' tp (.tup [.int m, .ref b])) →
          gTup K 2 (gCons (gName 3) (gCons (gName 4) gNil)) (.ref tp) [some (.ref a), some (.str x), some (.str y), v3, v4] (upd H' tp (.tup [.int m, .ref b])) (fun σ2 H2 => tb D σ2 H2) :=
        fun m b tb D h => ⟨tp, _, rfl, SqT.of upd_same, rfl, _, _, rfl, _, _, rfl, rfl, h⟩
      match i, hv, hu with
      | 0, hv, hu =>
        cases hv
        cases hu
        refine gt m0 cx.b0 _ _ (turn cx.b0 "0" "1" m0 _ H' none none tp (pair_sq T.p_b0 _) s1 hn (fun e => ?_) fun e => ?_)
        · have q2 := q _ (s1.trans (FK.same_new (o := .tup [.int m0, .ref cx.b0]) hn))
          rw [betw, if_pos e] at q2
          exact q2
        · exact ⟨_, _, rfl, s1.trans (FK.same_new hn), fun _ => e, by omega, by omega⟩
      | 1, hv, hu =>
        cases hv
        cases hu
        refine gt m1 cx.b1 _ _ (turn cx.b1 "1" "2" m1 _ H' none none tp (pair_sq T.p_b1 _) s1 hn (fun e => ?_) fun e => ?_)
        · have q2 := q _ (s1.trans (FK.same_new (o := .tup [.int m1, .ref cx.b1]) hn))
          rw [betw, c1 (by omega), if_neg Bool.false_ne_true, if_pos e] at q2
          exact q2
        · exact ⟨_, _, rfl, s1.trans (FK.same_new hn), fun _ => c1 (by omega), fun _ => e, by omega⟩
      | 2, hv, hu =>
        cases hv
        cases hu
        refine gt m2 cx.b2 _ _ (turn cx.b2 "0" "2" m2 _ H' none none tp (pair_sq T.p_b2 _) s1 hn (fun e => ?_) fun e => ?_)
        · have q2 := q _ (s1.trans (FK.same_new (o := .tup [.int m2, .ref cx.b2]) hn))
          rw [betw, c1 (by omega), c2 (by omega), if_neg Bool.false_ne_true, if_neg Bool.false_ne_true, if_pos e] at q2
          exact q2
        · exact ⟨_, _, rfl, s1.trans (FK.same_new hn), fun _ => c1 (by omega), fun _ => c2 (by omega), fun _ => e⟩
      | _ + 3, hv, _ => simp at hv
    · rintro σ H' ⟨v3, v4, rfl, s1, c1, c2, c3⟩
      have q2 := q _ s1
      rw [betw, c1 (by simp), c2 (by simp), c3 (by simp), if_neg Bool.false_ne_true, if_neg Bool.false_ne_true, if_neg Bool.false_ne_true] at q2
      exact q2
def spCheckTwo (C : Addr) : Sp := fun vs H Q E => ∃ x y : Str, vs = [.str x, .str y] ∧ (twoLet x y = false → ∀ H', Same H H' → E (.ref C) none H') ∧ (twoLet x y = true → ∀ H', Same H H' → Q .non H')
theorem ok_check_two_letters (T : Txt K mg cx) : FK.Has P w K mg base (L2.CX P w) 4 "check_two_letters" ["one", "other"] (spCheckTwo cx.NotWord) := by
  have H_are_two_letters := ok_are_two_letters (P := P) (w := w) (base := base) T
  refine T.d_check_two_letters.okX sc_check_two_letters (fun vs H Q E h => ?_) (fun f cdv A outer s H vs Q E hr h => ?_)
  · obtain ⟨x, y, rfl, _⟩ := h
    rfl
  · obtain ⟨x, y, rfl, qE, q⟩ := h
    refine ⟨_, (pss_one (ps_if (pt_not (pt_val (FK.pe_h (E := E0) H_are_two_letters (hr.mono (by decide)) pass0 (pa_cons (pv 0) (pa_cons (pv 1) pa_nil))))) (pss_one (ps_raise rfl (takes_of rfl rfl rfl rfl) (pmk_own PySem.F.excBase_ValueError T.x_NotWord.x T.x_NotWord.g T.x_NotWord.k (raises_own T.x_NotWord.b T.x_NotWord.t) (by exact rfl)))) pss_nil)), ?_⟩
    simp only [tSeq, tIfS, tOr, tAnd, tB, tTest, tCB, tCons, tVar, tC, tNil, tNot, tNotV, tRet, tRetN, tNext, tBreak, tOrV, tAndV, tOp, tUn, rEq, rNe, tChain, rI0, rI, rU, tAsg, gName, tDrop, tAug, ipI, tIf, tCall, tCallS, tLst, tTup, tBM, tBM0, rAppend, rExtend, rPop, rReverse, tyV, rIxL, rIxT, rIxS, L2.start, List.map_cons, List.map_nil, List.length_cons, List.length_nil, List.replicate, List.cons_append, List.nil_append, List.append_nil, List.getElem?_cons_zero, List.getElem?_cons_succ, List.set_cons_zero, List.set_cons_succ, Nat.reduceAdd, Nat.reduceSub, Option.some.injEq, exists_eq_left', exists_eq_left, V.int.injEq, V.bl.injEq, V.str.injEq, V.ref.injEq, List.cons.injEq, and_true, true_and, and_assoc, reduceCtorEq, false_and, exists_false, or_false, false_or, exists_and_left, exists_const, scal, Int.reduceLT, Int.reduceLE, Int.reduceSub, Int.reduceAdd, Int.reduceNeg, if_true, if_false]
    refine ⟨x, y, rfl, fun H' hs => ⟨_, rfl, ?_⟩⟩
    cases e : twoLet x y with
    | false => exact iteT (qE e H' hs)
    | true => exact iteF (q e H' hs)
def spCheckLong (C : Addr) : Sp := fun vs H Q E => ∃ (x : Str) (m : Int), vs = [.str x, .int m] ∧ x.length < sizeLine ∧ (m = 60 ∨ m = 200 ∨ m = 400) ∧ (okWord x m = false → ∀ H', Same H H' → E (.ref C) none H') ∧ (okWord x m = true → ∀ H', Same H H' → Q .non H')
theorem ok_check_long_word (T : Txt K mg cx) : FK.Has P w K mg base (L2.CX P w) 4 "check_long_word" ["word", "most"] (spCheckLong cx.NotWord) := by
  have H_is_word := ok_is_word (P := P) (w := w) (base := base) T
  refine T.d_check_long_word.okX sc_check_long_word (fun vs H Q E h => ?_) (fun f cdv A outer s H vs Q E hr h => ?_)
  · obtain ⟨x, m, rfl, _⟩ := h
    rfl
  · obtain ⟨x, m, rfl, hx, hm, qE, q⟩ := h
    refine ⟨_, (pss_one (ps_if (pt_not (pt_val (FK.pe_h (E := E0) H_is_word (hr.mono (by decide)) pass0 (pa_cons (pv 0) (pa_cons (pv 1) pa_nil))))) (pss_one (ps_raise rfl (takes_of rfl rfl rfl rfl) (SkE.pmk_own1 PySem.F.excBase_ValueError T.x_NotWord.x T.x_NotWord.g T.x_NotWord.k (raises_own T.x_NotWord.b T.x_NotWord.t) rfl (pe_joined (PJ.cons pe_str (PJ.cons (pe_fmt (pv 1)) (PJ.cons pe_str PJ.nil))))))) pss_nil)), ?_⟩
    simp only [tSeq, tIfS, tOr, tAnd, tB, tTest, tCB, tCons, tVar, tC, tNil, tNot, tNotV, tRet, tRetN, tNext, tBreak, tOrV, tAndV, tOp, tUn, rEq, rNe, tChain, rI0, rI, rU, tAsg, gName, tDrop, tAug, ipI, tIf, tCall, tCallS, tLst, tTup, tBM, tBM0, rAppend, rExtend, rPop, rReverse, tyV, rIxL, rIxT, rIxS, L2.start, List.map_cons, List.map_nil, List.length_cons, List.length_nil, List.replicate, List.cons_append, List.nil_append, List.append_nil, List.getElem?_cons_zero, List.getElem?_cons_succ, List.set_cons_zero, List.set_cons_succ, Nat.reduceAdd, Nat.reduceSub, Option.some.injEq, exists_eq_left', exists_eq_left, V.int.injEq, V.bl.injEq, V.str.injEq, V.ref.injEq, List.cons.injEq, and_true, true_and, and_assoc, reduceCtorEq, false_and, exists_false, or_false, false_or, exists_and_left, exists_const, scal, Int.reduceLT, Int.reduceLE, Int.reduceSub, Int.reduceAdd, Int.reduceNeg, if_true, if_false, tJs, tFmt]
    refine ⟨x, m, rfl, hx, fun H' hs => ⟨_, rfl, ?_⟩⟩
    cases e : okWord x m with
    | false =>
      refine iteT ?_
      rcases hm with rfl | rfl | rfl <;> exact ⟨by decide +kernel, by decide +kernel, by decide +kernel, by decide +kernel, qE e H' hs⟩
    | true => exact iteF (q e H' hs)
def spCheckWord (C : Addr) : Sp := fun vs H Q E => ∃ x : Str, vs = [.str x] ∧ x.length < sizeLine ∧ (okWord x 60 = false → ∀ H', Same H H' → E (.ref C) none H') ∧ (okWord x 60 = true → ∀ H', Same H H' → Q .non H')
theorem ok_check_word (T : Txt K mg cx) : FK.Has P w K mg base (L2.CX P w) 5 "check_word" ["word"] (spCheckWord cx.NotWord) := by
  have H_check_long_word := ok_check_long_word (P := P) (w := w) (base := base) T
  refine T.d_check_word.okX sc_check_word (fun vs H Q E h => ?_) (fun f cdv A outer s H vs Q E hr h => ?_)
  · obtain ⟨x, rfl, _⟩ := h
    rfl
  · obtain ⟨x, rfl, hx, qE, q⟩ := h
    refine ⟨_, (pss_one (ps_expr (FK.pe_h (E := E) H_check_long_word (hr.mono (by decide)) (passes_call (takes_of rfl rfl rfl rfl) (fun _ _ _ _ h => h)) (pa_cons (pv 0) (pa_cons (pe_glob (v := .int 60) rfl T.c_MOST_LETTERS ⟨_, rfl⟩) pa_nil))))), ?_⟩
    simp only [tSeq, tIfS, tOr, tAnd, tB, tTest, tCB, tCons, tVar, tC, tNil, tNot, tNotV, tRet, tRetN, tNext, tBreak, tOrV, tAndV, tOp, tUn, rEq, rNe, tChain, rI0, rI, rU, tAsg, gName, tDrop, tAug, ipI, tIf, tCall, tCallS, tLst, tTup, tBM, tBM0, rAppend, rExtend, rPop, rReverse, tyV, rIxL, rIxT, rIxS, L2.start, List.map_cons, List.map_nil, List.length_cons, List.length_nil, List.replicate, List.cons_append, List.nil_append, List.append_nil, List.getElem?_cons_zero, List.getElem?_cons_succ, List.set_cons_zero, List.set_cons_succ, Nat.reduceAdd, Nat.reduceSub, Option.some.injEq, exists_eq_left', exists_eq_left, V.int.injEq, V.bl.injEq, V.str.injEq, V.ref.injEq, List.cons.injEq, and_true, true_and, and_assoc, reduceCtorEq, false_and, exists_false, or_false, false_or, exists_and_left, exists_const, scal, Int.reduceLT, Int.reduceLE, Int.reduceSub, Int.reduceAdd, Int.reduceNeg, if_true, if_false]
    exact ⟨x, 60, rfl, hx, .inl rfl, qE, q⟩
def spOrderOf (K : PySem.W.Frag) (CO CW : Addr) : Sp := fun vs H Q E => ∃ (a : Addr) (ns : List Int) (x y : Str), vs = [.ref a, .str x, .str y] ∧ SqT K H a (ns.map V.int) ∧ (okOrders ns = false → ∀ H', Same H H' → E (.ref CO) none H') ∧
  (okOrders ns = true → twoLet x y = false → ∀ H', Same H H' → E (.ref CW) none H') ∧ (∀ m0 m1 m2, ns = [m0, m1, m2] → okOrders ns = true → twoLet x y = true → ∀ H', Same H H' → Q (.int (betw m0 m1 m2 x y)) H')
theorem len3 {ns : List Int} (h : okOrders ns = true) : ∃ m0 m1 m2, ns = [m0, m1, m2] := by
  unfold okOrders at h
  rw [Bool.and_eq_true] at h
  have e := of_decide_eq_true h.1
  match ns, e with
  | [m0, m1, m2], _ => exact ⟨_, _, _, rfl⟩
theorem ok_order_of (T : Txt K mg cx) : FK.Has P w K mg base (L2.CX P w) 5 "order_of" ["orders", "one", "other"] (spOrderOf K cx.NotOrders cx.NotWord) := by
  have H_check_orders := ok_check_orders (P := P) (w := w) (base := base) T
  have H_check_two_letters := ok_check_two_letters (P := P) (w := w) (base := base) T
  have H_order_between := ok_order_between (P := P) (w := w) (base := base) T
  refine T.d_order_of.okX sc_order_of (fun vs H Q E h => ?_) (fun f cdv A outer s H vs Q E hr h => ?_)
  · obtain ⟨a, ns, x, y, rfl, _⟩ := h
    rfl
  · obtain ⟨a, ns, x, y, rfl, hS, qO, qW, q⟩ := h
    refine ⟨_, (pss_cons (ps_expr (FK.pe_h (E := E) H_check_orders (hr.mono (by decide)) (passes_call (takes_of rfl rfl rfl rfl) (fun _ _ _ _ h => h)) (pa_cons (pv 0) pa_nil)))
  (pss_cons (ps_expr (FK.pe_h (E := E) H_check_two_letters (hr.mono (by decide)) (passes_call (takes_of rfl rfl rfl rfl) (fun _ _ _ _ h => h)) (pa_cons (pv 1) (pa_cons (pv 2) pa_nil))))
  (pss_one (ps_ret (FK.pe_h (E := E0) H_order_between (hr.mono (by decide)) pass0 (pa_cons (pv 0) (pa_cons (pv 1) (pa_cons (pv 2) pa_nil)))))))), ?_⟩
    simp only [tSeq, tIfS, tOr, tAnd, tB, tTest, tCB, tCons, tVar, tC, tNil, tNot, tNotV, tRet, tRetN, tNext, tBreak, tOrV, tAndV, tOp, tUn, rEq, rNe, tChain, rI0, rI, rU, tAsg, gName, tDrop, tAug, ipI, tIf, tCall, tCallS, tLst, tTup, tBM, tBM0, rAppend, rExtend, rPop, rReverse, tyV, rIxL, rIxT, rIxS, L2.start, List.map_cons, List.map_nil, List.length_cons, List.length_nil, List.replicate, List.cons_append, List.nil_append, List.append_nil, List.getElem?_cons_zero, List.getElem?_cons_succ, List.set_cons_zero, List.set_cons_succ, Nat.reduceAdd, Nat.reduceSub, Option.some.injEq, exists_eq_left', exists_eq_left, V.int.injEq, V.bl.injEq, V.str.injEq, V.ref.injEq, List.cons.injEq, and_true, true_and, and_assoc, reduceCtorEq, false_and, exists_false, or_false, false_or, exists_and_left, exists_const, scal, Int.reduceLT, Int.reduceLE, Int.reduceSub, Int.reduceAdd, Int.reduceNeg, if_true, if_false]
    refine ⟨a, ns, rfl, hS, qO, fun eO H1 s1 => ⟨x, y, rfl, fun e H2 s2 => qW eO e H2 (s1.trans s2), fun e H2 s2 => ?_⟩⟩
    obtain ⟨m0, m1, m2, rfl⟩ := len3 eO
    exact ⟨a, m0, m1, m2, x, y, rfl, FK.Same.tupS (s1.trans s2) hS, fun H3 s3 => q m0 m1 m2 rfl eO e H3 ((s1.trans s2).trans s3)⟩
def finOf (ns : List Int) : List Int := ns.filter fun n => !decide (n = 0)
def wholeOf (ns : List Int) : Int := (finOf ns).foldl (· * ·) 1
def partsOf (ns : List Int) : Int := ((finOf ns).map fun n => (wholeOf ns).fdiv n).sum
/-- the kind of a floor, by the program's own numbers -/
def kindOf (ns : List Int) : Str := if wholeOf ns < partsOf ns then "round" else if partsOf ns = wholeOf ns then "flat" else "wide"
def spKindOf (K : PySem.W.Frag) (CO : Addr) : Sp := fun vs H Q E => ∃ (a : Addr) (ns : List Int), vs = [.ref a] ∧ SqT K H a (ns.map V.int) ∧ (okOrders ns = false → ∀ H', Same H H' → E (.ref CO) none H') ∧ (okOrders ns = true → ∀ H', Same H H' → Q (.str (kindOf ns)) H')
theorem okOrder_bound {n : Int} (h : okOrder n = true) : 0 ≤ n ∧ n ≤ 12 := by
  unfold okOrder at h
  simp only [Bool.or_eq_true, Bool.and_eq_true, decide_eq_true_eq] at h
  omega
theorem ok_kind_of (T : Txt K mg cx) : FK.Has P w K mg base (L2.CX P w) 5 "kind_of" ["orders"] (spKindOf K cx.NotOrders) := by
  have H_check_orders := ok_check_orders (P := P) (w := w) (base := base) T
  refine T.d_kind_of.okX sc_kind_of (fun vs H Q E h => ?_) (fun f cdv A outer s H vs Q E hr h => ?_)
  · obtain ⟨a, ns, rfl, _⟩ := h
    rfl
  · obtain ⟨a, ns, rfl, hS, qO, q⟩ := h
    refine ⟨_, (pss_cons (ps_expr (FK.pe_h (E := E) H_check_orders (hr.mono (by decide)) (passes_call (takes_of rfl rfl rfl rfl) (fun _ _ _ _ h => h)) (pa_cons (pv 0) pa_nil)))
  (pss_cons (ps_setLc (i := 1) (own := [("order", 3)]) (g := gName 3)  rfl sc_kind_of.nd rfl rfl (sw_true rfl rfl rfl (by decide +kernel)) (pi_tup (pv 0)) (blkOk_by (own := [("order", 3)]) (N := ["orders", "finite", "whole", "order", "parts"]) (sc := defScope s_kind_of) (by decide +kernel)) (fun _ _ _ _ _ => (pg_name (i := 3) sc_kind_of.nd rfl (Or.inl rfl))) (fun _ _ _ _ _ => (pts_one (pt_cmpR op_ne (pv 3) pe_int (nomark _)))) (fun _ _ _ _ _ => (pv 3)))
  (pss_cons (ps_set (i := 2) sc_kind_of.nd rfl (Or.inr rfl) (by exact pe_int))
  (pss_cons (ps_for (passes_of rfl) rfl (pi_list (pv 1)) (pg_name (i := 3) sc_kind_of.nd rfl (Or.inl rfl))
  (pss_one (ps_aug (i := 2) sc_kind_of.nd rfl (Or.inr rfl) (pv 3) iop_mul)))
  (pss_cons (ps_set (i := 4) sc_kind_of.nd rfl (Or.inl rfl) (by exact (pe_callB (cr_sum rfl) (by rfl) T.n_sum (by decide +kernel) (pa_cons (pe_lc (own := [("order", 3)]) (g := gName 3) (tt := tYes) rfl sc_kind_of.nd (pi_list (pv 1)) (blkOk_by (own := [("order", 3)]) (N := ["orders", "finite", "whole", "order", "parts"]) (sc := defScope s_kind_of) (by decide +kernel)) (fun _ _ _ _ _ => (pg_name (i := 3) sc_kind_of.nd rfl (Or.inl rfl))) (fun _ _ _ _ _ => pts_nil) (fun _ _ _ _ _ => (pe_op op_fdivN (pv 2) (pv 3)))) pa_nil))))
  (pss_cons (ps_if (pt_cmpR op_gt (pv 4) (pv 2) (nomark _)) (pss_one (ps_ret pe_str)) pss_nil)
  (pss_cons (ps_if (pt_cmpR op_eq (pv 4) (pv 2) (nomark _)) (pss_one (ps_ret pe_str)) pss_nil)
  (pss_one (ps_ret pe_str))))))))), ?_⟩
    simp only [tSeq, tIfS, tOr, tAnd, tB, tTest, tCB, tCons, tVar, tC, tNil, tNot, tNotV, tRet, tRetN, tNext, tBreak, tOrV, tAndV, tOp, tUn, rEq, rNe, tChain, rI0, rI, rU, tAsg, gName, tDrop, tAug, ipI, tIf, tCall, tCallS, tLst, tTup, tBM, tBM0, rAppend, rExtend, rPop, rReverse, tyV, rIxL, rIxT, rIxS, L2.start, List.map_cons, List.map_nil, List.length_cons, List.length_nil, List.replicate, List.cons_append, List.nil_append, List.append_nil, List.getElem?_cons_zero, List.getElem?_cons_succ, List.set_cons_zero, List.set_cons_succ, Nat.reduceAdd, Nat.reduceSub, Option.some.injEq, exists_eq_left', exists_eq_left, V.int.injEq, V.bl.injEq, V.str.injEq, V.ref.injEq, List.cons.injEq, and_true, true_and, and_assoc, reduceCtorEq, false_and, exists_false, or_false, false_or, exists_and_left, exists_const, scal, Int.reduceLT, Int.reduceLE, Int.reduceSub, Int.reduceAdd, Int.reduceNeg, if_true, if_false]
    refine ⟨a, ns, rfl, hS, qO, fun eO H1 s1 => ?_⟩
    have hS1 := FK.Same.tupS s1 hS
    have e3 : ns.length = 3 := by
      obtain ⟨m0, m1, m2, rfl⟩ := len3 eO
      rfl
    have hb : ∀ n ∈ ns, 0 ≤ n ∧ n ≤ 12 := fun n hn => by
      unfold okOrders at eO
      rw [Bool.and_eq_true] at eO
      exact okOrder_bound (List.all_eq_true.mp eO.2 n hn)
    have hf : ((ns.map V.int).filter fun v => match v with | .int n => !decide (n = 0) | _ => false).map id = (finOf ns).map V.int := by
      rw [List.map_id, List.filter_map]
      rfl
    refine FK.rd_lc_filter (J := Itt K a) (H1 := H1) (G := fun H' => SqT K H' a (ns.map V.int)) (ns.map V.int) (fun v => match v with | .int n => !decide (n = 0) | _ => false) id (fun R r => ⟨_, rfl, a, rfl, ⟨_, hS1⟩, r⟩) walk_tup
      (fun D o hD => FK.Same.tupS (FK.same_new hD) hS1) (by rw [List.length_map, e3]; decide) (fun _ => rfl) ?_ ?_ ?_
    · intro x H' R hx go
      obtain ⟨n, hn, rfl⟩ := List.mem_map.mp hx
      simp only [tSeq, tIfS, tOr, tAnd, tB, tTest, tCB, tCons, tVar, tC, tNil, tNot, tNotV, tRet, tRetN, tNext, tBreak, tOrV, tAndV, tOp, tUn, rEq, rNe, tChain, rI0, rI, rU, tAsg, gName, tDrop, tAug, ipI, tIf, tCall, tCallS, tLst, tTup, tBM, tBM0, rAppend, rExtend, rPop, rReverse, tyV, rIxL, rIxT, rIxS, L2.start, List.map_cons, List.map_nil, List.length_cons, List.length_nil, List.replicate, List.cons_append, List.nil_append, List.append_nil, List.getElem?_cons_zero, List.getElem?_cons_succ, List.set_cons_zero, List.set_cons_succ, Nat.reduceAdd, Nat.reduceSub, Option.some.injEq, exists_eq_left', exists_eq_left, V.int.injEq, V.bl.injEq, V.str.injEq, V.ref.injEq, List.cons.injEq, and_true, true_and, and_assoc, reduceCtorEq, false_and, exists_false, or_false, false_or, exists_and_left, exists_const, scal, Int.reduceLT, Int.reduceLE, Int.reduceSub, Int.reduceAdd, Int.reduceNeg, if_true, if_false, wipe]
      exact go
    · intro x H' R hx hp go
      simp only [tSeq, tIfS, tOr, tAnd, tB, tTest, tCB, tCons, tVar, tC, tNil, tNot, tNotV, tRet, tRetN, tNext, tBreak, tOrV, tAndV, tOp, tUn, rEq, rNe, tChain, rI0, rI, rU, tAsg, gName, tDrop, tAug, ipI, tIf, tCall, tCallS, tLst, tTup, tBM, tBM0, rAppend, rExtend, rPop, rReverse, tyV, rIxL, rIxT, rIxS, L2.start, List.map_cons, List.map_nil, List.length_cons, List.length_nil, List.replicate, List.cons_append, List.nil_append, List.append_nil, List.getElem?_cons_zero, List.getElem?_cons_succ, List.set_cons_zero, List.set_cons_succ, Nat.reduceAdd, Nat.reduceSub, Option.some.injEq, exists_eq_left', exists_eq_left, V.int.injEq, V.bl.injEq, V.str.injEq, V.ref.injEq, List.cons.injEq, and_true, true_and, and_assoc, reduceCtorEq, false_and, exists_false, or_false, false_or, exists_and_left, exists_const, scal, Int.reduceLT, Int.reduceLE, Int.reduceSub, Int.reduceAdd, Int.reduceNeg, if_true, if_false, wipe]
      exact go
    · intro D hD
      rw [hf]
      have hfb : ∀ n ∈ finOf ns, 2 ≤ n + 1 ∧ n ≤ 12 ∧ n ≠ 0 ∧ 0 ≤ n := fun n hn => by
        obtain ⟨h1, h2⟩ := List.mem_filter.mp hn
        have := hb n h1
        have h3 : n ≠ 0 := fun z => by rw [z] at h2; exact absurd h2 (by decide)
        omega
      have hfl : (finOf ns).length ≤ 3 := by rw [← e3]; exact List.length_filter_le _ _
      have hD2 : SqL K (upd H1 D (.lst ((finOf ns).map V.int))) D ((finOf ns).map V.int) := SqL.of upd_same
      have sD : Same H (upd H1 D (.lst ((finOf ns).map V.int))) := s1.trans (FK.same_new hD)
      refine FK.rd_for (J := Itl K D) (H1 := upd H1 D (.lst ((finOf ns).map V.int))) (fun R r => ⟨_, rfl, D, rfl, ⟨_, hD2⟩, r⟩) (walk_list (xs := (finOf ns).map V.int))
        (fun i σ H' => ∃ v3 : Option V, σ = [some (.ref a), some (.ref D), some (.int (((finOf ns).take i).foldl (· * ·) 1)), v3, none] ∧ H' = upd H1 D (.lst ((finOf ns).map V.int)))
        ⟨none, rfl, rfl⟩ (fun i σ H' _ ⟨_, _, e⟩ => by rw [e]; exact hD2) ?_ ?_
      · rintro i v σ H' H'' hi ⟨v3, rfl, rfl⟩ ⟨rfl, hv⟩
        rw [List.getElem?_map] at hv
        cases en : (finOf ns)[i]? with
        | none => rw [en] at hv; cases hv
        | some n =>
          rw [en] at hv
          cases hv
          have hn := hfb n (List.mem_of_getElem? en)
          simp only [tSeq, tIfS, tOr, tAnd, tB, tTest, tCB, tCons, tVar, tC, tNil, tNot, tNotV, tRet, tRetN, tNext, tBreak, tOrV, tAndV, tOp, tUn, rEq, rNe, tChain, rI0, rI, rU, tAsg, gName, tDrop, tAug, ipI, tIf, tCall, tCallS, tLst, tTup, tBM, tBM0, rAppend, rExtend, rPop, rReverse, tyV, rIxL, rIxT, rIxS, L2.start, List.map_cons, List.map_nil, List.length_cons, List.length_nil, List.replicate, List.cons_append, List.nil_append, List.append_nil, List.getElem?_cons_zero, List.getElem?_cons_succ, List.set_cons_zero, List.set_cons_succ, Nat.reduceAdd, Nat.reduceSub, Option.some.injEq, exists_eq_left', exists_eq_left, V.int.injEq, V.bl.injEq, V.str.injEq, V.ref.injEq, List.cons.injEq, and_true, true_and, and_assoc, reduceCtorEq, false_and, exists_false, or_false, false_or, exists_and_left, exists_const, scal, Int.reduceLT, Int.reduceLE, Int.reduceSub, Int.reduceAdd, Int.reduceNeg, if_true, if_false]
          refine ⟨.inr ⟨by omega, by omega⟩, ?_, _, rfl⟩
          rw [List.take_add_one, en, List.foldl_append]
          rfl
      · rintro σ H' ⟨v3, rfl, rfl⟩
        rw [List.length_map, List.take_length]
        simp only [tSeq, tIfS, tOr, tAnd, tB, tTest, tCB, tCons, tVar, tC, tNil, tNot, tNotV, tRet, tRetN, tNext, tBreak, tOrV, tAndV, tOp, tUn, rEq, rNe, tChain, rI0, rI, rU, tAsg, gName, tDrop, tAug, ipI, tIf, tCall, tCallS, tLst, tTup, tBM, tBM0, rAppend, rExtend, rPop, rReverse, tyV, rIxL, rIxT, rIxS, L2.start, List.map_cons, List.map_nil, List.length_cons, List.length_nil, List.replicate, List.cons_append, List.nil_append, List.append_nil, List.getElem?_cons_zero, List.getElem?_cons_succ, List.set_cons_zero, List.set_cons_succ, Nat.reduceAdd, Nat.reduceSub, Option.some.injEq, exists_eq_left', exists_eq_left, V.int.injEq, V.bl.injEq, V.str.injEq, V.ref.injEq, List.cons.injEq, and_true, true_and, and_assoc, reduceCtorEq, false_and, exists_false, or_false, false_or, exists_and_left, exists_const, scal, Int.reduceLT, Int.reduceLE, Int.reduceSub, Int.reduceAdd, Int.reduceNeg, if_true, if_false]
        refine FK.rd_lc_pure (J := Itl K D) (H1 := upd H1 D (.lst ((finOf ns).map V.int))) (((finOf ns).map fun n => (wholeOf ns).fdiv n).map V.int) (fun R r => ⟨_, rfl, D, rfl, ⟨_, hD2⟩, r⟩)
          (by have w := walk_list (K := K) (a := D) (xs := (finOf ns).map V.int); rw [List.length_map] at w; rw [List.length_map, List.length_map]; exact w)
          (fun D' o hD' => (FK.same_new hD').seq hD2) (by rw [List.length_map, List.length_map]; exact Nat.lt_of_le_of_lt hfl (by decide)) (fun _ => rfl) ?_ ?_ (fun _ _ _ _ (z : _ ∧ _) => z.1)
        · rintro D' j x z H' H'' R hD' hz rfl ⟨rfl, hx⟩ go
          rw [List.getElem?_map] at hx hz
          rw [List.getElem?_map] at hz
          cases en : (finOf ns)[j]? with
          | none => rw [en] at hx; cases hx
          | some n =>
            rw [en] at hx hz
            cases hx
            cases hz
            have hn := hfb n (List.mem_of_getElem? en)
            simp only [tSeq, tIfS, tOr, tAnd, tB, tTest, tCB, tCons, tVar, tC, tNil, tNot, tNotV, tRet, tRetN, tNext, tBreak, tOrV, tAndV, tOp, tUn, rEq, rNe, tChain, rI0, rI, rU, tAsg, gName, tDrop, tAug, ipI, tIf, tCall, tCallS, tLst, tTup, tBM, tBM0, rAppend, rExtend, rPop, rReverse, tyV, rIxL, rIxT, rIxS, L2.start, List.map_cons, List.map_nil, List.length_cons, List.length_nil, List.replicate, List.cons_append, List.nil_append, List.append_nil, List.getElem?_cons_zero, List.getElem?_cons_succ, List.set_cons_zero, List.set_cons_succ, Nat.reduceAdd, Nat.reduceSub, Option.some.injEq, exists_eq_left', exists_eq_left, V.int.injEq, V.bl.injEq, V.str.injEq, V.ref.injEq, List.cons.injEq, and_true, true_and, and_assoc, reduceCtorEq, false_and, exists_false, or_false, false_or, exists_and_left, exists_const, scal, Int.reduceLT, Int.reduceLE, Int.reduceSub, Int.reduceAdd, Int.reduceNeg, if_true, if_false, wipe]
            exact ⟨⟨hn.2.2.1, by omega⟩, go⟩
        · intro D' hD'
          refine ⟨D', _, rfl, SqL.of upd_same, ?_⟩
          have q2 := q eO _ (sD.trans (FK.same_new (o := .lst (((finOf ns).map fun n => (wholeOf ns).fdiv n).map V.int)) hD'))
          refine ⟨partsOf ns, rfl, ?_⟩
          show if decide (wholeOf ns < partsOf ns) = true then _ else _
          unfold kindOf at q2
          refine ite2 (fun c => ?_) (fun c => ⟨rfl, ite2 (fun c2 => ?_) fun c2 => ?_⟩)
          · rw [if_pos (of_decide_eq_true c)] at q2
            exact q2
          · rw [if_neg (fun z => c (decide_eq_true z)), if_pos (show partsOf ns = wholeOf ns from V.int.inj (of_decide_eq_true c2))] at q2
            exact q2
          · rw [if_neg (fun z => c (decide_eq_true z)), if_neg (fun z : partsOf ns = wholeOf ns => c2 (decide_eq_true (congrArg V.int z)))] at q2
            exact q2

/-- the drawn numbers that are left -/
def Dr (H : Hp) (d : Addr) : Prop := ∃ ds : List Int, H d = some (.lst (ds.map V.int)) ∧ ds.length ≤ 8000 ∧ ∀ z ∈ ds, 0 ≤ z ∧ z < 1000
def spNumber : Sp := fun vs H Q _ => ∃ n : Int, vs = [.int n] ∧ Q (.int (if n < 0 then -n else n)) H
theorem ok_law_number (T : Txt K mg cx) : FK.Has P w K mg base CX0 1 "_law_number" ["cell"] spNumber := by
  refine T.d_law_number.ok sc_law_number (fun vs H Q E h => ?_) (fun f cdv A outer s H vs Q E hr h => ?_)
  · obtain ⟨n, rfl, _⟩ := h
    rfl
  · obtain ⟨n, rfl, q⟩ := h
    refine ⟨_, (pss_cons (ps_if (pt_cmpR op_lt (pv 0) pe_int (nomark _)) (pss_one (ps_ret (pe_op op_sub pe_int (pv 0)))) pss_nil)
  (pss_one (ps_ret (pv 0)))), ?_⟩
    simp only [tSeq, tIfS, tOr, tAnd, tB, tTest, tCB, tCons, tVar, tC, tNil, tNot, tNotV, tRet, tRetN, tNext, tBreak, tOrV, tAndV, tOp, tUn, rEq, rNe, tChain, rI0, rI, rU, tAsg, gName, tDrop, tAug, ipI, tIf, tCall, tCallS, tLst, tTup, tBM, tBM0, rAppend, rExtend, rPop, rReverse, tyV, rIxL, rIxT, rIxS, L2.start, List.map_cons, List.map_nil, List.length_cons, List.length_nil, List.replicate, List.cons_append, List.nil_append, List.append_nil, List.getElem?_cons_zero, List.getElem?_cons_succ, List.set_cons_zero, List.set_cons_succ, Nat.reduceAdd, Nat.reduceSub, Option.some.injEq, exists_eq_left', exists_eq_left, V.int.injEq, V.bl.injEq, V.str.injEq, V.ref.injEq, List.cons.injEq, and_true, true_and, and_assoc, reduceCtorEq, false_and, exists_false, or_false, false_or, exists_and_left, exists_const, scal, Int.reduceLT, Int.reduceLE, Int.reduceSub, Int.reduceAdd, Int.reduceNeg, if_true, if_false]
    refine ite2 (fun c => ?_) (fun c => ?_)
    · rw [if_pos (of_decide_eq_true c)] at q
      rw [show (0 : Int) - n = -n by omega]
      exact q
    · rw [if_neg (fun z => c (decide_eq_true z))] at q
      exact q
def spDraw : Sp := fun vs H Q _ => ∃ d : Addr, vs = [.ref d] ∧ Dr H d ∧ ∀ r H', 0 ≤ r → r < 1000 → Dr H' d → FK.But d H H' → Q (.int r) H'
theorem ok_law_draw (T : Txt K mg cx) : FK.Has P w K mg base CX0 1 "_law_draw" ["draws"] spDraw := by
  refine T.d_law_draw.ok sc_law_draw (fun vs H Q E h => ?_) (fun f cdv A outer s H vs Q E hr h => ?_)
  · obtain ⟨n, rfl, _⟩ := h
    rfl
  · obtain ⟨d, rfl, ⟨ds, hd, hl, hz⟩, q⟩ := h
    refine ⟨_, (pss_cons (ps_if (pt_truth (pv 0) (by intro _; rfl)) (pss_one (ps_ret (pe_bm0 PySem.F.plainAttrs_list PySem.F.slot_list_pop PySem.F.type_list_pop mt_pop (pv 0)))) pss_nil)
  (pss_one (ps_ret pe_int))), ?_⟩
    simp only [tSeq, tIfS, tOr, tAnd, tB, tTest, tCB, tCons, tVar, tC, tNil, tNot, tNotV, tRet, tRetN, tNext, tBreak, tOrV, tAndV, tOp, tUn, rEq, rNe, tChain, rI0, rI, rU, tAsg, gName, tDrop, tAug, ipI, tIf, tCall, tCallS, tLst, tTup, tBM, tBM0, rAppend, rExtend, rPop, rReverse, tyV, rIxL, rIxT, rIxS, L2.start, List.map_cons, List.map_nil, List.length_cons, List.length_nil, List.replicate, List.cons_append, List.nil_append, List.append_nil, List.getElem?_cons_zero, List.getElem?_cons_succ, List.set_cons_zero, List.set_cons_succ, Nat.reduceAdd, Nat.reduceSub, Option.some.injEq, exists_eq_left', exists_eq_left, V.int.injEq, V.bl.injEq, V.str.injEq, V.ref.injEq, List.cons.injEq, and_true, true_and, and_assoc, reduceCtorEq, false_and, exists_false, or_false, false_or, exists_and_left, exists_const, scal, Int.reduceLT, Int.reduceLE, Int.reduceSub, Int.reduceAdd, Int.reduceNeg, if_true, if_false]
    refine ⟨!(ds.map V.int).isEmpty, .inl ⟨_, SqL.of hd, rfl⟩, ite2 (fun c => ?_) (fun c => ?_)⟩
    · have hne : ds ≠ [] := fun z => by
        subst z
        exact absurd c (by decide)
      refine ⟨.inl ⟨_, SqL.of hd⟩, ds.map V.int, hd, V.int (ds.getLast hne), ?_, ?_⟩
      · rw [List.length_map, List.getElem?_map, ← List.getLast?_eq_getElem?, List.getLast?_eq_some_getLast hne]
        rfl
      · obtain ⟨h1, h2⟩ := hz _ (List.getLast_mem hne)
        refine q _ _ h1 h2 ⟨ds.dropLast, by rw [upd_same, List.map_dropLast], by rw [List.length_dropLast]; omega, fun z z2 => hz z (List.dropLast_subset _ z2)⟩ .upd
    · exact q 0 H (by omega) (by omega) ⟨ds, hd, hl, hz⟩ .refl
def spPick : Sp := fun vs H Q _ => ∃ (d : Addr) (m : Int), vs = [.ref d, .int m] ∧ Dr H d ∧ 0 < m ∧ ∀ r H', 0 ≤ r → r < m → Dr H' d → FK.But d H H' → Q (.int r) H'
theorem ok_law_pick (T : Txt K mg cx) : FK.Has P w K mg base CX0 2 "_law_pick" ["draws", "many"] spPick := by
  have H_law_draw := ok_law_draw (P := P) (w := w) (base := base) T
  refine T.d_law_pick.ok sc_law_pick (fun vs H Q E h => ?_) (fun f cdv A outer s H vs Q E hr h => ?_)
  · obtain ⟨n, m, rfl, _⟩ := h
    rfl
  · obtain ⟨d, m, rfl, hd, hm, q⟩ := h
    refine ⟨_, (pss_one (ps_ret (pe_op op_mod (pe_callTy FK.call_intI (by rfl) T.n_int (by decide +kernel) (pa_cons (FK.pe_h (E := E0) H_law_draw (hr.mono (by decide)) pass0 (pa_cons (pv 0) pa_nil)) pa_nil)) (pv 1)))), ?_⟩
    simp only [tSeq, tIfS, tOr, tAnd, tB, tTest, tCB, tCons, tVar, tC, tNil, tNot, tNotV, tRet, tRetN, tNext, tBreak, tOrV, tAndV, tOp, tUn, rEq, rNe, tChain, rI0, rI, rU, tAsg, gName, tDrop, tAug, ipI, tIf, tCall, tCallS, tLst, tTup, tBM, tBM0, rAppend, rExtend, rPop, rReverse, tyV, rIxL, rIxT, rIxS, L2.start, List.map_cons, List.map_nil, List.length_cons, List.length_nil, List.replicate, List.cons_append, List.nil_append, List.append_nil, List.getElem?_cons_zero, List.getElem?_cons_succ, List.set_cons_zero, List.set_cons_succ, Nat.reduceAdd, Nat.reduceSub, Option.some.injEq, exists_eq_left', exists_eq_left, V.int.injEq, V.bl.injEq, V.str.injEq, V.ref.injEq, List.cons.injEq, and_true, true_and, and_assoc, reduceCtorEq, false_and, exists_false, or_false, false_or, exists_and_left, exists_const, scal, Int.reduceLT, Int.reduceLE, Int.reduceSub, Int.reduceAdd, Int.reduceNeg, if_true, if_false]
    exact ⟨d, rfl, hd, fun r H' h0 h1 hd' hb => ⟨r, rfl, hm, q _ _ (Int.emod_nonneg _ (by omega)) (Int.emod_lt_of_pos _ hm) hd' hb⟩⟩
def spDraws (K : PySem.W.Frag) : Sp := fun vs H Q _ => ∃ (a : Addr) (ns : List Int), vs = [.ref a] ∧ SqL K H a (ns.map V.int) ∧ ns.length ≤ 63 ∧ ∀ d H', H d = none → Dr H' d → Same H H' → Q (.ref d) H'
theorem ok_law_draws (T : Txt K mg cx) : FK.Has P w K mg base CX0 2 "_law_draws" ["script"] (spDraws K) := by
  have H_law_number := ok_law_number (P := P) (w := w) (base := base) T
  refine T.d_law_draws.ok sc_law_draws (fun vs H Q E h => ?_) (fun f cdv A outer s H vs Q E hr h => ?_)
  · obtain ⟨a, ns, rfl, _⟩ := h
    rfl
  · obtain ⟨a, ns, rfl, hS, hl, q⟩ := h
    refine ⟨_, (pss_cons (ps_set (i := 1) sc_law_draws.nd rfl (Or.inl rfl) (by exact (pe_lst pa_nil)))
  (pss_cons (ps_set (i := 2) sc_law_draws.nd rfl (Or.inl rfl) (by exact pe_int))
  (pss_cons (ps_for PassesOwn.never rfl (pi_list (pv 0)) (pg_name (i := 3) sc_law_draws.nd rfl (Or.inl rfl))
  (pss_cons (ps_set (i := 5) sc_law_draws.nd rfl (Or.inl rfl) (by exact (FK.pe_h (E := E0) H_law_number (hr.mono (by decide)) pass0 (pa_cons (pv 3) pa_nil))))
  (pss_cons (ps_set (i := 2) sc_law_draws.nd rfl (Or.inl rfl) (by exact (pe_op op_mod (pe_callTy FK.call_intI (by rfl) T.n_int (by decide +kernel) (pa_cons (pe_op op_add (pe_op op_mul (pv 2) pe_int) (pv 5)) pa_nil)) pe_int)))
  (pss_one (ps_if (pt_cmpR op_ge (pv 5) pe_int (nomark _)) (pss_one (ps_for PassesOwn.never rfl (pi_range1 rfl T.n_range (pa_cons pe_int pa_nil)) (pg_name (i := 4) sc_law_draws.nd rfl (Or.inl rfl))
  (pss_cons (ps_if (pt_cmpR op_eq (pv 5) pe_int (nomark _)) (pss_one ps_break) pss_nil)
  (pss_cons (ps_expr (pe_bm PySem.F.plainAttrs_list PySem.F.slot_list_append PySem.F.type_list_append mt_append (pv 1) (pa_cons (pe_op op_mod (pe_callTy FK.call_intI (by rfl) T.n_int (by decide +kernel) (pa_cons (pv 5) pa_nil)) pe_int) pa_nil)))
  (pss_one (ps_set (i := 5) sc_law_draws.nd rfl (Or.inl rfl) (by exact (pe_op op_fdiv (pv 5) pe_int)))))))) (pss_cons (ps_set (i := 6) sc_law_draws.nd rfl (Or.inl rfl) (by exact (pe_op op_mod (pe_callTy FK.call_intI (by rfl) T.n_int (by decide +kernel) (pa_cons (pe_op op_add (pe_op op_mul (pv 5) pe_int) pe_int) pa_nil)) pe_int)))
  (pss_cons (ps_set (i := 7) sc_law_draws.nd rfl (Or.inl rfl) (by exact (pe_op op_mod (pe_callTy FK.call_intI (by rfl) T.n_int (by decide +kernel) (pa_cons (pe_op op_add (pe_op op_mul (pv 6) pe_int) (pv 5)) pa_nil)) pe_int)))
  (pss_one (ps_expr (pe_bm PySem.F.plainAttrs_list PySem.F.slot_list_extend PySem.F.type_list_extend mt_extend (pv 1) (pa_cons (pe_lst (pa_cons (pe_op op_mod (pe_callTy FK.call_intI (by rfl) T.n_int (by decide +kernel) (pa_cons (pv 5) pa_nil)) pe_int) (pa_cons (pe_op op_mod (pe_callTy FK.call_intI (by rfl) T.n_int (by decide +kernel) (pa_cons (pv 6) pa_nil)) pe_int) (pa_cons (pe_op op_mod (pe_callTy FK.call_intI (by rfl) T.n_int (by decide +kernel) (pa_cons (pv 7) pa_nil)) pe_int) pa_nil)))) pa_nil)))))))))))
  (pss_cons (ps_for PassesOwn.never rfl (pi_range1 rfl T.n_range (pa_cons pe_int pa_nil)) (pg_name (i := 4) sc_law_draws.nd rfl (Or.inl rfl))
  (pss_cons (ps_set (i := 2) sc_law_draws.nd rfl (Or.inl rfl) (by exact (pe_op op_mod (pe_callTy FK.call_intI (by rfl) T.n_int (by decide +kernel) (pa_cons (pe_op op_add (pe_op op_mul (pv 2) pe_int) pe_int) pa_nil)) pe_int)))
  (pss_one (ps_expr (pe_bm PySem.F.plainAttrs_list PySem.F.slot_list_append PySem.F.type_list_append mt_append (pv 1) (pa_cons (pe_op op_mod (pe_callTy FK.call_intI (by rfl) T.n_int (by decide +kernel) (pa_cons (pe_op op_fdiv (pv 2) pe_int) pa_nil)) pe_int) pa_nil))))))
  (pss_cons (ps_expr (pe_bm0 PySem.F.plainAttrs_list PySem.F.slot_list_reverse PySem.F.type_list_reverse mt_reverse (pv 1)))
  (pss_one (ps_ret (pv 1)))))))), ?_⟩
    simp only [tSeq, tIfS, tOr, tAnd, tB, tTest, tCB, tCons, tVar, tC, tNil, tNot, tNotV, tRet, tRetN, tNext, tBreak, tOrV, tAndV, tOp, tUn, rEq, rNe, tChain, rI0, rI, rU, tAsg, gName, tDrop, tAug, ipI, tIf, tCall, tCallS, tLst, tTup, tBM, tBM0, rAppend, rExtend, rPop, rReverse, tyV, rIxL, rIxT, rIxS, L2.start, List.map_cons, List.map_nil, List.length_cons, List.length_nil, List.replicate, List.cons_append, List.nil_append, List.append_nil, List.getElem?_cons_zero, List.getElem?_cons_succ, List.set_cons_zero, List.set_cons_succ, Nat.reduceAdd, Nat.reduceSub, Option.some.injEq, exists_eq_left', exists_eq_left, V.int.injEq, V.bl.injEq, V.str.injEq, V.ref.injEq, List.cons.injEq, and_true, true_and, and_assoc, reduceCtorEq, false_and, exists_false, or_false, false_or, exists_and_left, exists_const, scal, Int.reduceLT, Int.reduceLE, Int.reduceSub, Int.reduceAdd, Int.reduceNeg, if_true, if_false]
    refine ⟨Nat.zero_le _, fun p hp => ?_⟩
    refine FK.rd_for (J := Itl K a) (H1 := upd H p (.lst [])) (fun R r => ⟨_, rfl, a, rfl, ⟨_, (FK.same_new hp).seq hS⟩, r⟩) (walk_list (xs := ns.map V.int))
      (fun i σ H' => ∃ (ds : List Int) (sd : Int) (v3 v4 v5 v6 v7 : Option V), σ = [some (.ref a), some (.ref p), some (.int sd), v3, v4, v5, v6, v7] ∧ 0 ≤ sd ∧ sd < 2147483647 ∧ H' p = some (.lst (ds.map V.int)) ∧ ds.length ≤ 60 * i ∧ (∀ z ∈ ds, 0 ≤ z ∧ z < 1000) ∧ Same H H')
      ⟨[], 7, none, none, none, none, none, rfl, by omega, by omega, upd_same, by simp, by simp, FK.same_new hp⟩ (fun i σ H' _ ⟨_, _, _, _, _, _, _, _, _, _, _, _, _, e⟩ => e.seq hS) ?_ ?_
    · rintro i x σ H1 H2 hi ⟨ds, sd, v3, v4, v5, v6, v7, rfl, h0, h1, hd, hn, hz, hs⟩ ⟨rfl, hx⟩
      obtain ⟨n, rfl⟩ : ∃ n, x = V.int n := by
        rw [List.getElem?_map] at hx
        cases e : ns[i]? with
        | none => rw [e] at hx; cases hx
        | some z => rw [e] at hx; exact ⟨z, (Option.some.inj hx).symm⟩
      simp only [tSeq, tIfS, tOr, tAnd, tB, tTest, tCB, tCons, tVar, tC, tNil, tNot, tNotV, tRet, tRetN, tNext, tBreak, tOrV, tAndV, tOp, tUn, rEq, rNe, tChain, rI0, rI, rU, tAsg, gName, tDrop, tAug, ipI, tIf, tCall, tCallS, tLst, tTup, tBM, tBM0, rAppend, rExtend, rPop, rReverse, tyV, rIxL, rIxT, rIxS, L2.start, List.map_cons, List.map_nil, List.length_cons, List.length_nil, List.replicate, List.cons_append, List.nil_append, List.append_nil, List.getElem?_cons_zero, List.getElem?_cons_succ, List.set_cons_zero, List.set_cons_succ, Nat.reduceAdd, Nat.reduceSub, Option.some.injEq, exists_eq_left', exists_eq_left, V.int.injEq, V.bl.injEq, V.str.injEq, V.ref.injEq, List.cons.injEq, and_true, true_and, and_assoc, reduceCtorEq, false_and, exists_false, or_false, false_or, exists_and_left, exists_const, scal, Int.reduceLT, Int.reduceLE, Int.reduceSub, Int.reduceAdd, Int.reduceNeg, if_true, if_false]
      refine ⟨n, rfl, ?_⟩
      simp only [tSeq, tIfS, tOr, tAnd, tB, tTest, tCB, tCons, tVar, tC, tNil, tNot, tNotV, tRet, tRetN, tNext, tBreak, tOrV, tAndV, tOp, tUn, rEq, rNe, tChain, rI0, rI, rU, tAsg, gName, tDrop, tAug, ipI, tIf, tCall, tCallS, tLst, tTup, tBM, tBM0, rAppend, rExtend, rPop, rReverse, tyV, rIxL, rIxT, rIxS, L2.start, List.map_cons, List.map_nil, List.length_cons, List.length_nil, List.replicate, List.cons_append, List.nil_append, List.append_nil, List.getElem?_cons_zero, List.getElem?_cons_succ, List.set_cons_zero, List.set_cons_succ, Nat.reduceAdd, Nat.reduceSub, Option.some.injEq, exists_eq_left', exists_eq_left, V.int.injEq, V.bl.injEq, V.str.injEq, V.ref.injEq, List.cons.injEq, and_true, true_and, and_assoc, reduceCtorEq, false_and, exists_false, or_false, false_or, exists_and_left, exists_const, scal, Int.reduceLT, Int.reduceLE, Int.reduceSub, Int.reduceAdd, Int.reduceNeg, if_true, if_false]
      have hr0 : (0 : Int) ≤ (if n < 0 then -n else n) := by split <;> omega
      generalize (if n < 0 then -n else n) = rest at hr0 ⊢
      have hm : 0 ≤ (sd * 48271 + rest) % 2147483647 := Int.emod_nonneg _ (by decide)
      have hm2 : (sd * 48271 + rest) % 2147483647 < 2147483647 := Int.emod_lt_of_pos _ (by decide)
      generalize (sd * 48271 + rest) % 2147483647 = sd2 at hm hm2 ⊢
      refine ⟨.inr (by decide), ite2 (fun c => ?_) (fun c => ?_)⟩
      · refine FK.rd_for (J := Itr 0 60) (H1 := H2) (fun R r => ⟨60, rfl, by decide, by decide, r⟩) walk_range
          (fun j σ H' => ∃ (ds2 : List Int) (rest : Int) (v4 v6 v7 : Option V), σ = [some (.ref a), some (.ref p), some (.int sd2), some (.int n), v4, some (.int rest), v6, v7] ∧ H' p = some (.lst (ds2.map V.int)) ∧ ds2.length ≤ 60 * i + j ∧ (∀ z ∈ ds2, 0 ≤ z ∧ z < 1000) ∧ 0 ≤ rest ∧ Same H H')
          ⟨ds, rest, v4, v6, v7, rfl, hd, by omega, hz, hr0, hs⟩ (fun _ _ _ _ _ => trivial) ?_ ?_
        · rintro j x σ H3 H4 hj ⟨ds2, rest, v4, v6, v7, rfl, hd2, hn2, hz2, hr2, hs2⟩ ⟨rfl, rfl⟩
          simp only [tSeq, tIfS, tOr, tAnd, tB, tTest, tCB, tCons, tVar, tC, tNil, tNot, tNotV, tRet, tRetN, tNext, tBreak, tOrV, tAndV, tOp, tUn, rEq, rNe, tChain, rI0, rI, rU, tAsg, gName, tDrop, tAug, ipI, tIf, tCall, tCallS, tLst, tTup, tBM, tBM0, rAppend, rExtend, rPop, rReverse, tyV, rIxL, rIxT, rIxS, L2.start, List.map_cons, List.map_nil, List.length_cons, List.length_nil, List.replicate, List.cons_append, List.nil_append, List.append_nil, List.getElem?_cons_zero, List.getElem?_cons_succ, List.set_cons_zero, List.set_cons_succ, Nat.reduceAdd, Nat.reduceSub, Option.some.injEq, exists_eq_left', exists_eq_left, V.int.injEq, V.bl.injEq, V.str.injEq, V.ref.injEq, List.cons.injEq, and_true, true_and, and_assoc, reduceCtorEq, false_and, exists_false, or_false, false_or, exists_and_left, exists_const, scal, Int.reduceLT, Int.reduceLE, Int.reduceSub, Int.reduceAdd, Int.reduceNeg, if_true, if_false]
          refine ite2 (fun c => ?_) (fun c => ?_)
          · exact ⟨hm, hm2, ds2, hd2, by omega, hz2, hs2⟩
          · refine ⟨.inl ⟨_, SqL.of hd2⟩, _, hd2, ?_, ?_⟩
            · rw [List.length_map]
              exact Nat.lt_of_le_of_lt (Nat.le_trans hn2 (show 60 * i + j ≤ 8000 by rw [List.length_map] at hi; omega)) (by decide)
            · refine ⟨⟨by decide, by decide⟩, ds2 ++ [rest % 1000], ?_, ?_, ?_, ?_, ?_⟩
              · rw [upd_same, List.map_append]
                rfl
              · rw [List.length_append, List.length_singleton]
                omega
              · intro z hz3
                rcases List.mem_append.mp hz3 with hz3 | hz3
                · exact hz2 z hz3
                · rw [List.mem_singleton.mp hz3]
                  exact ⟨Int.emod_nonneg _ (by decide), Int.emod_lt_of_pos _ (by decide)⟩
              · exact Int.ediv_nonneg hr2 (by decide)
              · intro b o e
                rw [upd_ne (fun z => by rw [z, hp] at e; cases e)]
                exact hs2 b o e
        · rintro σ H3 ⟨ds2, rest, v4, v6, v7, rfl, hd2, hn2, hz2, hr2, hs2⟩
          exact ⟨ds2, sd2, _, _, _, _, _, rfl, hm, hm2, hd2, by omega, hz2, hs2⟩
      · refine ⟨.inr (by decide), .inr (by decide), .inl ⟨_, SqL.of hd⟩, by decide, fun r2 hr2 => ?_⟩
        have hpr : p ≠ r2 := fun z => by rw [z, hr2] at hd; cases hd
        have e1 : (0 : Int) ≤ rest % 1000 ∧ rest % 1000 < 1000 := ⟨Int.emod_nonneg _ (by decide), Int.emod_lt_of_pos _ (by decide)⟩
        have e2 : (0 : Int) ≤ (rest * 48271 + 11) % 2147483647 % 1000 ∧ (rest * 48271 + 11) % 2147483647 % 1000 < 1000 := ⟨Int.emod_nonneg _ (by decide), Int.emod_lt_of_pos _ (by decide)⟩
        have e3 : (0 : Int) ≤ ((rest * 48271 + 11) % 2147483647 * 69621 + rest) % 2147483629 % 1000 ∧ ((rest * 48271 + 11) % 2147483647 * 69621 + rest) % 2147483629 % 1000 < 1000 := ⟨Int.emod_nonneg _ (by decide), Int.emod_lt_of_pos _ (by decide)⟩
        refine ⟨ds.map V.int, by rw [upd_ne hpr]; exact hd, _, upd_same, ?_, hm, hm2, ds ++ [_, _, _], by rw [upd_same, List.map_append]; rfl, ?_, ?_, ?_⟩
        · rw [List.length_map]
          rw [List.length_map] at hi
          exact Nat.le_trans (show ds.length + 3 ≤ 8000 by omega) (by decide)
        · rw [List.length_append]
          show ds.length + 3 ≤ _
          omega
        · intro z hz3
          rcases List.mem_append.mp hz3 with hz3 | hz3
          · exact hz z hz3
          · simp only [List.mem_cons, List.not_mem_nil, or_false] at hz3
            rcases hz3 with rfl | rfl | rfl
            · exact e1
            · exact e2
            · exact e3
        · intro b o e
          rw [upd_ne (fun z => by rw [z, hp] at e; cases e)]
          exact FK.same_new hr2 b o (hs b o e)
    · rintro σ H1 ⟨ds, sd, v3, v4, v5, v6, v7, rfl, h0, h1, hd, hn, hz, hs⟩
      simp only [tSeq, tIfS, tOr, tAnd, tB, tTest, tCB, tCons, tVar, tC, tNil, tNot, tNotV, tRet, tRetN, tNext, tBreak, tOrV, tAndV, tOp, tUn, rEq, rNe, tChain, rI0, rI, rU, tAsg, gName, tDrop, tAug, ipI, tIf, tCall, tCallS, tLst, tTup, tBM, tBM0, rAppend, rExtend, rPop, rReverse, tyV, rIxL, rIxT, rIxS, L2.start, List.map_cons, List.map_nil, List.length_cons, List.length_nil, List.replicate, List.cons_append, List.nil_append, List.append_nil, List.getElem?_cons_zero, List.getElem?_cons_succ, List.set_cons_zero, List.set_cons_succ, Nat.reduceAdd, Nat.reduceSub, Option.some.injEq, exists_eq_left', exists_eq_left, V.int.injEq, V.bl.injEq, V.str.injEq, V.ref.injEq, List.cons.injEq, and_true, true_and, and_assoc, reduceCtorEq, false_and, exists_false, or_false, false_or, exists_and_left, exists_const, scal, Int.reduceLT, Int.reduceLE, Int.reduceSub, Int.reduceAdd, Int.reduceNeg, if_true, if_false]
      refine FK.rd_for (J := Itr 0 200) (H1 := H1) (fun R r => ⟨200, rfl, by decide, by decide, r⟩) walk_range
        (fun j σ H' => ∃ (ds : List Int) (sd : Int) (v3 v4 v5 v6 v7 : Option V), σ = [some (.ref a), some (.ref p), some (.int sd), v3, v4, v5, v6, v7] ∧ 0 ≤ sd ∧ sd < 2147483647 ∧ H' p = some (.lst (ds.map V.int)) ∧ ds.length ≤ 3780 + j ∧ (∀ z ∈ ds, 0 ≤ z ∧ z < 1000) ∧ Same H H')
        ⟨ds, sd, v3, v4, v5, v6, v7, rfl, h0, h1, hd, by rw [List.length_map] at hn; omega, hz, hs⟩ (fun _ _ _ _ _ => trivial) ?_ ?_
      · rintro j x σ H3 H4 hj ⟨ds2, sd, v3, v4, v5, v6, v7, rfl, h0, h1, hd2, hn2, hz2, hs2⟩ ⟨rfl, rfl⟩
        simp only [tSeq, tIfS, tOr, tAnd, tB, tTest, tCB, tCons, tVar, tC, tNil, tNot, tNotV, tRet, tRetN, tNext, tBreak, tOrV, tAndV, tOp, tUn, rEq, rNe, tChain, rI0, rI, rU, tAsg, gName, tDrop, tAug, ipI, tIf, tCall, tCallS, tLst, tTup, tBM, tBM0, rAppend, rExtend, rPop, rReverse, tyV, rIxL, rIxT, rIxS, L2.start, List.map_cons, List.map_nil, List.length_cons, List.length_nil, List.replicate, List.cons_append, List.nil_append, List.append_nil, List.getElem?_cons_zero, List.getElem?_cons_succ, List.set_cons_zero, List.set_cons_succ, Nat.reduceAdd, Nat.reduceSub, Option.some.injEq, exists_eq_left', exists_eq_left, V.int.injEq, V.bl.injEq, V.str.injEq, V.ref.injEq, List.cons.injEq, and_true, true_and, and_assoc, reduceCtorEq, false_and, exists_false, or_false, false_or, exists_and_left, exists_const, scal, Int.reduceLT, Int.reduceLE, Int.reduceSub, Int.reduceAdd, Int.reduceNeg, if_true, if_false]
        have hm : 0 ≤ (sd * 48271 + 12345) % 2147483647 := Int.emod_nonneg _ (by decide)
        have hm2 : (sd * 48271 + 12345) % 2147483647 < 2147483647 := Int.emod_lt_of_pos _ (by decide)
        generalize (sd * 48271 + 12345) % 2147483647 = sd2 at hm hm2 ⊢
        refine ⟨.inr (by decide), .inl ⟨_, SqL.of hd2⟩, ⟨by decide, by decide⟩, _, hd2, ?_, hm, hm2, ds2 ++ [sd2 / 7 % 1000], ?_, ?_, ?_, ?_⟩
        · rw [List.length_map]
          exact Nat.lt_of_le_of_lt (show ds2.length ≤ 8000 by omega) (by decide)
        · rw [upd_same, List.map_append]
          rfl
        · rw [List.length_append, List.length_singleton]
          omega
        · intro z hz3
          rcases List.mem_append.mp hz3 with hz3 | hz3
          · exact hz2 z hz3
          · rw [List.mem_singleton.mp hz3]
            exact ⟨Int.emod_nonneg _ (by decide), Int.emod_lt_of_pos _ (by decide)⟩
        · intro b o e
          rw [upd_ne (fun z => by rw [z, hp] at e; cases e)]
          exact hs2 b o e
      · rintro σ H3 ⟨ds2, sd, v3, v4, v5, v6, v7, rfl, h0, h1, hd2, hn2, hz2, hs2⟩
        simp only [tSeq, tIfS, tOr, tAnd, tB, tTest, tCB, tCons, tVar, tC, tNil, tNot, tNotV, tRet, tRetN, tNext, tBreak, tOrV, tAndV, tOp, tUn, rEq, rNe, tChain, rI0, rI, rU, tAsg, gName, tDrop, tAug, ipI, tIf, tCall, tCallS, tLst, tTup, tBM, tBM0, rAppend, rExtend, rPop, rReverse, tyV, rIxL, rIxT, rIxS, L2.start, List.map_cons, List.map_nil, List.length_cons, List.length_nil, List.replicate, List.cons_append, List.nil_append, List.append_nil, List.getElem?_cons_zero, List.getElem?_cons_succ, List.set_cons_zero, List.set_cons_succ, Nat.reduceAdd, Nat.reduceSub, Option.some.injEq, exists_eq_left', exists_eq_left, V.int.injEq, V.bl.injEq, V.str.injEq, V.ref.injEq, List.cons.injEq, and_true, true_and, and_assoc, reduceCtorEq, false_and, exists_false, or_false, false_or, exists_and_left, exists_const, scal, Int.reduceLT, Int.reduceLE, Int.reduceSub, Int.reduceAdd, Int.reduceNeg, if_true, if_false]
        refine ⟨.inl ⟨_, SqL.of hd2⟩, _, hd2, q p _ hp ⟨ds2.reverse, by rw [upd_same, List.map_reverse], by rw [List.length_reverse]; omega, fun z hz3 => hz2 z (List.mem_reverse.mp hz3)⟩ ?_⟩
        intro b o e
        rw [upd_ne (fun z => by rw [z, hp] at e; cases e)]
        exact hs2 b o e

/-- the law's own kind -/
def lk3 (n : Int) : Int := if 0 < n then n else 1000003
def lkTotal (m0 m1 m2 : Int) : Int := (if 0 < m0 then (lk3 m0 * lk3 m1 * lk3 m2).fdiv (lk3 m0) else 0) + (if 0 < m1 then (lk3 m0 * lk3 m1 * lk3 m2).fdiv (lk3 m1) else 0) + (if 0 < m2 then (lk3 m0 * lk3 m1 * lk3 m2).fdiv (lk3 m2) else 0)
def lawKind (m0 m1 m2 : Int) : Str := if lk3 m0 * lk3 m1 * lk3 m2 < lkTotal m0 m1 m2 then "round" else if lkTotal m0 m1 m2 = lk3 m0 * lk3 m1 * lk3 m2 then "flat" else "wide"
def spLawKind (K : PySem.W.Frag) : Sp := fun vs H Q _ => ∃ (a : Addr) (m0 m1 m2 : Int), vs = [.ref a] ∧ SqT K H a [.int m0, .int m1, .int m2] ∧ (0 ≤ m0 ∧ m0 ≤ 12) ∧ (0 ≤ m1 ∧ m1 ≤ 12) ∧ (0 ≤ m2 ∧ m2 ≤ 12) ∧ ∀ H', Same H H' → Q (.str (lawKind m0 m1 m2)) H'
theorem ok_law_kind (T : Txt K mg cx) : FK.Has P w K mg base CX0 1 "_law_kind" ["orders"] (spLawKind K) := by
  refine T.d_law_kind.ok sc_law_kind (fun vs H Q E h => ?_) (fun f cdv A outer s H vs Q E hr h => ?_)
  · obtain ⟨a, m0, m1, m2, rfl, _⟩ := h
    rfl
  · obtain ⟨a, m0, m1, m2, rfl, hS, b0, b1, b2, q⟩ := h
    refine ⟨_, (pss_cons (ps_asg (pe_lc (own := [("order", 7)]) (g := gName 7) (tt := tYes) rfl sc_law_kind.nd (pi_tup (pv 0)) (blkOk_by (own := [("order", 7)]) (N := ["orders", "total", "whole", "k", "p", "q", "r", "order"]) (sc := defScope s_law_kind) (by decide +kernel)) (fun _ _ _ _ _ => (pg_name (i := 7) sc_law_kind.nd rfl (Or.inl rfl))) (fun _ _ _ _ _ => pts_nil) (fun _ _ _ _ _ => (pe_ifExp (pt_cmpR op_gt (pv 7) pe_int (nomark _)) (pv 7) pe_int))) (pg_unl rfl (pgs_cons (pg_name (i := 4) sc_law_kind.nd rfl (Or.inl rfl)) (pgs_cons (pg_name (i := 5) sc_law_kind.nd rfl (Or.inl rfl)) (pgs_cons (pg_name (i := 6) sc_law_kind.nd rfl (Or.inl rfl)) pgs_nil)))))
  (pss_cons (ps_set (i := 1) sc_law_kind.nd rfl (Or.inl rfl) (by exact pe_int))
  (pss_cons (ps_set (i := 2) sc_law_kind.nd rfl (Or.inl rfl) (by exact (pe_op op_mul (pe_op op_mul (pv 4) (pv 5)) (pv 6))))
  (pss_cons (ps_for PassesOwn.never rfl (pi_range1 rfl T.n_range (pa_cons pe_int pa_nil)) (pg_name (i := 3) sc_law_kind.nd rfl (Or.inl rfl))
  (pss_one (ps_if (pt_cmpR op_gt (pe_ix (r := rIxT K) ix_tup (pv 0) (pv 3) (fun _ _ => rfl)) pe_int (nomark _)) (pss_one (ps_set (i := 1) sc_law_kind.nd rfl (Or.inl rfl) (by exact (pe_op op_add (pv 1) (pe_op op_fdivN (pv 2) (pe_ix (r := rIxL K) ix_list (pe_lst (pa_cons (pv 4) (pa_cons (pv 5) (pa_cons (pv 6) pa_nil)))) (pv 3) (fun _ _ => rfl))))))) pss_nil)))
  (pss_cons (ps_if (pt_cmpR op_gt (pv 1) (pv 2) (nomark _)) (pss_one (ps_ret pe_str)) pss_nil)
  (pss_cons (ps_if (pt_cmpR op_eq (pv 1) (pv 2) (nomark _)) (pss_one (ps_ret pe_str)) pss_nil)
  (pss_one (ps_ret pe_str)))))))), ?_⟩
    simp only [tSeq, tIfS, tOr, tAnd, tB, tTest, tCB, tCons, tVar, tC, tNil, tNot, tNotV, tRet, tRetN, tNext, tBreak, tOrV, tAndV, tOp, tUn, rEq, rNe, tChain, rI0, rI, rU, tAsg, gName, tDrop, tAug, ipI, tIf, tCall, tCallS, tLst, tTup, tBM, tBM0, rAppend, rExtend, rPop, rReverse, tyV, rIxL, rIxT, rIxS, L2.start, List.map_cons, List.map_nil, List.length_cons, List.length_nil, List.replicate, List.cons_append, List.nil_append, List.append_nil, List.getElem?_cons_zero, List.getElem?_cons_succ, List.set_cons_zero, List.set_cons_succ, Nat.reduceAdd, Nat.reduceSub, Option.some.injEq, exists_eq_left', exists_eq_left, V.int.injEq, V.bl.injEq, V.str.injEq, V.ref.injEq, List.cons.injEq, and_true, true_and, and_assoc, reduceCtorEq, false_and, exists_false, or_false, false_or, exists_and_left, exists_const, scal, Int.reduceLT, Int.reduceLE, Int.reduceSub, Int.reduceAdd, Int.reduceNeg, if_true, if_false]
    refine FK.rd_lc_pure (J := Itt K a) (H1 := H) [.int (lk3 m0), .int (lk3 m1), .int (lk3 m2)] (fun R r => ⟨_, rfl, a, rfl, ⟨_, hS⟩, r⟩)
      (walk_tup (xs := [.int m0, .int m1, .int m2])) (fun D' o hD' => FK.Same.tupS (FK.same_new hD') hS) (by show 3 < 16777216; decide) (fun _ => rfl) ?_ ?_ (fun _ _ _ _ (z : _ ∧ _) => z.1)
    · rintro D j x z H' H4 R hD hz rfl ⟨e4, hx⟩ go
      have key : ∀ m : Int, R (V.int (lk3 m)) H4 → tIf (tTest (tOp (rI0 fun i j => V.bl (decide (j < i))) (tVar 7) (tC (V.int 0)))) (tVar 7) (tC (V.int 1000003)) ((wipe [some (.ref a), none, none, none, none, none, none, none] [7]).set 7 (some (V.int m))) H4 R := by
        intro m g
        simp only [tSeq, tIfS, tOr, tAnd, tB, tTest, tCB, tCons, tVar, tC, tNil, tNot, tNotV, tRet, tRetN, tNext, tBreak, tOrV, tAndV, tOp, tUn, rEq, rNe, tChain, rI0, rI, rU, tAsg, gName, tDrop, tAug, ipI, tIf, tCall, tCallS, tLst, tTup, tBM, tBM0, rAppend, rExtend, rPop, rReverse, tyV, rIxL, rIxT, rIxS, L2.start, List.map_cons, List.map_nil, List.length_cons, List.length_nil, List.replicate, List.cons_append, List.nil_append, List.append_nil, List.getElem?_cons_zero, List.getElem?_cons_succ, List.set_cons_zero, List.set_cons_succ, Nat.reduceAdd, Nat.reduceSub, Option.some.injEq, exists_eq_left', exists_eq_left, V.int.injEq, V.bl.injEq, V.str.injEq, V.ref.injEq, List.cons.injEq, and_true, true_and, and_assoc, reduceCtorEq, false_and, exists_false, or_false, false_or, exists_and_left, exists_const, scal, Int.reduceLT, Int.reduceLE, Int.reduceSub, Int.reduceAdd, Int.reduceNeg, if_true, if_false, wipe]
        unfold lk3 at g
        refine ite2 (fun c => ?_) (fun c => ?_)
        · rw [if_pos (of_decide_eq_true c)] at g
          exact g
        · rw [if_neg (fun z => c (decide_eq_true z))] at g
          exact g
      match j, hx, hz with
      | 0, hx, hz => cases hx; cases hz; exact key m0 go
      | 1, hx, hz => cases hx; cases hz; exact key m1 go
      | 2, hx, hz => cases hx; cases hz; exact key m2 go
      | _ + 3, hx, _ => simp at hx
    · intro D hD
      have l : ∀ m : Int, 0 ≤ m ∧ m ≤ 12 → 0 < lk3 m ∧ lk3 m ≤ 1000003 := fun m hm => by
        unfold lk3
        split <;> omega
      have l0 := l m0 b0
      have l1 := l m1 b1
      have l2 := l m2 b2
      refine ⟨D, _, rfl, SqL.of upd_same, rfl, _, _, rfl, _, _, rfl, _, _, rfl, rfl, ?_⟩
      simp only [tSeq, tIfS, tOr, tAnd, tB, tTest, tCB, tCons, tVar, tC, tNil, tNot, tNotV, tRet, tRetN, tNext, tBreak, tOrV, tAndV, tOp, tUn, rEq, rNe, tChain, rI0, rI, rU, tAsg, gName, tDrop, tAug, ipI, tIf, tCall, tCallS, tLst, tTup, tBM, tBM0, rAppend, rExtend, rPop, rReverse, tyV, rIxL, rIxT, rIxS, L2.start, List.map_cons, List.map_nil, List.length_cons, List.length_nil, List.replicate, List.cons_append, List.nil_append, List.append_nil, List.getElem?_cons_zero, List.getElem?_cons_succ, List.set_cons_zero, List.set_cons_succ, Nat.reduceAdd, Nat.reduceSub, Option.some.injEq, exists_eq_left', exists_eq_left, V.int.injEq, V.bl.injEq, V.str.injEq, V.ref.injEq, List.cons.injEq, and_true, true_and, and_assoc, reduceCtorEq, false_and, exists_false, or_false, false_or, exists_and_left, exists_const, scal, Int.reduceLT, Int.reduceLE, Int.reduceSub, Int.reduceAdd, Int.reduceNeg, if_true, if_false]
      refine ⟨.inl ⟨by omega, by omega⟩, .inr ⟨by omega, by omega⟩, ?_⟩
      have s1 : Same H (upd H D (.lst [V.int (lk3 m0), V.int (lk3 m1), V.int (lk3 m2)])) := FK.same_new hD
      obtain ⟨t, ht⟩ : ∃ t : Nat → Int, t 0 = (0 : Int) ∧ t 1 = t 0 + (if 0 < m0 then (lk3 m0 * lk3 m1 * lk3 m2).fdiv (lk3 m0) else 0) ∧ t 2 = t 1 + (if 0 < m1 then (lk3 m0 * lk3 m1 * lk3 m2).fdiv (lk3 m1) else 0) ∧ t 3 = t 2 + (if 0 < m2 then (lk3 m0 * lk3 m1 * lk3 m2).fdiv (lk3 m2) else 0) :=
        ⟨fun k => match k with
          | 0 => 0
          | 1 => 0 + (if 0 < m0 then (lk3 m0 * lk3 m1 * lk3 m2).fdiv (lk3 m0) else 0)
          | 2 => 0 + (if 0 < m0 then (lk3 m0 * lk3 m1 * lk3 m2).fdiv (lk3 m0) else 0) + (if 0 < m1 then (lk3 m0 * lk3 m1 * lk3 m2).fdiv (lk3 m1) else 0)
          | _ => 0 + (if 0 < m0 then (lk3 m0 * lk3 m1 * lk3 m2).fdiv (lk3 m0) else 0) + (if 0 < m1 then (lk3 m0 * lk3 m1 * lk3 m2).fdiv (lk3 m1) else 0) + (if 0 < m2 then (lk3 m0 * lk3 m1 * lk3 m2).fdiv (lk3 m2) else 0), rfl, rfl, rfl, rfl⟩
      refine FK.rd_for (J := Itr 0 3) (H1 := upd H D (.lst [V.int (lk3 m0), V.int (lk3 m1), V.int (lk3 m2)])) (fun R r => ⟨3, rfl, by decide, by decide, r⟩) walk_range
        (fun i σ H' => ∃ v3 v7 : Option V, σ = [some (.ref a), some (.int (t i)), some (.int (lk3 m0 * lk3 m1 * lk3 m2)), v3, some (.int (lk3 m0)), some (.int (lk3 m1)), some (.int (lk3 m2)), v7] ∧ Same H H')
        ⟨none, none, by rw [ht.1], s1⟩ (fun _ _ _ _ _ => trivial) ?_ ?_
      · rintro i x σ H' H'' hi ⟨v3, v7, rfl, s2⟩ ⟨rfl, rfl⟩
        have key : ∀ (m lm : Int) (i' : Nat), t (i + 1) = t i + (if 0 < m then (lk3 m0 * lk3 m1 * lk3 m2).fdiv lm else 0) → 0 < lm ∧ lm ≤ 1000003 → atI [V.int m0, .int m1, .int m2] (0 + (i : Int)) = some (.int m) → atI [V.int (lk3 m0), .int (lk3 m1), .int (lk3 m2)] (0 + (i : Int)) = some (.int lm) →
            ∀ (D : Ends), (∀ v H3, Same H H3 → D.nx [some (.ref a), some (.int (t (i + 1))), some (.int (lk3 m0 * lk3 m1 * lk3 m2)), some v, some (.int (lk3 m0)), some (.int (lk3 m1)), some (.int (lk3 m2)), v7] H3) →
            tIfS (tTest (tOp (rI0 fun i j => V.bl (decide (j < i))) (tOp (rIxT K) (tVar 0) (tVar 3)) (tC (V.int 0)))) (tAsg (tOp (rI0 fun i j => V.int (i + j)) (tVar 1) (tOp (rI CDivN fun i j => V.int (i.fdiv j)) (tVar 2) (tOp (rIxL K) (tLst (tCons (tVar 4) (tCons (tVar 5) (tCons (tVar 6) tNil)))) (tVar 3)))) (gName 1)) tNext D
              [some (.ref a), some (.int (t i)), some (.int (lk3 m0 * lk3 m1 * lk3 m2)), some (.int (0 + (i : Int))), some (.int (lk3 m0)), some (.int (lk3 m1)), some (.int (lk3 m2)), v7] H'' := by
          intro m lm i' et hlm ha hb D go
          simp only [tSeq, tIfS, tOr, tAnd, tB, tTest, tCB, tCons, tVar, tC, tNil, tNot, tNotV, tRet, tRetN, tNext, tBreak, tOrV, tAndV, tOp, tUn, rEq, rNe, tChain, rI0, rI, rU, tAsg, gName, tDrop, tAug, ipI, tIf, tCall, tCallS, tLst, tTup, tBM, tBM0, rAppend, rExtend, rPop, rReverse, tyV, rIxL, rIxT, rIxS, L2.start, List.map_cons, List.map_nil, List.length_cons, List.length_nil, List.replicate, List.cons_append, List.nil_append, List.append_nil, List.getElem?_cons_zero, List.getElem?_cons_succ, List.set_cons_zero, List.set_cons_succ, Nat.reduceAdd, Nat.reduceSub, Option.some.injEq, exists_eq_left', exists_eq_left, V.int.injEq, V.bl.injEq, V.str.injEq, V.ref.injEq, List.cons.injEq, and_true, true_and, and_assoc, reduceCtorEq, false_and, exists_false, or_false, false_or, exists_and_left, exists_const, scal, Int.reduceLT, Int.reduceLE, Int.reduceSub, Int.reduceAdd, Int.reduceNeg, if_true, if_false]
          refine ⟨_, FK.Same.tupS s2 hS, _, ha, m, rfl, ?_⟩
          refine ite2 (fun c => ?_) (fun c => ?_)
          · rw [if_pos (of_decide_eq_true c)] at et
            refine ⟨by decide, fun p hp => ⟨_, SqL.of upd_same, _, hb, lm, rfl, ⟨by omega, by omega⟩, ?_⟩⟩
            rw [← et]
            exact go _ _ (s2.trans (FK.same_new hp))
          · rw [if_neg (fun z => c (decide_eq_true z)), Int.add_zero] at et
            rw [← et]
            exact go _ _ s2
        match i, hi, key with
        | 0, _, key => exact key m0 (lk3 m0) 0 ht.2.1 l0 rfl rfl _ fun v H3 s3 => ⟨_, _, rfl, s3⟩
        | 1, _, key => exact key m1 (lk3 m1) 0 ht.2.2.1 l1 rfl rfl _ fun v H3 s3 => ⟨_, _, rfl, s3⟩
        | 2, _, key => exact key m2 (lk3 m2) 0 ht.2.2.2 l2 rfl rfl _ fun v H3 s3 => ⟨_, _, rfl, s3⟩
        | _ + 3, hi, _ => omega
      · rintro σ H' ⟨v3, v7, rfl, s2⟩
        have et : t 3 = lkTotal m0 m1 m2 := by
          rw [ht.2.2.2, ht.2.2.1, ht.2.1, ht.1, Int.zero_add]
          rfl
        rw [et]
        have q2 := q _ s2
        unfold lawKind at q2
        simp only [tSeq, tIfS, tOr, tAnd, tB, tTest, tCB, tCons, tVar, tC, tNil, tNot, tNotV, tRet, tRetN, tNext, tBreak, tOrV, tAndV, tOp, tUn, rEq, rNe, tChain, rI0, rI, rU, tAsg, gName, tDrop, tAug, ipI, tIf, tCall, tCallS, tLst, tTup, tBM, tBM0, rAppend, rExtend, rPop, rReverse, tyV, rIxL, rIxT, rIxS, L2.start, List.map_cons, List.map_nil, List.length_cons, List.length_nil, List.replicate, List.cons_append, List.nil_append, List.append_nil, List.getElem?_cons_zero, List.getElem?_cons_succ, List.set_cons_zero, List.set_cons_succ, Nat.reduceAdd, Nat.reduceSub, Option.some.injEq, exists_eq_left', exists_eq_left, V.int.injEq, V.bl.injEq, V.str.injEq, V.ref.injEq, List.cons.injEq, and_true, true_and, and_assoc, reduceCtorEq, false_and, exists_false, or_false, false_or, exists_and_left, exists_const, scal, Int.reduceLT, Int.reduceLE, Int.reduceSub, Int.reduceAdd, Int.reduceNeg, if_true, if_false]
        refine ite2 (fun c => ?_) (fun c => ite2 (fun c2 => ?_) fun c2 => ?_)
        · rw [if_pos (of_decide_eq_true c)] at q2
          exact q2
        · rw [if_neg (fun z => c (decide_eq_true z)), if_pos (of_decide_eq_true c2)] at q2
          exact q2
        · rw [if_neg (fun z => c (decide_eq_true z)), if_neg (fun z => c2 (decide_eq_true z))] at q2
          exact q2
def okList : List Int := [0, 2, 3, 4, 5, 6, 7, 8, 9, 10, 11, 12]
theorem okOrder_mem {n : Int} (h : okOrder n = true) : n ∈ okList := by
  have h2 : n = 0 ∨ (2 ≤ n ∧ n ≤ 12) := by
    unfold okOrder at h
    simpa using h
  have : n = 0 ∨ n = 2 ∨ n = 3 ∨ n = 4 ∨ n = 5 ∨ n = 6 ∨ n = 7 ∨ n = 8 ∨ n = 9 ∨ n = 10 ∨ n = 11 ∨ n = 12 := by omega
  simpa [okList] using this
theorem kinds_agree : ∀ m0 ∈ okList, ∀ m1 ∈ okList, ∀ m2 ∈ okList, kindOf [m0, m1, m2] = lawKind m0 m1 m2 := by decide +kernel

def toldV (way : Int) (ns : List Int) (x y : Str) : V :=
  if way = 0 then (if okOrders ns = true then .non else .str "orders")
  else if way = 1 then (if okOrders ns = true then (if twoLet x y = true then (match ns with | [m0, m1, m2] => .int (betw m0 m1 m2 x y) | _ => .non) else .str "word") else .str "orders")
  else if way = 2 then (if okOrders ns = true then .str (kindOf ns) else .str "orders")
  else (if okWord x 60 = true then .non else .str "word")
def spTold (K : PySem.W.Frag) : Sp := fun vs H Q _ => ∃ (way : Int) (a : Addr) (ns : List Int) (x y : Str), vs = [.int way, .ref a, .str x, .str y] ∧ SqT K H a (ns.map V.int) ∧ x.length < sizeLine ∧ ∀ H', Same H H' → Q (toldV way ns x y) H'
theorem ok_law_told (T : Txt K mg cx) : FK.Has P w K mg base CX0 6 "_law_told" ["way", "orders", "one", "other"] (spTold K) := by
  have H_check_orders := ok_check_orders (P := P) (w := w) (base := base) T
  have H_order_of := ok_order_of (P := P) (w := w) (base := base) T
  have H_kind_of := ok_kind_of (P := P) (w := w) (base := base) T
  have H_check_word := ok_check_word (P := P) (w := w) (base := base) T
  refine T.d_law_told.ok sc_law_told (fun vs H Q E h => ?_) (fun f cdv A outer s H vs Q E hr h => ?_)
  · obtain ⟨way, a, ns, x, y, rfl, _⟩ := h
    rfl
  · obtain ⟨way, a, ns, x, y, rfl, hS, hx, q⟩ := h
    refine ⟨_, (pss_one (ps_try_as (i := 4) rfl rfl sc_law_told.nd rfl rfl ⟨rfl, by decide, .inl T.x_FoldError.g⟩ takes0 (fun W pn xe tk po => (pss_cons (ps_if (pt_cmpR op_eq (pv 0) pe_int (nomark _)) (pss_one (ps_ret (FK.pe_hS H_check_orders (hr.mono (by decide)) (fun σ => passAt tk σ) (pa_cons (pv 1) pa_nil)))) pss_nil)
  (pss_cons (ps_if (pt_cmpR op_eq (pv 0) pe_int (nomark _)) (pss_one (ps_ret (FK.pe_hS H_order_of (hr.mono (by decide)) (fun σ => passAt tk σ) (pa_cons (pv 1) (pa_cons (pv 2) (pa_cons (pv 3) pa_nil)))))) pss_nil)
  (pss_cons (ps_if (pt_cmpR op_eq (pv 0) pe_int (nomark _)) (pss_one (ps_ret (FK.pe_hS H_kind_of (hr.mono (by decide)) (fun σ => passAt tk σ) (pa_cons (pv 1) pa_nil)))) pss_nil)
  (pss_one (ps_ret (FK.pe_hS H_check_word (hr.mono (by decide)) (fun σ => passAt tk σ) (pa_cons (pv 2) pa_nil)))))))) (fun a oe cls dd pn hz hf => (pss_cons (ps_if (PW.pt (pw_and (pt_val (pe_callB (FK.call_isEx hz hf) (by rfl) T.n_isinstance (by decide +kernel) (pa_cons (pv 4) (pa_cons (pe_glob (v := .ref cx.NotOrders) rfl T.x_NotOrders.g rfl) pa_nil)))) (pw_and1 (pt_not (pt_val (pe_callB (FK.call_isEx hz hf) (by rfl) T.n_isinstance (by decide +kernel) (pa_cons (pv 4) (pa_cons (pe_glob (v := .ref cx.BadNumber) rfl T.x_BadNumber.g rfl) pa_nil)))))))) (pss_one (ps_ret pe_str)) pss_nil)
  (pss_cons (ps_if (PW.pt (pw_and (pt_val (pe_callB (FK.call_isEx hz hf) (by rfl) T.n_isinstance (by decide +kernel) (pa_cons (pv 4) (pa_cons (pe_glob (v := .ref cx.NotWord) rfl T.x_NotWord.g rfl) pa_nil)))) (pw_and1 (pt_not (pt_val (pe_callB (FK.call_isEx hz hf) (by rfl) T.n_isinstance (by decide +kernel) (pa_cons (pv 4) (pa_cons (pe_glob (v := .ref cx.NotOrders) rfl T.x_NotOrders.g rfl) pa_nil)))))))) (pss_one (ps_ret pe_str)) pss_nil)
  (pss_one (ps_ret pe_str))))))), ?_⟩
    simp only [tSeq, tIfS, tOr, tAnd, tB, tTest, tCB, tCons, tVar, tC, tNil, tNot, tNotV, tRet, tRetN, tNext, tBreak, tOrV, tAndV, tOp, tUn, rEq, rNe, tChain, rI0, rI, rU, tAsg, gName, tDrop, tAug, ipI, tIf, tCall, tCallS, tLst, tTup, tBM, tBM0, rAppend, rExtend, rPop, rReverse, tyV, rIxL, rIxT, rIxS, L2.start, List.map_cons, List.map_nil, List.length_cons, List.length_nil, List.replicate, List.cons_append, List.nil_append, List.append_nil, List.getElem?_cons_zero, List.getElem?_cons_succ, List.set_cons_zero, List.set_cons_succ, Nat.reduceAdd, Nat.reduceSub, Option.some.injEq, exists_eq_left', exists_eq_left, V.int.injEq, V.bl.injEq, V.str.injEq, V.ref.injEq, List.cons.injEq, and_true, true_and, and_assoc, reduceCtorEq, false_and, exists_false, or_false, false_or, exists_and_left, exists_const, scal, Int.reduceLT, Int.reduceLE, Int.reduceSub, Int.reduceAdd, Int.reduceNeg, if_true, if_false]
    have nil : ∀ H1, Same H H1 → Same H H1 := fun _ z => z
    refine ite2 (fun c => ?_) (fun c => ite2 (fun c1 => ?_) fun c1 => ite2 (fun c2 => ?_) fun c2 => ?_)
    · have ew := of_decide_eq_true c
      subst ew
      refine ⟨a, ns, rfl, hS, fun e H1 s1 => ?_, fun e H1 s1 => ?_⟩
      · have q2 := q H1 s1
        simp only [toldV, e, if_true, if_neg Bool.false_ne_true] at q2
        refine ⟨true, T.exm_NotOrders, fun _ b hb => ?_, fun z => nomatch z⟩
        simp only [tSeq, tIfS, tOr, tAnd, tB, tTest, tCB, tCons, tVar, tC, tNil, tNot, tNotV, tRet, tRetN, tNext, tBreak, tOrV, tAndV, tOp, tUn, rEq, rNe, tChain, rI0, rI, rU, tAsg, gName, tDrop, tAug, ipI, tIf, tCall, tCallS, tLst, tTup, tBM, tBM0, rAppend, rExtend, rPop, rReverse, tyV, rIxL, rIxT, rIxS, L2.start, List.map_cons, List.map_nil, List.length_cons, List.length_nil, List.replicate, List.cons_append, List.nil_append, List.append_nil, List.getElem?_cons_zero, List.getElem?_cons_succ, List.set_cons_zero, List.set_cons_succ, Nat.reduceAdd, Nat.reduceSub, Option.some.injEq, exists_eq_left', exists_eq_left, V.int.injEq, V.bl.injEq, V.str.injEq, V.ref.injEq, List.cons.injEq, and_true, true_and, and_assoc, reduceCtorEq, false_and, exists_false, or_false, false_or, exists_and_left, exists_const, scal, Int.reduceLT, Int.reduceLE, Int.reduceSub, Int.reduceAdd, Int.reduceNeg, if_true, if_false, rIsE]
        exact ⟨_, rfl, T.x_NotOrders.e, _, fun u r => r, _, T.kit_NotOrders_NotOrders, iteT ⟨_, rfl, T.x_NotOrders.e, _, fun u r => r, _, T.kit_NotOrders_BadNumber, iteT q2⟩⟩
      · have q2 := q H1 s1
        simp only [toldV, e, if_true] at q2
        exact q2
    · have ew := of_decide_eq_true c1
      subst ew
      refine ⟨a, ns, x, y, rfl, hS, fun e H1 s1 => ?_, fun e e2 H1 s1 => ?_, fun m0 m1 m2 hm e e2 H1 s1 => ?_⟩
      · have q2 := q H1 s1
        simp only [toldV, e, if_true, if_neg Bool.false_ne_true, if_neg (show ¬ (1 : Int) = 0 by decide)] at q2
        refine ⟨true, T.exm_NotOrders, fun _ b hb => ?_, fun z => nomatch z⟩
        simp only [tSeq, tIfS, tOr, tAnd, tB, tTest, tCB, tCons, tVar, tC, tNil, tNot, tNotV, tRet, tRetN, tNext, tBreak, tOrV, tAndV, tOp, tUn, rEq, rNe, tChain, rI0, rI, rU, tAsg, gName, tDrop, tAug, ipI, tIf, tCall, tCallS, tLst, tTup, tBM, tBM0, rAppend, rExtend, rPop, rReverse, tyV, rIxL, rIxT, rIxS, L2.start, List.map_cons, List.map_nil, List.length_cons, List.length_nil, List.replicate, List.cons_append, List.nil_append, List.append_nil, List.getElem?_cons_zero, List.getElem?_cons_succ, List.set_cons_zero, List.set_cons_succ, Nat.reduceAdd, Nat.reduceSub, Option.some.injEq, exists_eq_left', exists_eq_left, V.int.injEq, V.bl.injEq, V.str.injEq, V.ref.injEq, List.cons.injEq, and_true, true_and, and_assoc, reduceCtorEq, false_and, exists_false, or_false, false_or, exists_and_left, exists_const, scal, Int.reduceLT, Int.reduceLE, Int.reduceSub, Int.reduceAdd, Int.reduceNeg, if_true, if_false, rIsE]
        exact ⟨_, rfl, T.x_NotOrders.e, _, fun u r => r, _, T.kit_NotOrders_NotOrders, iteT ⟨_, rfl, T.x_NotOrders.e, _, fun u r => r, _, T.kit_NotOrders_BadNumber, iteT q2⟩⟩
      · have q2 := q H1 s1
        simp only [toldV, e, e2, if_true, if_neg Bool.false_ne_true, if_neg (show ¬ (1 : Int) = 0 by decide)] at q2
        refine ⟨true, T.exm_NotWord, fun _ b hb => ?_, fun z => nomatch z⟩
        simp only [tSeq, tIfS, tOr, tAnd, tB, tTest, tCB, tCons, tVar, tC, tNil, tNot, tNotV, tRet, tRetN, tNext, tBreak, tOrV, tAndV, tOp, tUn, rEq, rNe, tChain, rI0, rI, rU, tAsg, gName, tDrop, tAug, ipI, tIf, tCall, tCallS, tLst, tTup, tBM, tBM0, rAppend, rExtend, rPop, rReverse, tyV, rIxL, rIxT, rIxS, L2.start, List.map_cons, List.map_nil, List.length_cons, List.length_nil, List.replicate, List.cons_append, List.nil_append, List.append_nil, List.getElem?_cons_zero, List.getElem?_cons_succ, List.set_cons_zero, List.set_cons_succ, Nat.reduceAdd, Nat.reduceSub, Option.some.injEq, exists_eq_left', exists_eq_left, V.int.injEq, V.bl.injEq, V.str.injEq, V.ref.injEq, List.cons.injEq, and_true, true_and, and_assoc, reduceCtorEq, false_and, exists_false, or_false, false_or, exists_and_left, exists_const, scal, Int.reduceLT, Int.reduceLE, Int.reduceSub, Int.reduceAdd, Int.reduceNeg, if_true, if_false, rIsE]
        exact ⟨_, rfl, T.x_NotWord.e, _, fun u r => r, _, T.kit_NotWord_NotOrders, iteF ⟨_, rfl, T.x_NotWord.e, _, fun u r => r, _, T.kit_NotWord_NotWord, iteT ⟨_, rfl, T.x_NotWord.e, _, fun u r => r, _, T.kit_NotWord_NotOrders, iteT q2⟩⟩⟩
      · have q2 := q H1 s1
        subst hm
        simp only [toldV, e, e2, if_true, if_neg (show ¬ (1 : Int) = 0 by decide)] at q2
        exact q2
    · have ew := of_decide_eq_true c2
      subst ew
      refine ⟨a, ns, rfl, hS, fun e H1 s1 => ?_, fun e H1 s1 => ?_⟩
      · have q2 := q H1 s1
        simp only [toldV, e, if_true, if_neg Bool.false_ne_true, if_neg (show ¬ (2 : Int) = 0 by decide), if_neg (show ¬ (2 : Int) = 1 by decide)] at q2
        refine ⟨true, T.exm_NotOrders, fun _ b hb => ?_, fun z => nomatch z⟩
        simp only [tSeq, tIfS, tOr, tAnd, tB, tTest, tCB, tCons, tVar, tC, tNil, tNot, tNotV, tRet, tRetN, tNext, tBreak, tOrV, tAndV, tOp, tUn, rEq, rNe, tChain, rI0, rI, rU, tAsg, gName, tDrop, tAug, ipI, tIf, tCall, tCallS, tLst, tTup, tBM, tBM0, rAppend, rExtend, rPop, rReverse, tyV, rIxL, rIxT, rIxS, L2.start, List.map_cons, List.map_nil, List.length_cons, List.length_nil, List.replicate, List.cons_append, List.nil_append, List.append_nil, List.getElem?_cons_zero, List.getElem?_cons_succ, List.set_cons_zero, List.set_cons_succ, Nat.reduceAdd, Nat.reduceSub, Option.some.injEq, exists_eq_left', exists_eq_left, V.int.injEq, V.bl.injEq, V.str.injEq, V.ref.injEq, List.cons.injEq, and_true, true_and, and_assoc, reduceCtorEq, false_and, exists_false, or_false, false_or, exists_and_left, exists_const, scal, Int.reduceLT, Int.reduceLE, Int.reduceSub, Int.reduceAdd, Int.reduceNeg, if_true, if_false, rIsE]
        exact ⟨_, rfl, T.x_NotOrders.e, _, fun u r => r, _, T.kit_NotOrders_NotOrders, iteT ⟨_, rfl, T.x_NotOrders.e, _, fun u r => r, _, T.kit_NotOrders_BadNumber, iteT q2⟩⟩
      · have q2 := q H1 s1
        simp only [toldV, e, if_true, if_neg (show ¬ (2 : Int) = 0 by decide), if_neg (show ¬ (2 : Int) = 1 by decide)] at q2
        exact q2
    · have n0 : ¬ way = 0 := fun z => c (decide_eq_true z)
      have n1 : ¬ way = 1 := fun z => c1 (decide_eq_true z)
      have n2 : ¬ way = 2 := fun z => c2 (decide_eq_true z)
      refine ⟨x, rfl, hx, fun e H1 s1 => ?_, fun e H1 s1 => ?_⟩
      · have q2 := q H1 s1
        simp only [toldV, e, if_neg n0, if_neg n1, if_neg n2, if_neg Bool.false_ne_true] at q2
        refine ⟨true, T.exm_NotWord, fun _ b hb => ?_, fun z => nomatch z⟩
        simp only [tSeq, tIfS, tOr, tAnd, tB, tTest, tCB, tCons, tVar, tC, tNil, tNot, tNotV, tRet, tRetN, tNext, tBreak, tOrV, tAndV, tOp, tUn, rEq, rNe, tChain, rI0, rI, rU, tAsg, gName, tDrop, tAug, ipI, tIf, tCall, tCallS, tLst, tTup, tBM, tBM0, rAppend, rExtend, rPop, rReverse, tyV, rIxL, rIxT, rIxS, L2.start, List.map_cons, List.map_nil, List.length_cons, List.length_nil, List.replicate, List.cons_append, List.nil_append, List.append_nil, List.getElem?_cons_zero, List.getElem?_cons_succ, List.set_cons_zero, List.set_cons_succ, Nat.reduceAdd, Nat.reduceSub, Option.some.injEq, exists_eq_left', exists_eq_left, V.int.injEq, V.bl.injEq, V.str.injEq, V.ref.injEq, List.cons.injEq, and_true, true_and, and_assoc, reduceCtorEq, false_and, exists_false, or_false, false_or, exists_and_left, exists_const, scal, Int.reduceLT, Int.reduceLE, Int.reduceSub, Int.reduceAdd, Int.reduceNeg, if_true, if_false, rIsE]
        exact ⟨_, rfl, T.x_NotWord.e, _, fun u r => r, _, T.kit_NotWord_NotOrders, iteF ⟨_, rfl, T.x_NotWord.e, _, fun u r => r, _, T.kit_NotWord_NotWord, iteT ⟨_, rfl, T.x_NotWord.e, _, fun u r => r, _, T.kit_NotWord_NotOrders, iteT q2⟩⟩⟩
      · have q2 := q H1 s1
        simp only [toldV, e, if_neg n0, if_neg n1, if_neg n2, if_true] at q2
        exact q2

theorem Dr.same {H H' : Hp} {d : Addr} (h : Dr H d) (s : Same H H') : Dr H' d := by
  obtain ⟨ds, h1, h2⟩ := h
  exact ⟨ds, s _ _ h1, h2⟩
theorem Dr.ne {H : Hp} {d p : Addr} (h : Dr H d) (n : H p = none) : p ≠ d := fun z => by
  obtain ⟨ds, h1, _⟩ := h
  rw [← z, n] at h1
  cases h1
theorem atI_mem {cs : List V} {r : Int} (h0 : 0 ≤ r) (h1 : r < cs.length) : ∃ v, atI cs r = some v ∧ v ∈ cs := by
  obtain ⟨k, rfl⟩ := Int.eq_ofNat_of_zero_le h0
  have hk : k < cs.length := by omega
  exact ⟨cs[k], atI_nat (List.getElem?_eq_getElem hk), List.getElem_mem hk⟩
/-- an item of a written menu, drawn -/
theorem rd_menu {cs : List V} {m : Int} {d : Addr} {σ : L2.St} {H : Hp} {Q : VK} {ta : TA} {i : Nat} (hσ : σ[i]? = some (some (.ref d))) (ht : ∀ R : List V → Hp → Prop, R cs H → ta σ H R) (hm : m = cs.length) (h0 : 0 < m) (hz : cs.length ≤ sizeLine) (hd : Dr H d)
    (go : ∀ v H', v ∈ cs → Dr H' d → FK.But d H H' → Q v H') : tOp (rIxL K) (tLst ta) (tCall spPick [] E0 (tCons (tVar i) (tCons (tC (.int m)) tNil))) σ H Q := by
  refine ht _ ⟨hz, fun p hp => ⟨_, hσ, d, m, rfl, hd.same (FK.same_new hp), h0, fun r H' r0 r1 hd' hb => ?_⟩⟩
  obtain ⟨v, hv, hm2⟩ := atI_mem (cs := cs) r0 (by omega)
  have hp' : H' p = some (.lst cs) := hb p _ (hd.ne hp) upd_same
  exact ⟨p, cs, r, v, rfl, rfl, SqL.of hp', hv, go v H' hm2 hd' fun b o n e => hb b o n (FK.same_new hp b o e)⟩
/-- a sign of a written text, drawn -/
theorem rd_sign {z : Str} {m : Int} {d : Addr} {σ : L2.St} {H : Hp} {Q : VK} {i : Nat} (hσ : σ[i]? = some (some (.ref d))) (hm : m = z.cps.toList.length) (h0 : 0 < m) (hz : z.length ≤ sizeLine) (hd : Dr H d)
    (go : ∀ c H', c ∈ z.cps.toList → Dr H' d → FK.But d H H' → Q (.str ⟨#[c]⟩) H') : tOp rIxS (tC (.str z)) (tCall spPick [] E0 (tCons (tVar i) (tCons (tC (.int m)) tNil))) σ H Q := by
  refine ⟨_, hσ, d, m, rfl, hd, h0, fun r H' r0 r1 hd' hb => ?_⟩
  obtain ⟨k, rfl⟩ := Int.eq_ofNat_of_zero_le r0
  have hk : k < z.cps.toList.length := by omega
  exact ⟨z, k, z.cps.toList[k], rfl, rfl, hz, atI_nat (List.getElem?_eq_getElem hk), go _ H' (List.getElem_mem hk) hd' hb⟩
theorem Dr.at {H : Hp} {d p : Addr} {o : HO} (h : Dr H d) (n : p ≠ d) : Dr (upd H p o) d := by
  obtain ⟨ds, h1, h2⟩ := h
  exact ⟨ds, by rw [upd_ne (fun z => n z.symm)]; exact h1, h2⟩
theorem but_at {H H' : Hp} {d p : Addr} {o : HO} (n : H p = none) (h : FK.But d H H') : FK.But d H (upd H' p o) := fun b u hb e => by
  rw [upd_ne (fun z => by rw [z, n] at e; cases e)]
  exact h b u hb e
/-- a list of drawn things -/
theorem rd_drawn {n : Nat} {d : Addr} {i : Nat} {te : TE} {vs : List Nat} {σ : L2.St} {H : Hp} {Q : VK} {wi : TI} (Pz : V → Prop) (hw : ∀ R : It → Hp → Prop, R (Itr 0 n) H → wi σ H R) (hn : n < sizeLine) (hd : Dr H d) (hv : ∀ x, wipe ((wipe σ vs).set i (some x)) vs = wipe σ vs)
    (hs : ∀ x H' (R : VK), Dr H' d → (∀ v H'', Pz v → Dr H'' d → FK.But d H' H'' → R v H'') → te ((wipe σ vs).set i (some x)) H' R)
    (go : ∀ D zs H', H D = none → zs.length = n → (∀ z ∈ zs, Pz z) → Dr H' d → FK.But d H H' → H' D = some (.lst zs) → Q (.ref D) H') : tLc wi (gName i) tYes te vs σ H Q := by
  refine FK.rd_lc (J := Itr 0 n) (H1 := H) hw walk_range (fun j acc H' => (∀ z ∈ acc, Pz z) ∧ Dr H' d ∧ FK.But d H H') (fun D hD => ⟨fun z hz => (nomatch hz), hd.at (hd.ne hD), but_at hD .refl⟩) ?_ (fun _ _ _ _ _ => trivial) hn hv ?_ ?_
  · rintro D j acc y H' hD hD2 ⟨h1, h2, h3⟩
    exact ⟨h1, h2.at (hd.ne hD), but_at hD h3⟩
  · rintro D j x acc H' H'' R hD hj ha ⟨h1, h2, h3⟩ hD2 ⟨rfl, rfl⟩ fin
    refine hs _ H'' R h2 fun v H4 hv4 hd4 hb4 => ?_
    refine fin v H4 (hb4 D _ (hd.ne hD) hD2) ⟨fun z hz => ?_, hd4, h3.trans hb4⟩
    rcases List.mem_append.mp hz with hz | hz
    · exact h1 z hz
    · rw [List.mem_singleton.mp hz]
      exact hv4
  · rintro D acc H' hD ha ⟨h1, h2, h3⟩ hD2
    exact go D acc H' hD ha h1 h2 h3 hD2
theorem ints_of {p : Int → Prop} : ∀ {zs : List V}, (∀ z ∈ zs, ∃ n : Int, z = .int n ∧ p n) → ∃ ns : List Int, zs = ns.map V.int ∧ ∀ n ∈ ns, p n
  | [], _ => ⟨[], rfl, fun _ h => nomatch h⟩
  | z :: zs, h => by
    obtain ⟨n, rfl, hn⟩ := h z List.mem_cons_self
    obtain ⟨ns, rfl, hns⟩ := ints_of fun z hz => h z (List.mem_cons_of_mem _ hz)
    exact ⟨n :: ns, rfl, fun m hm => by
      rcases List.mem_cons.mp hm with rfl | hm
      · exact hn
      · exact hns m hm⟩
/-- what stays in the heap: the numbers left, the orders -/
def LB (H : Hp) (d o : Addr) (ms : List Int) : Prop := Dr H d ∧ H o = some (.tup (ms.map V.int)) ∧ o ≠ d
theorem LB.same {H H' : Hp} {d o : Addr} {ms : List Int} (h : LB H d o ms) (s : Same H H') : LB H' d o ms := ⟨h.1.same s, s _ _ h.2.1, h.2.2⟩
theorem LB.but {H H' : Hp} {d o : Addr} {ms : List Int} (h : LB H d o ms) (hd : Dr H' d) (b : FK.But d H H') : LB H' d o ms := ⟨hd, b o _ h.2.2 h.2.1, h.2.2⟩
theorem LB.sq {K : PySem.W.Frag} {H : Hp} {d o : Addr} {ms : List Int} (h : LB H d o ms) : SqT K H o (ms.map V.int) := SqT.of h.2.1
/-- the law's names and heap: the first four, then the rest -/
def ST (a d o : Addr) (c : Int) (ms : List Int) (rest : List (Option V)) (σ : L2.St) (H : Hp) : Prop := σ = some (.ref a) :: some (.ref d) :: some (.int c) :: some (.ref o) :: rest ∧ LB H d o ms
def M3 (a d : Addr) (c : Int) (σ : L2.St) (H : Hp) : Prop := ∃ (o : Addr) (ms : List Int), ST a d o c ms [none, none, none, none, none, none, none, none, none, none] σ H ∧ (ms.length : Int) = c ∧ ∀ m ∈ ms, -1 ≤ m ∧ m ≤ 13
theorem LB.at {H : Hp} {d o p : Addr} {ms : List Int} {u : HO} (h : LB H d o ms) (n1 : p ≠ d) (n2 : p ≠ o) : LB (upd H p u) d o ms := ⟨h.1.at n1, by rw [upd_ne (fun z => n2 z.symm)]; exact h.2.1, h.2.2⟩
theorem LB.ne {H : Hp} {d o p : Addr} {ms : List Int} (h : LB H d o ms) (n : H p = none) : p ≠ o := fun z => by
  rw [z, h.2.1] at n
  cases n
/-- single signs joined -/
theorem joinL_nil : ∀ ps : List (List Nat), TL.joinL [] ps = ps.flatten
  | [] => rfl
  | [p] => by simp [TL.joinL]
  | p :: q :: r => by
    show p ++ ([] ++ TL.joinL [] (q :: r)) = _
    rw [joinL_nil (q :: r)]
    simp
theorem flat_signs : ∀ cs : List Nat, (cs.map (TL.tl ∘ fun c => (⟨#[c]⟩ : Str))).flatten = cs
  | [] => rfl
  | c :: cs => by
    show [c] ++ (cs.map (TL.tl ∘ fun c => (⟨#[c]⟩ : Str))).flatten = c :: cs
    rw [flat_signs cs]
    rfl
theorem join_signs (cs : List Nat) : Txt.join "" (cs.map fun c => (⟨#[c]⟩ : Str)) = ⟨cs.toArray⟩ := by
  rw [TL.join_eq]
  have h := TL.tl_join "" (cs.map fun c => (⟨#[c]⟩ : Str))
  rw [show TL.tl ("" : Str) = [] from rfl, joinL_nil, List.map_map, flat_signs] at h
  generalize Str.join "" (cs.map fun c => (⟨#[c]⟩ : Str)) = z at h
  obtain ⟨a⟩ := z
  have h2 : a.toList = cs := h
  rw [← h2, Array.toArray_toList]
theorem signs_of {p : Nat → Prop} : ∀ {zs : List V}, (∀ z ∈ zs, ∃ c : Nat, z = .str ⟨#[c]⟩ ∧ p c) → ∃ cs : List Nat, zs = (cs.map fun c => (⟨#[c]⟩ : Str)).map V.str ∧ ∀ c ∈ cs, p c
  | [], _ => ⟨[], rfl, fun _ h => nomatch h⟩
  | z :: zs, h => by
    obtain ⟨n, rfl, hn⟩ := h z List.mem_cons_self
    obtain ⟨ns, rfl, hns⟩ := signs_of fun z hz => h z (List.mem_cons_of_mem _ hz)
    exact ⟨n :: ns, rfl, fun m hm => by
      rcases List.mem_cons.mp hm with rfl | hm
      · exact hn
      · exact hns m hm⟩
/-- a list of drawn things, its length drawn -/
theorem rd_drawn2 {d : Addr} {i : Nat} {te : TE} {vs : List Nat} {σ : L2.St} {H : Hp} {Q : VK} {wi : TI} (Pz : V → Prop) (PN : Nat → Prop) (hw : ∀ R : It → Hp → Prop, (∀ n H1, PN n → Dr H1 d → FK.But d H H1 → R (Itr 0 n) H1) → wi σ H R) (hn : ∀ n, PN n → n < sizeLine) (hv : ∀ x, wipe ((wipe σ vs).set i (some x)) vs = wipe σ vs)
    (hs : ∀ x H' (R : VK), Dr H' d → (∀ v H'', Pz v → Dr H'' d → FK.But d H' H'' → R v H'') → te ((wipe σ vs).set i (some x)) H' R)
    (go : ∀ n D zs H', PN n → zs.length = n → (∀ z ∈ zs, Pz z) → Dr H' d → FK.But d H H' → H' D = some (.lst zs) → Q (.ref D) H') : tLc wi (gName i) tYes te vs σ H Q :=
  hw _ fun n H1 pn hd hb => rd_drawn (wi := fun _ H R => R (Itr 0 n) H) (H := H1) (Q := Q) (te := te) (vs := vs) (σ := σ) (i := i) Pz (fun _ h => h) (hn n pn) hd hv hs fun D zs H' _ hl hz hd' hb' hD => go n D zs H' pn hl hz hd' (hb.trans hb') hD
theorem sum_ones : ∀ cs : List Nat, (cs.map fun _ => 1).sum = cs.length
  | [] => rfl
  | c :: cs => by
    show 1 + (cs.map fun _ => 1).sum = cs.length + 1
    rw [sum_ones cs]
    omega
theorem let_sign (c : Nat) : isLet ⟨#[c]⟩ = decide (c ∈ ("012" : Str).cps.toList) := by
  have e : ("012" : Str).cps.toList = [48, 49, 50] := by decide +kernel
  rw [e]
  have ne : ∀ k : Nat, c ≠ k → ((⟨#[k]⟩ : Str) == ⟨#[c]⟩) = false := fun k h => by
    refine beq_eq_false_iff_ne.mpr fun z => h ?_
    have z2 : (#[k] : Array Nat) = #[c] := congrArg Str.cps z
    simpa using z2.symm
  by_cases h0 : c = 48
  · subst h0; decide +kernel
  by_cases h1 : c = 49
  · subst h1; decide +kernel
  by_cases h2 : c = 50
  · subst h2; decide +kernel
  rw [decide_eq_false (by simp only [List.mem_cons, List.not_mem_nil, or_false]; omega)]
  show ((("0" : Str) == ⟨#[c]⟩) || ((("1" : Str) == ⟨#[c]⟩) || ((("2" : Str) == ⟨#[c]⟩) || false))) = false
  rw [show ("0" : Str) = ⟨#[48]⟩ from rfl, show ("1" : Str) = ⟨#[49]⟩ from rfl, show ("2" : Str) = ⟨#[50]⟩ from rfl, ne 48 h0, ne 49 h1, ne 50 h2]
  rfl

end
end K00

namespace K00
open PySem PySem.Spec PyProof.Rows L2
section
variable {P : Program} {w : World} {K : PySem.W.Frag} {mg : Str → Option Value} {base : Heap} {cx : Xs}
def oneMenu : List Str := ["0", "1", "2", "0", "1", "2", "", "3", "01"]
def otherMenu : List Str := ["0", "1", "2", "0", "1", "2", "", "x", "22"]
def pd : V → PyData
  | .str x => .str x
  | .int i => .int i
  | _ => .none
def z0s : List V := [.non, .str "orders"]
def z1s : List V := .str "orders" :: .str "word" :: okList.map V.int
def z2s : List V := [.str "orders", .str "round", .str "flat", .str "wide"]
theorem shown_ok : ∀ z0 ∈ z0s, ∀ z1 ∈ z1s, ∀ z2 ∈ z2s, (PyData.list [pd z0, pd z1, pd z2]).shown.length ≤ sizeLine ∧ (PyData.list [pd z0, pd z1, pd z2]).showable = true ∧ (PyData.list [pd z0, pd z1, pd z2]).hasDict = false ∧ (PyData.list [pd z0, pd z1, pd z2]).depth < 40 := by decide +kernel
theorem dp_pd {K : PySem.W.Frag} {H : Hp} {z : V} (h : z = .non ∨ (∃ x, z = .str x) ∨ ∃ i, z = .int i) : Dp K H z (pd z) := by
  rcases h with rfl | ⟨x, rfl⟩ | ⟨i, rfl⟩
  · exact .non
  · exact .str x
  · exact .int i
theorem betw_mem {m0 m1 m2 : Int} (h0 : m0 ∈ okList) (h1 : m1 ∈ okList) (h2 : m2 ∈ okList) (x y : Str) : betw m0 m1 m2 x y ∈ okList := by
  unfold betw
  split
  · exact h0
  · split
    · exact h1
    · split
      · exact h2
      · decide
def keyList : List Str := ["01", "10", "12", "21", "02", "20"]
def keyKvs : List (Key × V) := [(.inr "01", .int 0), (.inr "10", .int 0), (.inr "12", .int 1), (.inr "21", .int 1), (.inr "02", .int 2), (.inr "20", .int 2)]
def keyDict : List (Key × V) := mergeK [] keyKvs
def condB (x y : Str) : Bool := inV (.str (x ++ y)) (keyList.map V.str) && decide ((x.length : Int) = 1)
theorem keys_ok : ∀ x ∈ oneMenu, ∀ y ∈ otherMenu, (condB x y = true → twoLet x y = true ∧ ((valV keyDict (.inr (x ++ y)) = some (.int 0) ∧ inP x y "0" "1" = true) ∨ (valV keyDict (.inr (x ++ y)) = some (.int 1) ∧ inP x y "0" "1" = false ∧ inP x y "1" "2" = true) ∨
    (valV keyDict (.inr (x ++ y)) = some (.int 2) ∧ inP x y "0" "1" = false ∧ inP x y "1" "2" = false ∧ inP x y "0" "2" = true))) ∧ (condB x y = false → twoLet x y = false) := by
  intro x hx y hy
  simp only [oneMenu, List.mem_cons, List.not_mem_nil, or_false] at hx
  simp only [otherMenu, List.mem_cons, List.not_mem_nil, or_false] at hy
  rcases hx with rfl | rfl | rfl | rfl | rfl | rfl | rfl | rfl | rfl <;> rcases hy with rfl | rfl | rfl | rfl | rfl | rfl | rfl | rfl | rfl <;>
    first
      | exact ⟨fun _ => ⟨by decide +kernel, .inl ⟨rfl, by decide +kernel⟩⟩, fun z => absurd z (by decide +kernel)⟩
      | exact ⟨fun _ => ⟨by decide +kernel, .inr (.inl ⟨rfl, by decide +kernel, by decide +kernel⟩)⟩, fun z => absurd z (by decide +kernel)⟩
      | exact ⟨fun _ => ⟨by decide +kernel, .inr (.inr ⟨rfl, by decide +kernel, by decide +kernel, by decide +kernel⟩)⟩, fun z => absurd z (by decide +kernel)⟩
      | exact ⟨fun z => absurd z (by decide +kernel), fun _ => by decide +kernel⟩
/-- what is due -/
def dueL (ms : List Int) (x y : Str) : List V := [toldV 0 ms x y, toldV 1 ms x y, toldV 2 ms x y]
theorem due_three (ms : List Int) (x y : Str) : ∃ z0 z1 z2, z0 ∈ z0s ∧ z1 ∈ z1s ∧ z2 ∈ z2s ∧ dueL ms x y = [z0, z1, z2] := by
  refine ⟨_, _, _, ?_, ?_, ?_, rfl⟩
  · unfold toldV
    rw [if_pos rfl]
    split <;> decide
  · unfold toldV
    rw [if_neg (by decide), if_pos rfl]
    split
    · rename_i e
      obtain ⟨m0, m1, m2, rfl⟩ := len3 e
      have hmem : ∀ n ∈ [m0, m1, m2], n ∈ okList := fun n hn => by
        unfold okOrders at e
        rw [Bool.and_eq_true] at e
        exact okOrder_mem (List.all_eq_true.mp e.2 n hn)
      split
      · exact List.mem_cons_of_mem _ (List.mem_cons_of_mem _ (List.mem_map_of_mem (betw_mem (hmem m0 (by simp)) (hmem m1 (by simp)) (hmem m2 (by simp)) x y)))
      · decide
    · decide
  · unfold toldV
    rw [if_neg (by decide), if_neg (by decide), if_pos rfl]
    split
    · unfold kindOf
      split
      · decide
      · split <;> decide
    · decide
theorem ok_law (T : Txt K mg cx) {fa : Addr} {s : Shared} {H : Hp} {a : Addr} {ns : List Int} (g : mg "law" = some (.ref fa)) (hr1 : Room 7 callerA) (e0 : Env0 P w K mg base callerA [] s H) (sq : SqL K H a (ns.map V.int)) (hl : ns.length ≤ 63) :
    codeAny (model P w) callerA (.call (.ref fa) ⟨[.ref a], []⟩) (CR CX0 [] P w H s (fun v _ => v = .bl true) E0) s := by
  have H_law_draws := ok_law_draws (P := P) (w := w) (base := base) T
  have H_law_pick := ok_law_pick (P := P) (w := w) (base := base) T
  have H_is_orders := ok_is_orders (P := P) (w := w) (base := base) T
  have H_law_kind := ok_law_kind (P := P) (w := w) (base := base) T
  have H_law_told := ok_law_told (P := P) (w := w) (base := base) T
  refine T.d_law.run (vs := [.ref a]) g sc_law hr1 e0 (.cons rfl .nil) rfl fun cdv hr hG => ?_
  refine ⟨_, (C8.pss_cut (ps_set (i := 1) sc_law.nd rfl (Or.inr rfl) (by exact (FK.pe_h (E := E0) H_law_draws (hr.mono (by decide)) pass0 (pa_cons (pv 0) pa_nil))))
  (C8.pss_cut (ps_set (i := 2) sc_law.nd rfl (Or.inl rfl) (by exact (pe_ix (r := rIxL K) ix_list (pe_lst (pa_cons pe_int (pa_cons pe_int (pa_cons pe_int (pa_cons pe_int (pa_cons pe_int (pa_cons pe_int (pa_cons pe_int (pa_cons pe_int pa_nil))))))))) (FK.pe_h (E := E0) H_law_pick (hr.mono (by decide)) pass0 (pa_cons (pv 1) (pa_cons pe_int pa_nil))) (fun _ _ => rfl))))
  (C8.pss_cut (ps_set (i := 3) sc_law.nd rfl (Or.inr rfl) (by exact (pe_callTy call_tuple_of (by rfl) T.n_tuple (by decide +kernel) (pa_cons (pe_lc (own := [("k", 11)]) (g := gName 11) (tt := tYes) rfl sc_law.nd (pi_range1 rfl T.n_range (pa_cons (pv 2) pa_nil)) (blkOk_by (own := [("k", 11)]) (N := ["script", "draws", "count", "orders", "good", "order", "one", "other", "due", "word", "at", "k", "way", "letter"]) (sc := defScope s_law) (by decide +kernel)) (fun _ _ _ _ _ => (pg_name (i := 11) sc_law.nd rfl (Or.inl rfl))) (fun _ _ _ _ _ => pts_nil) (fun _ _ _ _ _ => (pe_op op_sub (FK.pe_h (E := E0) H_law_pick (hr.mono (by decide)) pass0 (pa_cons (pv 1) (pa_cons pe_int pa_nil))) pe_int))) pa_nil))))
  (C8.pss_cut (ps_if (pt_cmpR op_eq (FK.pe_h (E := E0) H_law_pick (hr.mono (by decide)) pass0 (pa_cons (pv 1) (pa_cons pe_int pa_nil))) pe_int (nomark _)) (pss_one (ps_set (i := 3) sc_law.nd rfl (Or.inr rfl) (by exact (pe_callTy call_tuple_of (by rfl) T.n_tuple (by decide +kernel) (pa_cons (pe_lc (own := [("k", 11)]) (g := gName 11) (tt := tYes) rfl sc_law.nd (pi_range1 rfl T.n_range (pa_cons (pv 2) pa_nil)) (blkOk_by (own := [("k", 11)]) (N := ["script", "draws", "count", "orders", "good", "order", "one", "other", "due", "word", "at", "k", "way", "letter"]) (sc := defScope s_law) (by decide +kernel)) (fun _ _ _ _ _ => (pg_name (i := 11) sc_law.nd rfl (Or.inl rfl))) (fun _ _ _ _ _ => pts_nil) (fun _ _ _ _ _ => (pe_ix (r := rIxL K) ix_list (pe_lst (pa_cons pe_int (pa_cons pe_int (pa_cons pe_int (pa_cons pe_int (pa_cons pe_int (pa_cons pe_int pa_nil))))))) (FK.pe_h (E := E0) H_law_pick (hr.mono (by decide)) pass0 (pa_cons (pv 1) (pa_cons pe_int pa_nil))) (fun _ _ => rfl)))) pa_nil))))) pss_nil)
  (C8.pss_cut (ps_set (i := 4) sc_law.nd rfl (Or.inl rfl) (by exact (pe_cmpR op_eq (pv 2) pe_int (nomark _))))
  (C8.pss_cut (ps_for PassesOwn.never rfl (pi_tup (pv 3)) (pg_name (i := 5) sc_law.nd rfl (Or.inl rfl))
  (pss_one (ps_set (i := 4) sc_law.nd rfl (Or.inl rfl) (by exact (pe_and (pv 4) (pe_one (pe_or (pe_cmpR op_eq (pv 5) pe_int (nomark _)) (pe_one (pe_chain op_le op_le pe_int (pv 5) pe_int)))))))))
  (C8.pss_cut (ps_if (PW.pt (pw_or (pt_not (pt_val (pe_callB call_isi (by rfl) T.n_isinstance (by decide +kernel) (pa_cons (FK.pe_h (E := E0) H_is_orders (hr.mono (by decide)) pass0 (pa_cons (pv 3) pa_nil)) (pa_cons (pe_bltn (v := .ty "bool") (by rfl) T.n_bool (by decide +kernel) rfl) pa_nil))))) (pw_or1 (pt_cmpR op_ne (FK.pe_h (E := E0) H_is_orders (hr.mono (by decide)) pass0 (pa_cons (pv 3) pa_nil)) (pv 4) (nomark _))))) (pss_one (ps_ret pe_bl)) pss_nil)
  (C8.pss_cut (ps_set (i := 6) sc_law.nd rfl (Or.inr rfl) (by exact (pe_ix (r := rIxL K) ix_list (pe_lst (pa_cons pe_str (pa_cons pe_str (pa_cons pe_str (pa_cons pe_str (pa_cons pe_str (pa_cons pe_str (pa_cons pe_str (pa_cons pe_str (pa_cons pe_str pa_nil)))))))))) (FK.pe_h (E := E0) H_law_pick (hr.mono (by decide)) pass0 (pa_cons (pv 1) (pa_cons pe_int pa_nil))) (fun _ _ => rfl))))
  (C8.pss_cut (ps_set (i := 7) sc_law.nd rfl (Or.inr rfl) (by exact (pe_ix (r := rIxL K) ix_list (pe_lst (pa_cons pe_str (pa_cons pe_str (pa_cons pe_str (pa_cons pe_str (pa_cons pe_str (pa_cons pe_str (pa_cons pe_str (pa_cons pe_str (pa_cons pe_str pa_nil)))))))))) (FK.pe_h (E := E0) H_law_pick (hr.mono (by decide)) pass0 (pa_cons (pv 1) (pa_cons pe_int pa_nil))) (fun _ _ => rfl))))
  (C8.pss_cut (ps_set (i := 8) sc_law.nd rfl (Or.inl rfl) (by exact (pe_lst (pa_cons pe_str (pa_cons pe_str (pa_cons pe_str pa_nil))))))
  (C8.pss_cut (ps_if (pt_val (pv 4)) (pss_cons (ps_set (i := 8) sc_law.nd rfl (Or.inl rfl) (by exact (pe_lst (pa_cons pe_non (pa_cons pe_str (pa_cons (FK.pe_h (E := E0) H_law_kind (hr.mono (by decide)) pass0 (pa_cons (pv 3) pa_nil)) pa_nil))))))
  (pss_one (ps_if (PW.pt (pw_and (pt_cmpR op_in_seq (pe_op op_add_str (pv 6) (pv 7)) (pe_lst (pa_cons pe_str (pa_cons pe_str (pa_cons pe_str (pa_cons pe_str (pa_cons pe_str (pa_cons pe_str pa_nil))))))) (by rfl)) (pw_and1 (pt_cmpR op_eq (pe_callB call_len_str (by rfl) T.n_len PySem.boot_len (pa_cons (pv 6) pa_nil)) pe_int (nomark _))))) (pss_one (ps_asg (pe_ix (r := rIxT K) ix_tup (pv 3) (pe_dget (hu_of hr) (pe_disp (pps_cons pe_str pe_int (pps_cons pe_str pe_int (pps_cons pe_str pe_int (pps_cons pe_str pe_int (pps_cons pe_str pe_int (pps_cons pe_str pe_int pps_nil)))))) (by rfl) (by rfl) (fun z => by cases z) (by decide)) (pe_op op_add_str (pv 6) (pv 7)) (fun _ _ => rfl)) (fun _ _ => rfl)) (pg_sub (pv 8) pe_int set_list))) pss_nil))) pss_nil)
  (C8.pss_cut (ps_if (pt_cmpR op_ne (pe_callB (FK.call_repr hG hr) (by rfl) T.n_repr (by decide +kernel) (pa_cons (pe_lc (own := [("way", 12)]) (g := gName 12) (tt := tYes) rfl sc_law.nd (pi_range1 rfl T.n_range (pa_cons pe_int pa_nil)) (blkOk_by (own := [("way", 12)]) (N := ["script", "draws", "count", "orders", "good", "order", "one", "other", "due", "word", "at", "k", "way", "letter"]) (sc := defScope s_law) (by decide +kernel)) (fun _ _ _ _ _ => (pg_name (i := 12) sc_law.nd rfl (Or.inl rfl))) (fun _ _ _ _ _ => pts_nil) (fun _ _ _ _ _ => (FK.pe_h (E := E0) H_law_told (hr.mono (by decide)) pass0 (pa_cons (pv 12) (pa_cons (pv 3) (pa_cons (pv 6) (pa_cons (pv 7) pa_nil))))))) pa_nil)) (pe_callB (FK.call_repr hG hr) (by rfl) T.n_repr (by decide +kernel) (pa_cons (pv 8) pa_nil)) (nomark _)) (pss_one (ps_ret pe_bl)) pss_nil)
  (C8.pss_cut (ps_set (i := 9) sc_law.nd rfl (Or.inl rfl) (by exact (pe_join pe_str (pe_lc (own := [("k", 11)]) (g := gName 11) (tt := tYes) rfl sc_law.nd (pi_range1 rfl T.n_range (pa_cons (FK.pe_h (E := E0) H_law_pick (hr.mono (by decide)) pass0 (pa_cons (pv 1) (pa_cons pe_int pa_nil))) pa_nil)) (blkOk_by (own := [("k", 11)]) (N := ["script", "draws", "count", "orders", "good", "order", "one", "other", "due", "word", "at", "k", "way", "letter"]) (sc := defScope s_law) (by decide +kernel)) (fun _ _ _ _ _ => (pg_name (i := 11) sc_law.nd rfl (Or.inl rfl))) (fun _ _ _ _ _ => pts_nil) (fun _ _ _ _ _ => (pe_ix ix_str pe_str (FK.pe_h (E := E0) H_law_pick (hr.mono (by decide)) pass0 (pa_cons (pv 1) (pa_cons pe_int pa_nil))) (fun _ _ => rfl)))))))
  (C8.pss_cut (ps_if (pt_cmpR op_eq (FK.pe_h (E := E0) H_law_pick (hr.mono (by decide)) pass0 (pa_cons (pv 1) (pa_cons pe_int pa_nil))) pe_int (nomark _)) (pss_cons (ps_set (i := 10) sc_law.nd rfl (Or.inl rfl) (by exact (FK.pe_h (E := E0) H_law_pick (hr.mono (by decide)) pass0 (pa_cons (pv 1) (pa_cons (pe_op op_add (pe_callB call_len_str (by rfl) T.n_len PySem.boot_len (pa_cons (pv 9) pa_nil)) pe_int) pa_nil)))))
  (pss_one (ps_set (i := 9) sc_law.nd rfl (Or.inl rfl) (by exact (pe_op op_add_str (pe_op op_add_str (pe_slice sl_str (pv 9) po_none (po_some (pv 10))) (pe_ix (r := rIxL K) ix_list (pe_lst (pa_cons pe_str (pa_cons pe_str (pa_cons pe_str (pa_cons pe_str pa_nil))))) (FK.pe_h (E := E0) H_law_pick (hr.mono (by decide)) pass0 (pa_cons (pv 1) (pa_cons pe_int pa_nil))) (fun _ _ => rfl))) (pe_slice sl_str (pv 9) (po_some (pv 10)) po_none)))))) pss_nil)
  (C8.pss_cut (ps_set (i := 8) sc_law.nd rfl (Or.inl rfl) (by exact pe_non))
  (C8.pss_cut (ps_if (PW.pt (pw_or (pt_cmpR op_gt (pe_callB call_len_str (by rfl) T.n_len PySem.boot_len (pa_cons (pv 9) pa_nil)) pe_int (nomark _)) (pw_or1 (pt_not (pt_val (pe_callB (cr_all rfl) (by rfl) T.n_all (by decide +kernel) (pa_cons (pe_lc (own := [("letter", 13)]) (g := gName 13) (tt := tYes) rfl sc_law.nd (pi_str (pv 9)) (blkOk_by (own := [("letter", 13)]) (N := ["script", "draws", "count", "orders", "good", "order", "one", "other", "due", "word", "at", "k", "way", "letter"]) (sc := defScope s_law) (by decide +kernel)) (fun _ _ _ _ _ => (pg_name (i := 13) sc_law.nd rfl (Or.inl rfl))) (fun _ _ _ _ _ => pts_nil) (fun _ _ _ _ _ => (pe_cmpR op_in_sign (pv 13) pe_str (by rfl)))) pa_nil))))))) (pss_one (ps_set (i := 8) sc_law.nd rfl (Or.inl rfl) (by exact pe_str))) pss_nil)
  (pss_one (ps_ret (pe_cmpR op_eq (pe_callB (FK.call_repr hG hr) (by rfl) T.n_repr (by decide +kernel) (pa_cons (FK.pe_h (E := E0) H_law_told (hr.mono (by decide)) pass0 (pa_cons pe_int (pa_cons (pv 3) (pa_cons (pv 9) (pa_cons pe_str pa_nil))))) pa_nil)) (pe_callB (FK.call_repr hG hr) (by rfl) T.n_repr (by decide +kernel) (pa_cons (pv 8) pa_nil)) (nomark _)))))))))))))))))))), ?_⟩
  -- draws
  refine ⟨fun σ H => ∃ d : Addr, σ = [some (.ref a), some (.ref d), none, none, none, none, none, none, none, none, none, none, none, none] ∧ Dr H d, ?_, ?_⟩
  · exact ⟨_, rfl, a, ns, rfl, sq, hl, fun d H' hd hD hs => ⟨d, rfl, hD⟩⟩
  rintro σ H1 ⟨d, rfl, hD⟩
  -- count
  refine ⟨fun σ H => ∃ c : Int, (c = 2 ∨ c = 3 ∨ c = 4) ∧ σ = [some (.ref a), some (.ref d), some (.int c), none, none, none, none, none, none, none, none, none, none, none] ∧ Dr H d, ?_, ?_⟩
  · refine rd_menu (K := K) (cs := [.int 3, .int 3, .int 3, .int 3, .int 3, .int 2, .int 4, .int 3]) (m := 8) (i := 1) rfl (fun R h => h) rfl (by decide) (by decide) hD (fun v H' hv hd' hb => ?_)
    have : ∃ c : Int, (c = 2 ∨ c = 3 ∨ c = 4) ∧ v = .int c := by
      simp only [List.mem_cons, List.not_mem_nil, or_false] at hv
      rcases hv with rfl | rfl | rfl | rfl | rfl | rfl | rfl | rfl
      all_goals exact ⟨_, by decide, rfl⟩
    obtain ⟨c, hc, rfl⟩ := this
    exact ⟨c, hc, rfl, hd'⟩
  rintro σ H2 ⟨c, hc, rfl, hD2⟩
  -- orders, drawn freely
  refine ⟨M3 a d c, ?_, ?_⟩
  · simp only [tSeq, tIfS, tOr, tAnd, tB, tTest, tCB, tCons, tVar, tC, tNil, tNot, tNotV, tRet, tRetN, tNext, tBreak, tOrV, tAndV, tOp, tUn, rEq, rNe, tChain, rI0, rI, rU, tAsg, gName, tDrop, tAug, ipI, tIf, tCall, tCallS, tLst, tTup, tBM, tBM0, rAppend, rExtend, rPop, rReverse, tyV, rIxL, rIxT, rIxS, L2.start, List.map_cons, List.map_nil, List.length_cons, List.length_nil, List.replicate, List.cons_append, List.nil_append, List.append_nil, List.getElem?_cons_zero, List.getElem?_cons_succ, List.set_cons_zero, List.set_cons_succ, Nat.reduceAdd, Nat.reduceSub, Option.some.injEq, exists_eq_left', exists_eq_left, V.int.injEq, V.bl.injEq, V.str.injEq, V.ref.injEq, List.cons.injEq, and_true, true_and, and_assoc, reduceCtorEq, false_and, exists_false, or_false, false_or, exists_and_left, exists_const, scal, Int.reduceLT, Int.reduceLE, Int.reduceSub, Int.reduceAdd, Int.reduceNeg, if_true, if_false]
    refine rd_drawn (n := c.toNat) (d := d) (fun v => ∃ m : Int, v = .int m ∧ (-1 ≤ m ∧ m ≤ 13)) (fun R r => ⟨_, rfl, c, rfl, by omega, by omega, r⟩) (by show c.toNat < 16777216; omega) hD2 (fun _ => rfl) ?_ ?_
    · intro x H' R hd' go
      refine ⟨_, rfl, d, 15, rfl, hd', by decide, fun r H'' r0 r1 hd'' hb => ?_⟩
      exact ⟨r, 1, rfl, rfl, go _ H'' ⟨r - 1, rfl, by omega, by omega⟩ hd'' hb⟩
    · intro D zs H' hD' hzl hz hd' hb hDz
      obtain ⟨ms, rfl, hms⟩ := ints_of hz
      rw [List.length_map] at hzl
      exact ⟨D, rfl, _, .inl ⟨SqL.of hDz, fun o ho => ⟨o, ms, ⟨rfl, hd'.at (hd'.ne ho), upd_same, hd'.ne ho⟩, by omega, hms⟩⟩⟩
  rintro σ H3 ⟨o, ms, ⟨rfl, L3⟩, hml, hms⟩
  -- or from the list of small ones
  refine ⟨M3 a d c, ?_, ?_⟩
  · refine ⟨_, rfl, d, 2, rfl, L3.1, by decide, fun r H' r0 r1 hd' hb => ⟨rfl, _, rfl, ?_⟩⟩
    refine ite2 (fun _ => ?_) (fun _ => ⟨o, ms, ⟨rfl, L3.but hd' hb⟩, hml, hms⟩)
    simp only [tSeq, tIfS, tOr, tAnd, tB, tTest, tCB, tCons, tVar, tC, tNil, tNot, tNotV, tRet, tRetN, tNext, tBreak, tOrV, tAndV, tOp, tUn, rEq, rNe, tChain, rI0, rI, rU, tAsg, gName, tDrop, tAug, ipI, tIf, tCall, tCallS, tLst, tTup, tBM, tBM0, rAppend, rExtend, rPop, rReverse, tyV, rIxL, rIxT, rIxS, L2.start, List.map_cons, List.map_nil, List.length_cons, List.length_nil, List.replicate, List.cons_append, List.nil_append, List.append_nil, List.getElem?_cons_zero, List.getElem?_cons_succ, List.set_cons_zero, List.set_cons_succ, Nat.reduceAdd, Nat.reduceSub, Option.some.injEq, exists_eq_left', exists_eq_left, V.int.injEq, V.bl.injEq, V.str.injEq, V.ref.injEq, List.cons.injEq, and_true, true_and, and_assoc, reduceCtorEq, false_and, exists_false, or_false, false_or, exists_and_left, exists_const, scal, Int.reduceLT, Int.reduceLE, Int.reduceSub, Int.reduceAdd, Int.reduceNeg, if_true, if_false]
    refine rd_drawn (n := c.toNat) (d := d) (fun v => ∃ m : Int, v = .int m ∧ (-1 ≤ m ∧ m ≤ 13)) (fun R r => ⟨_, rfl, c, rfl, by omega, by omega, r⟩) (by show c.toNat < 16777216; omega) hd' (fun _ => rfl) ?_ ?_
    · intro x H4 R hd4 go
      refine rd_menu (K := K) (cs := [.int 0, .int 2, .int 3, .int 4, .int 6, .int 12]) (m := 6) (i := 1) rfl (fun R h => h) rfl (by decide) (by decide) hd4 (fun v H'' hv hd'' hb => go v H'' ?_ hd'' hb)
      simp only [List.mem_cons, List.not_mem_nil, or_false] at hv
      rcases hv with rfl | rfl | rfl | rfl | rfl | rfl
      all_goals exact ⟨_, rfl, by decide⟩
    · intro D zs H4 hD' hzl hz hd4 hb4 hDz
      obtain ⟨ms, rfl, hms⟩ := ints_of hz
      rw [List.length_map] at hzl
      exact ⟨D, rfl, _, .inl ⟨SqL.of hDz, fun o ho => ⟨o, ms, ⟨rfl, hd4.at (hd4.ne ho), upd_same, hd4.ne ho⟩, by omega, hms⟩⟩⟩
  clear hml hms L3 ms o
  rintro σ H4 ⟨o, ms, ⟨rfl, L4⟩, hml, hms⟩
  -- good
  refine ⟨ST a d o c ms [some (.bl (decide (c = 3))), none, none, none, none, none, none, none, none, none], ?_, ?_⟩
  · refine ⟨_, rfl, rfl, ?_, L4⟩
    rw [show (decide (V.int c = V.int 3)) = decide (c = 3) from by simp]
    rfl
  rintro σ H5 ⟨rfl, L5⟩
  -- good, order by order
  refine ⟨fun σ H => ∃ v5 : Option V, ST a d o c ms [some (.bl (okOrders ms)), v5, none, none, none, none, none, none, none, none] σ H, ?_, ?_⟩
  · refine FK.rd_for (J := Itt K o) (H1 := H5) (fun R r => ⟨_, rfl, o, rfl, ⟨_, L5.sq⟩, r⟩) (walk_tup (xs := ms.map V.int))
      (fun i σ H => ∃ v5 : Option V, ST a d o c ms [some (.bl (decide (c = 3) && (ms.take i).all okOrder)), v5, none, none, none, none, none, none, none, none] σ H)
      ⟨none, by rw [List.take_zero, List.all_nil, Bool.and_true], L5⟩ (fun i σ H _ ⟨_, _, L⟩ => L.sq) ?_ ?_
    · rintro i x σ H H' hi ⟨v5, rfl, L⟩ ⟨rfl, hx⟩
      rw [List.getElem?_map] at hx
      cases em : ms[i]? with
      | none => rw [em] at hx; cases hx
      | some m =>
        rw [em] at hx
        cases hx
        have et : (ms.take (i + 1)).all okOrder = ((ms.take i).all okOrder && okOrder m) := by
          rw [List.take_add_one, em, List.all_append]
          simp
        simp only [tSeq, tIfS, tOr, tAnd, tB, tTest, tCB, tCons, tVar, tC, tNil, tNot, tNotV, tRet, tRetN, tNext, tBreak, tOrV, tAndV, tOp, tUn, rEq, rNe, tChain, rI0, rI, rU, tAsg, gName, tDrop, tAug, ipI, tIf, tCall, tCallS, tLst, tTup, tBM, tBM0, rAppend, rExtend, rPop, rReverse, tyV, rIxL, rIxT, rIxS, L2.start, List.map_cons, List.map_nil, List.length_cons, List.length_nil, List.replicate, List.cons_append, List.nil_append, List.append_nil, List.getElem?_cons_zero, List.getElem?_cons_succ, List.set_cons_zero, List.set_cons_succ, Nat.reduceAdd, Nat.reduceSub, Option.some.injEq, exists_eq_left', exists_eq_left, V.int.injEq, V.bl.injEq, V.str.injEq, V.ref.injEq, List.cons.injEq, and_true, true_and, and_assoc, reduceCtorEq, false_and, exists_false, or_false, false_or, exists_and_left, exists_const, scal, Int.reduceLT, Int.reduceLE, Int.reduceSub, Int.reduceAdd, Int.reduceNeg, if_true, if_false]
        rw [et]
        cases e1 : (decide (c = 3) && (ms.take i).all okOrder) with
        | false =>
          refine iteF ⟨some (.int m), ?_, L⟩
          rw [← Bool.and_assoc, e1, Bool.false_and]
        | true =>
          refine iteT ?_
          rw [← Bool.and_assoc, e1, Bool.true_and]
          unfold okOrder
          refine ite2 (fun c1 => ⟨some (.int m), ?_, L⟩) (fun c1 => ite2 (fun c2 => ⟨some (.int m), ?_, L⟩) (fun c2 => ⟨some (.int m), ?_, L⟩))
          · rw [c1, Bool.true_or]
          · rw [eq_false_of_ne_true c1, c2, Bool.false_or, Bool.true_and]
          · rw [eq_false_of_ne_true c1, eq_false_of_ne_true c2, Bool.false_or, Bool.false_and]
    · rintro σ H ⟨v5, rfl, L⟩
      rw [List.length_map, List.take_length]
      refine ⟨v5, ?_, L⟩
      unfold okOrders
      have e3 : decide (c = 3) = decide (ms.length = 3) := by
        by_cases z : c = 3
        · rw [decide_eq_true z, decide_eq_true (by omega)]
        · rw [decide_eq_false z, decide_eq_false (by omega)]
      rw [e3]
  rintro σ H6 ⟨v5, rfl, L6⟩
  -- if not isinstance(..) or ..
  refine ⟨ST a d o c ms [some (.bl (okOrders ms)), v5, none, none, none, none, none, none, none, none], ?_, ?_⟩
  · simp only [tSeq, tIfS, tOr, tAnd, tB, tTest, tCB, tCons, tVar, tC, tNil, tNot, tNotV, tRet, tRetN, tNext, tBreak, tOrV, tAndV, tOp, tUn, rEq, rNe, tChain, rI0, rI, rU, tAsg, gName, tDrop, tAug, ipI, tIf, tCall, tCallS, tLst, tTup, tBM, tBM0, rAppend, rExtend, rPop, rReverse, tyV, rIxL, rIxT, rIxS, L2.start, List.map_cons, List.map_nil, List.length_cons, List.length_nil, List.replicate, List.cons_append, List.nil_append, List.append_nil, List.getElem?_cons_zero, List.getElem?_cons_succ, List.set_cons_zero, List.set_cons_succ, Nat.reduceAdd, Nat.reduceSub, Option.some.injEq, exists_eq_left', exists_eq_left, V.int.injEq, V.bl.injEq, V.str.injEq, V.ref.injEq, List.cons.injEq, and_true, true_and, and_assoc, reduceCtorEq, false_and, exists_false, or_false, false_or, exists_and_left, exists_const, scal, Int.reduceLT, Int.reduceLE, Int.reduceSub, Int.reduceAdd, Int.reduceNeg, if_true, if_false]
    refine ⟨o, ms, rfl, L6.sq, fun H7 s7 => ⟨_, _, _, _, true, rfl, .ty "bool", .base (.bl _), kit_ty (by decide +kernel), _, rfl, iteF ⟨o, ms, rfl, (L6.same s7).sq, fun H8 s8 => ?_⟩⟩⟩
    exact ⟨rfl, iteNS rfl ⟨rfl, L6.same (s7.trans s8)⟩⟩
  rintro σ H7 ⟨rfl, L7⟩
  -- one, other
  refine ⟨fun σ H => ∃ x : Str, x ∈ oneMenu ∧ ST a d o c ms [some (.bl (okOrders ms)), v5, some (.str x), none, none, none, none, none, none, none] σ H, ?_, ?_⟩
  · refine rd_menu (K := K) (cs := oneMenu.map V.str) (m := 9) (i := 1) rfl (fun R h => h) rfl (by decide) (by decide) L7.1 (fun v H' hv hd' hb => ?_)
    obtain ⟨x, hx, rfl⟩ := List.mem_map.mp hv
    exact ⟨x, hx, rfl, L7.but hd' hb⟩
  rintro σ H8 ⟨x, hx, rfl, L8⟩
  refine ⟨fun σ H => ∃ y : Str, y ∈ otherMenu ∧ ST a d o c ms [some (.bl (okOrders ms)), v5, some (.str x), some (.str y), none, none, none, none, none, none] σ H, ?_, ?_⟩
  · refine rd_menu (K := K) (cs := otherMenu.map V.str) (m := 9) (i := 1) rfl (fun R h => h) rfl (by decide) (by decide) L8.1 (fun v H' hv hd' hb => ?_)
    obtain ⟨y, hy, rfl⟩ := List.mem_map.mp hv
    exact ⟨y, hy, rfl, L8.but hd' hb⟩
  rintro σ H9 ⟨y, hy, rfl, L9⟩
  -- due
  refine ⟨fun σ H => ∃ u : Addr, (ST a d o c ms [some (.bl (okOrders ms)), v5, some (.str x), some (.str y), some (.ref u), none, none, none, none, none] σ H ∧ u ≠ d ∧ u ≠ o) ∧ H u = some (.lst [.str "orders", .str "orders", .str "orders"]), ?_, ?_⟩
  · refine ⟨by decide, fun u hu => ⟨u, ⟨⟨rfl, L9.same (FK.same_new hu)⟩, L9.1.ne hu, fun z => ?_⟩, upd_same⟩⟩
    rw [z, L9.2.1] at hu
    cases hu
  rintro σ H10 ⟨u, ⟨⟨rfl, L10⟩, hud, huo⟩, hu⟩
  refine ⟨fun σ H => ∃ u : Addr, (ST a d o c ms [some (.bl (okOrders ms)), v5, some (.str x), some (.str y), some (.ref u), none, none, none, none, none] σ H ∧ u ≠ d ∧ u ≠ o) ∧ H u = some (.lst (dueL ms x y)), ?_, ?_⟩
  · refine ⟨_, rfl, _, rfl, ?_⟩
    cases eO : okOrders ms with
    | false =>
      refine iteF ⟨u, ⟨⟨rfl, L10⟩, hud, huo⟩, ?_⟩
      rw [hu]
      simp only [dueL, toldV, eO, if_true, if_neg Bool.false_ne_true]
      rfl
    | true =>
      refine iteT ?_
      obtain ⟨m0, m1, m2, rfl⟩ := len3 eO
      have hb : ∀ n ∈ [m0, m1, m2], 0 ≤ n ∧ n ≤ 12 := fun n hn => by
        have eO2 := eO
        unfold okOrders at eO2
        rw [Bool.and_eq_true] at eO2
        exact okOrder_bound (List.all_eq_true.mp eO2.2 n hn)
      have hmem : ∀ n ∈ [m0, m1, m2], n ∈ okList := fun n hn => by
        have eO2 := eO
        unfold okOrders at eO2
        rw [Bool.and_eq_true] at eO2
        exact okOrder_mem (List.all_eq_true.mp eO2.2 n hn)
      have hkind : kindOf [m0, m1, m2] = lawKind m0 m1 m2 := kinds_agree m0 (hmem m0 (by simp)) m1 (hmem m1 (by simp)) m2 (hmem m2 (by simp))
      have hxl : x.length ≤ 2 := by
        simp only [oneMenu, List.mem_cons, List.not_mem_nil, or_false] at hx
        rcases hx with rfl | rfl | rfl | rfl | rfl | rfl | rfl | rfl | rfl <;> decide +kernel
      have hyl : y.length ≤ 2 := by
        simp only [otherMenu, List.mem_cons, List.not_mem_nil, or_false] at hy
        rcases hy with rfl | rfl | rfl | rfl | rfl | rfl | rfl | rfl | rfl <;> decide +kernel
      simp only [tSeq, tIfS, tOr, tAnd, tB, tTest, tCB, tCons, tVar, tC, tNil, tNot, tNotV, tRet, tRetN, tNext, tBreak, tOrV, tAndV, tOp, tUn, rEq, rNe, tChain, rI0, rI, rU, tAsg, gName, tDrop, tAug, ipI, tIf, tCall, tCallS, tLst, tTup, tBM, tBM0, rAppend, rExtend, rPop, rReverse, tyV, rIxL, rIxT, rIxS, L2.start, List.map_cons, List.map_nil, List.length_cons, List.length_nil, List.replicate, List.cons_append, List.nil_append, List.append_nil, List.getElem?_cons_zero, List.getElem?_cons_succ, List.set_cons_zero, List.set_cons_succ, Nat.reduceAdd, Nat.reduceSub, Option.some.injEq, exists_eq_left', exists_eq_left, V.int.injEq, V.bl.injEq, V.str.injEq, V.ref.injEq, List.cons.injEq, and_true, true_and, and_assoc, reduceCtorEq, false_and, exists_false, or_false, false_or, exists_and_left, exists_const, scal, Int.reduceLT, Int.reduceLE, Int.reduceSub, Int.reduceAdd, Int.reduceNeg, if_true, if_false]
      have hsz : x.length + y.length ≤ sizeLine := Nat.le_trans (show _ ≤ 4 by omega) (by decide)
      refine ⟨o, m0, m1, m2, rfl, L10.sq, hb m0 (by simp), hb m1 (by simp), hb m2 (by simp), fun H' s' => ⟨by decide, fun p hp => ⟨hsz, by decide, fun p1 hp1 => ?_⟩⟩⟩
      have L' := L10.same s'
      have hpd := L'.1.ne hp
      have hpo := L'.ne hp
      have hk0 : keyList.map V.str = [V.str "01", V.str "10", V.str "12", V.str "21", V.str "02", V.str "20"] := rfl
      have eD0 : toldV 0 [m0, m1, m2] x y = .non := by simp only [toldV, eO, if_true]
      have eD2 : toldV 2 [m0, m1, m2] x y = .str (lawKind m0 m1 m2) := by
        simp only [toldV, eO, if_true, if_neg (show ¬ (2 : Int) = 0 by decide), if_neg (show ¬ (2 : Int) = 1 by decide), hkind]
      have word : condB x y = false → dueL [m0, m1, m2] x y = [.non, .str "word", .str (lawKind m0 m1 m2)] := fun e => by
        have e2 := (keys_ok x hx y hy).2 e
        have eD1 : toldV 1 [m0, m1, m2] x y = .str "word" := by
          simp only [toldV, eO, e2, if_true, if_neg (show ¬ (1 : Int) = 0 by decide), if_neg Bool.false_ne_true]
        unfold dueL
        rw [eD0, eD1, eD2]
      have hpp : p ≠ p1 := fun z => by rw [← z, upd_same] at hp1; cases hp1
      have at1 : (upd (upd H' p (.lst [V.non, V.str "word", V.str (lawKind m0 m1 m2)])) p1 (.lst [V.str "01", V.str "10", V.str "12", V.str "21", V.str "02", V.str "20"])) p = some (.lst [V.non, V.str "word", V.str (lawKind m0 m1 m2)]) := by
        rw [upd_ne hpp, upd_same]
      have L1 : LB (upd (upd H' p (.lst [V.non, V.str "word", V.str (lawKind m0 m1 m2)])) p1 (.lst [V.str "01", V.str "10", V.str "12", V.str "21", V.str "02", V.str "20"])) d o [m0, m1, m2] := (L'.at hpd hpo).same (FK.same_new hp1)
      have at2 : (upd (upd H' p (.lst [V.non, V.str "word", V.str (lawKind m0 m1 m2)])) p1 (.lst [V.str "01", V.str "10", V.str "12", V.str "21", V.str "02", V.str "20"])) p1 = some (.lst [V.str "01", V.str "10", V.str "12", V.str "21", V.str "02", V.str "20"]) := upd_same
      generalize (upd (upd H' p (.lst [V.non, V.str "word", V.str (lawKind m0 m1 m2)])) p1 (.lst [V.str "01", V.str "10", V.str "12", V.str "21", V.str "02", V.str "20"])) = H12 at at1 at2 L1
      refine ⟨p1, _, rfl, .inl (SqL.of at2), rfl, rfl, _, rfl, ?_⟩
      show if inV (V.str (x ++ y)) [V.str "01", V.str "10", V.str "12", V.str "21", V.str "02", V.str "20"] = true then _ else _
      cases e1 : inV (V.str (x ++ y)) [V.str "01", V.str "10", V.str "12", V.str "21", V.str "02", V.str "20"] with
      | false =>
        refine iteF ⟨p, ⟨rfl, L1⟩, hpd, hpo, ?_⟩
        rw [at1, word (by unfold condB; rw [hk0, e1, Bool.false_and])]
      | true =>
        refine iteT ⟨Nat.le_trans hxl (by decide), ite2 (fun c2 => ?_) (fun c2 => ?_)⟩
        · have ec : condB x y = true := by unfold condB; rw [hk0, e1, c2, Bool.true_and]
          obtain ⟨e2, hkeys⟩ := (keys_ok x hx y hy).1 ec
          have pick : ∃ (i mi : Int), valV keyDict (.inr (x ++ y)) = some (.int i) ∧ atI [V.int m0, V.int m1, V.int m2] i = some (.int mi) ∧ betw m0 m1 m2 x y = mi := by
            rcases hkeys with ⟨h1, h2⟩ | ⟨h1, h2, h3⟩ | ⟨h1, h2, h3, h4⟩
            · exact ⟨0, m0, h1, rfl, by unfold betw; rw [if_pos h2]⟩
            · exact ⟨1, m1, h1, rfl, by unfold betw; rw [h2, if_neg Bool.false_ne_true, if_pos h3]⟩
            · exact ⟨2, m2, h1, rfl, by unfold betw; rw [h2, h3, if_neg Bool.false_ne_true, if_neg Bool.false_ne_true, if_pos h4]⟩
          obtain ⟨i, mi, hv, ha, hbw⟩ := pick
          have eD1 : toldV 1 [m0, m1, m2] x y = .int mi := by
            simp only [toldV, eO, e2, if_true, if_neg (show ¬ (1 : Int) = 0 by decide), hbw]
          have eD : dueL [m0, m1, m2] x y = [.non, .int mi, .str (lawKind m0 m1 m2)] := by
            unfold dueL
            rw [eD0, eD1, eD2]
          refine fun p2 hp2 => ⟨upd_same, keyKvs, rfl, by decide, ?_⟩
          have hpp2 : p ≠ p2 := fun z => by rw [← z, at1] at hp2; cases hp2
          have L2 : LB (upd (upd H12 p2 (.dK [])) p2 (.dK (mergeK [] keyKvs))) d o [m0, m1, m2] := (L1.at (L1.1.ne hp2) (L1.ne hp2)).at (L1.1.ne hp2) (L1.ne hp2)
          have at3 : (upd (upd H12 p2 (.dK [])) p2 (.dK (mergeK [] keyKvs))) p = some (.lst [V.non, V.str "word", V.str (lawKind m0 m1 m2)]) := by rw [upd_ne hpp2, upd_ne hpp2, at1]
          have at4 : (upd (upd H12 p2 (.dK [])) p2 (.dK (mergeK [] keyKvs))) p2 = some (.dK (mergeK [] keyKvs)) := upd_same
          generalize (upd (upd H12 p2 (.dK [])) p2 (.dK (mergeK [] keyKvs))) = H13 at L2 at3 at4
          have hg : DGet H13 p2 (.str (x ++ y)) (some (.int i)) := by
            have z := DGet.k (k := Sum.inr (x ++ y)) at4
            rw [show valV (mergeK [] keyKvs) (Sum.inr (x ++ y)) = some (.int i) from hv] at z
            exact z
          refine ⟨_, rfl, _, rfl, x, rfl, y, rfl, hsz, p2, _, rfl, hg, _, i, rfl, L2.sq, _, ha, ?_⟩
          refine ⟨_, rfl, p, _, 1, 1, rfl, rfl, at3, rfl, p, ⟨rfl, L2.at hpd hpo⟩, hpd, hpo, ?_⟩
          rw [upd_same, eD]
          rfl
        · refine ⟨p, ⟨rfl, L1⟩, hpd, hpo, ?_⟩
          rw [at1, word (by unfold condB; rw [hk0, e1, eq_false_of_ne_true c2, Bool.true_and])]
  clear hu hud huo
  rintro σ H11 ⟨u, ⟨⟨rfl, L11⟩, hud, huo⟩, hu⟩
  obtain ⟨z0, z1, z2, hz0, hz1, hz2, eD⟩ := due_three ms x y
  refine ⟨ST a d o c ms [some (.bl (okOrders ms)), v5, some (.str x), some (.str y), some (.ref u), none, none, none, none, none], ?_, ?_⟩
  · simp only [tSeq, tIfS, tOr, tAnd, tB, tTest, tCB, tCons, tVar, tC, tNil, tNot, tNotV, tRet, tRetN, tNext, tBreak, tOrV, tAndV, tOp, tUn, rEq, rNe, tChain, rI0, rI, rU, tAsg, gName, tDrop, tAug, ipI, tIf, tCall, tCallS, tLst, tTup, tBM, tBM0, rAppend, rExtend, rPop, rReverse, tyV, rIxL, rIxT, rIxS, L2.start, List.map_cons, List.map_nil, List.length_cons, List.length_nil, List.replicate, List.cons_append, List.nil_append, List.append_nil, List.getElem?_cons_zero, List.getElem?_cons_succ, List.set_cons_zero, List.set_cons_succ, Nat.reduceAdd, Nat.reduceSub, Option.some.injEq, exists_eq_left', exists_eq_left, V.int.injEq, V.bl.injEq, V.str.injEq, V.ref.injEq, List.cons.injEq, and_true, true_and, and_assoc, reduceCtorEq, false_and, exists_false, or_false, false_or, exists_and_left, exists_const, scal, Int.reduceLT, Int.reduceLE, Int.reduceSub, Int.reduceAdd, Int.reduceNeg, if_true, if_false]
    refine FK.rd_lc_same (J := Itr 0 3) (H1 := H11) (dueL ms x y) (fun R r => ⟨3, rfl, by decide, by decide, r⟩) (by rw [eD]; exact walk_range) (fun _ _ => trivial) (by rw [eD]; show 3 < 16777216; decide) (fun _ => rfl) ?_ ?_ (fun _ _ _ _ (z : _ ∧ _) => by rw [z.1]; exact Same.refl _)
    · rintro j v z H' H'' R hz s1 ⟨rfl, rfl⟩ go
      refine ⟨_, rfl, _, rfl, _, rfl, _, rfl, 0 + (j : Int), o, ms, x, y, rfl, (L11.same s1).sq, ?_, fun H4 s4 => ?_⟩
      · exact Nat.lt_of_le_of_lt (show x.length ≤ 2 by
          simp only [oneMenu, List.mem_cons, List.not_mem_nil, or_false] at hx
          rcases hx with rfl | rfl | rfl | rfl | rfl | rfl | rfl | rfl | rfl <;> decide +kernel) (by decide)
      · have e : z = toldV (0 + (j : Int)) ms x y := by
          match j, hz with
          | 0, hz => exact (Option.some.inj hz).symm
          | 1, hz => exact (Option.some.inj hz).symm
          | 2, hz => exact (Option.some.inj hz).symm
          | _ + 3, hz => simp [dueL] at hz
        rw [← e]
        exact go H4 s4
    · intro D H' hD s1 hDz
      have hz0' : z0 = .non ∨ (∃ x, z0 = .str x) ∨ ∃ i, z0 = .int i := by
        simp only [z0s, List.mem_cons, List.not_mem_nil, or_false] at hz0
        rcases hz0 with rfl | rfl
        · exact .inl rfl
        · exact .inr (.inl ⟨_, rfl⟩)
      have hz1' : z1 = .non ∨ (∃ x, z1 = .str x) ∨ ∃ i, z1 = .int i := by
        rcases List.mem_cons.mp hz1 with rfl | hz1
        · exact .inr (.inl ⟨_, rfl⟩)
        rcases List.mem_cons.mp hz1 with rfl | hz1
        · exact .inr (.inl ⟨_, rfl⟩)
        obtain ⟨i, _, rfl⟩ := List.mem_map.mp hz1
        exact .inr (.inr ⟨_, rfl⟩)
      have hz2' : z2 = .non ∨ (∃ x, z2 = .str x) ∨ ∃ i, z2 = .int i := by
        simp only [z2s, List.mem_cons, List.not_mem_nil, or_false] at hz2
        rcases hz2 with rfl | rfl | rfl | rfl
        all_goals exact .inr (.inl ⟨_, rfl⟩)
      obtain ⟨k1, k2, k3, k4⟩ := shown_ok z0 hz0 z1 hz1 z2 hz2
      have dp : ∀ (H : Hp) (p : Addr), H p = some (.lst (dueL ms x y)) → Dp K H (.ref p) (PyData.list [pd z0, pd z1, pd z2]) := fun H p e => .lst (SqL.of e) (by rw [eD]; exact .cons (dp_pd hz0') (.cons (dp_pd hz1') (.cons (dp_pd hz2') .nil)))
      refine ⟨_, _, rfl, dp _ _ hDz, k2, k3, k4, k1, _, _, rfl, dp _ _ (s1 _ _ hu), k2, k3, k4, k1, rfl, ?_⟩
      exact iteNS rfl ⟨rfl, L11.same s1⟩
  rintro σ H12 ⟨rfl, L12⟩
  -- word
  refine ⟨fun σ H => ∃ z : Str, z.length ≤ 62 ∧ ST a d o c ms [some (.bl (okOrders ms)), v5, some (.str x), some (.str y), some (.ref u), some (.str z), none, none, none, none] σ H, ?_, ?_⟩
  · refine ⟨⟨_, rfl⟩, ?_⟩
    refine rd_drawn2 (d := d) (fun v => ∃ c : Nat, v = .str ⟨#[c]⟩ ∧ c ∈ [48, 49, 50]) (fun n => n < 63) (fun R go => ⟨_, rfl, d, 63, rfl, L12.1, by decide, fun r H' r0 r1 hd' hb => ⟨r, rfl, by omega, by omega, go r.toNat H' (by omega) hd' hb⟩⟩) (fun n hn => Nat.lt_of_lt_of_le hn (by decide)) (fun _ => rfl) ?_ ?_
    · intro x' H4 R hd4 go
      exact rd_sign (z := "012") (m := 3) (i := 1) rfl rfl (by decide) (by decide) hd4 fun c H'' hc hd'' hb'' => go _ H'' ⟨c, rfl, hc⟩ hd'' hb''
    · intro n D zs H4 hn hzl hz hd4 hb4 hDz
      obtain ⟨cs, rfl, hcs⟩ := signs_of hz
      rw [List.length_map, List.length_map] at hzl
      refine ⟨"", D, cs.map fun c => (⟨#[c]⟩ : Str), rfl, rfl, .inl (SqL.of hDz), ?_, ?_⟩
      · rw [List.map_map, show ((fun y : Str => y.length) ∘ fun c => (⟨#[c]⟩ : Str)) = fun _ => 1 from rfl, List.length_map]
        rw [sum_ones]
        show cs.length + cs.length * 0 ≤ 16777216
        omega
      · rw [join_signs]
        refine ⟨⟨cs.toArray⟩, ?_, rfl, L12.but hd4 hb4⟩
        show cs.toArray.size ≤ 62
        rw [List.size_toArray]
        omega
  rintro σ H13 ⟨z, hzl, rfl, L13⟩
  -- a sign put in
  refine ⟨fun σ H => ∃ (z : Str) (v10 : Option V), z.length ≤ 1000 ∧ ST a d o c ms [some (.bl (okOrders ms)), v5, some (.str x), some (.str y), some (.ref u), some (.str z), v10, none, none, none] σ H, ?_, ?_⟩
  · refine ⟨_, rfl, d, 4, rfl, L13.1, by decide, fun r H' r0 r1 hd' hb => ⟨rfl, _, rfl, ite2 (fun _ => ?_) (fun _ => ⟨z, none, by omega, rfl, L13.but hd' hb⟩)⟩⟩
    have L' := L13.but hd' hb
    simp only [tSeq, tIfS, tOr, tAnd, tB, tTest, tCB, tCons, tVar, tC, tNil, tNot, tNotV, tRet, tRetN, tNext, tBreak, tOrV, tAndV, tOp, tUn, rEq, rNe, tChain, rI0, rI, rU, tAsg, gName, tDrop, tAug, ipI, tIf, tCall, tCallS, tLst, tTup, tBM, tBM0, rAppend, rExtend, rPop, rReverse, tyV, rIxL, rIxT, rIxS, L2.start, List.map_cons, List.map_nil, List.length_cons, List.length_nil, List.replicate, List.cons_append, List.nil_append, List.append_nil, List.getElem?_cons_zero, List.getElem?_cons_succ, List.set_cons_zero, List.set_cons_succ, Nat.reduceAdd, Nat.reduceSub, Option.some.injEq, exists_eq_left', exists_eq_left, V.int.injEq, V.bl.injEq, V.str.injEq, V.ref.injEq, List.cons.injEq, and_true, true_and, and_assoc, reduceCtorEq, false_and, exists_false, or_false, false_or, exists_and_left, exists_const, scal, Int.reduceLT, Int.reduceLE, Int.reduceSub, Int.reduceAdd, Int.reduceNeg, if_true, if_false, tSl, tNoPart, tPart, rSlS]
    have zs : ∀ n : Nat, n ≤ 1000 → n ≤ sizeLine := fun n h => Nat.le_trans h (by decide)
    refine ⟨zs _ (by omega), d, _, rfl, L'.1, by omega, fun r2 H2 r20 r21 hd2 hb2 => ⟨r2, rfl, zs _ (by omega), by decide, fun p hp => ⟨d, 4, rfl, hd2.same (FK.same_new hp), by decide, fun r3 H3 r30 r31 hd3 hb3 => ?_⟩⟩⟩
    obtain ⟨v, hv, hm⟩ := atI_mem (cs := [V.str "3", .str " ", .str "a", .str "-"]) r30 (by show r3 < 4; omega)
    obtain ⟨s1, rfl, hs1⟩ : ∃ s1 : Str, v = .str s1 ∧ s1.length ≤ 1 := by
      simp only [List.mem_cons, List.not_mem_nil, or_false] at hm
      rcases hm with rfl | rfl | rfl | rfl
      all_goals exact ⟨_, rfl, by decide +kernel⟩
    have k1 := cutS_length z none (some r2)
    have k2 := cutS_length z (some r2) none
    have k3 : (cutS z none (some r2) ++ s1).length = (cutS z none (some r2)).length + s1.length := strLen_append _ _
    have k4 : (cutS z none (some r2) ++ s1 ++ cutS z (some r2) none).length = (cutS z none (some r2) ++ s1).length + (cutS z (some r2) none).length := strLen_append _ _
    have hb4 : FK.But d H2 H3 := fun b o n e => hb3 b o n (FK.same_new hp b o e)
    exact ⟨_, r3, rfl, SqL.of (hb3 p _ (hd2.ne hp) upd_same), _, hv, s1, rfl, zs _ (by omega), r2, rfl, zs _ (by omega), zs _ (by omega), _, by omega, _, rfl, (L'.but hd2 hb2).but hd3 hb4⟩
  rintro σ H14 ⟨z, v10, hzl, rfl, L14⟩
  have zs : z.length < sizeLine := Nat.lt_of_le_of_lt hzl (by decide)
  -- due = None
  refine ⟨ST a d o c ms [some (.bl (okOrders ms)), v5, some (.str x), some (.str y), some .non, some (.str z), v10, none, none, none], ⟨rfl, L14⟩, ?_⟩
  rintro σ H15 ⟨rfl, L15⟩
  have told3 : toldV 3 ms z "" = if okWord z 60 = true then .non else .str "word" := by
    unfold toldV
    rw [if_neg (by decide), if_neg (by decide), if_neg (by decide)]
  -- if len(word) > 60 or ..
  refine ⟨ST a d o c ms [some (.bl (okOrders ms)), v5, some (.str x), some (.str y), some (toldV 3 ms z ""), some (.str z), v10, none, none, none], ?_, ?_⟩
  · simp only [tSeq, tIfS, tOr, tAnd, tB, tTest, tCB, tCons, tVar, tC, tNil, tNot, tNotV, tRet, tRetN, tNext, tBreak, tOrV, tAndV, tOp, tUn, rEq, rNe, tChain, rI0, rI, rU, tAsg, gName, tDrop, tAug, ipI, tIf, tCall, tCallS, tLst, tTup, tBM, tBM0, rAppend, rExtend, rPop, rReverse, tyV, rIxL, rIxT, rIxS, L2.start, List.map_cons, List.map_nil, List.length_cons, List.length_nil, List.replicate, List.cons_append, List.nil_append, List.append_nil, List.getElem?_cons_zero, List.getElem?_cons_succ, List.set_cons_zero, List.set_cons_succ, Nat.reduceAdd, Nat.reduceSub, Option.some.injEq, exists_eq_left', exists_eq_left, V.int.injEq, V.bl.injEq, V.str.injEq, V.ref.injEq, List.cons.injEq, and_true, true_and, and_assoc, reduceCtorEq, false_and, exists_false, or_false, false_or, exists_and_left, exists_const, scal, Int.reduceLT, Int.reduceLE, Int.reduceSub, Int.reduceAdd, Int.reduceNeg, if_true, if_false]
    refine ⟨Nat.le_of_lt zs, ite2 (fun c1 => ?_) (fun c1 => ?_)⟩
    · have c2 := of_decide_eq_true c1
      rw [told3, show okWord z 60 = false by unfold okWord; rw [decide_eq_false (by omega), Bool.false_and], if_neg Bool.false_ne_true]
      exact ⟨rfl, L15⟩
    · have c2 : (z.length : Int) ≤ 60 := by
        exact Int.not_lt.mp fun h => c1 (decide_eq_true h)
      have hn : ((z.cps.toList.map fun c => isLet ⟨#[c]⟩).map V.bl).length = z.cps.size := by simp
      refine FK.rd_lc_pure (J := Its z) (H1 := H15) ((z.cps.toList.map fun c => isLet ⟨#[c]⟩).map V.bl) (fun R r => ⟨_, rfl, z, rfl, r⟩) (by rw [hn]; exact walk_str) (fun _ _ _ => trivial) (by rw [hn]; exact zs) (fun _ => rfl) ?_ ?_ (fun _ _ _ _ (z : _ ∧ _) => z.1)
      · rintro D j v w' H' H'' R hD hz rfl ⟨rfl, c3, hc, rfl⟩ go
        rw [List.getElem?_map, List.getElem?_map, Array.getElem?_toList, hc] at hz
        cases hz
        have go2 : R (V.bl (isLet ⟨#[c3]⟩)) _ := go
        rw [let_sign] at go2
        exact ⟨_, rfl, c3, rfl, _, rfl, go2⟩
      · intro D hD
        refine ⟨D, _, rfl, SqL.of upd_same, _, rfl, ?_⟩
        have e : okWord z 60 = (z.cps.toList.map fun c => isLet ⟨#[c]⟩).all id := by
          unfold okWord
          rw [decide_eq_true c2, Bool.true_and, List.all_map]
          rfl
        rw [← e]
        cases ew : okWord z 60 with
        | false =>
          refine iteT ⟨?_, L15.same (FK.same_new hD)⟩
          rw [told3, ew, if_neg Bool.false_ne_true]
        | true =>
          refine iteF ⟨?_, L15.same (FK.same_new hD)⟩
          rw [told3, ew, if_pos rfl]
  rintro σ H16 ⟨rfl, L16⟩
  -- the last comparison
  refine ⟨_, rfl, _, rfl, 3, o, ms, z, "", rfl, L16.sq, zs, fun H' s' => ?_⟩
  obtain ⟨pdv, hp, k1, k2, k3, k4⟩ : ∃ pdv, (∀ H, Dp K H (toldV 3 ms z "") pdv) ∧ pdv.showable = true ∧ pdv.hasDict = false ∧ pdv.depth < 40 ∧ pdv.shown.length ≤ sizeLine := by
    rw [told3]
    cases okWord z 60 with
    | false =>
      rw [if_neg Bool.false_ne_true]
      exact ⟨.str "word", fun _ => .str _, by decide +kernel⟩
    | true =>
      rw [if_pos rfl]
      exact ⟨.none, fun _ => .non, by decide +kernel⟩
  exact ⟨_, pdv, rfl, hp _, k1, k2, k3, k4, _, rfl, _, pdv, rfl, hp _, k1, k2, k3, k4, rfl, by rw [decide_eq_true rfl]⟩

end
end K00

namespace K00
open PySem PySem.Spec PyProof.Rows L2
theorem law_holds {P : Program} {w : World} {K : PySem.W.Frag} {mg : Str → Option Value} {h : Heap} {fa : Addr} (inK : K.In h) (T : ∃ cx : Xs, Txt K mg cx) (g : mg "law" = some (.ref fa)) (base : Heap) (s : Shared) (H : Hp) (a : Addr) (ns : List Int) (hl : ns.length ≤ 63) (hb : ∀ z ∈ ns, Builtin.Int.intBits z ≤ 1048576)
    (e0 : Env0 P w K mg base callerA [] s H) (sq : SqL K H a (ns.map V.int)) : codeAny (model P w) callerA (.call (.ref fa) ⟨[.ref a], []⟩) (CR CX0 [] P w H s (fun v _ => v = .bl true) E0) s := by
  obtain ⟨cx, T⟩ := T
  exact ok_law T g ⟨rfl, by decide, by decide⟩ e0 sq hl
end K00
open PySem PySem.W PyProof.Rows
set_option maxHeartbeats 0 in
theorem PySem.Challenge.cw_foldfloor_k00_orders_and_words_holds : PySem.Challenge.rw_foldfloor_k00_orders_and_words.Holds := by
  w_on; o_law; k_head; (case hw => w_witness2)
  k_fill
  refine FK.walk_law (l := PySem.Challenge.rw_foldfloor_k00_orders_and_words) (n := 63) rfl (by decide) rfl (fun w h Y => PySem.W.kIn_of Y) ?F
  intro w mg fa h KX G hmg
  refine K00.law_holds KX ?T hmg
  case T =>
    refine' K00.mk_txt {
      d_is_order := FK.at_mk KX G ?q1_a ?q1_l ?q1_c ?q1_k (fun _ _ _ _ _ _ us hl => match us, hl with | [_], _ => rfl),
      d_is_orders := FK.at_mk KX G ?q2_a ?q2_l ?q2_c ?q2_k (fun _ _ _ _ _ _ us hl => match us, hl with | [_], _ => rfl),
      d_check_orders := FK.at_mk KX G ?q3_a ?q3_l ?q3_c ?q3_k (fun _ _ _ _ _ _ us hl => match us, hl with | [_], _ => rfl),
      d_is_letter := FK.at_mk KX G ?q4_a ?q4_l ?q4_c ?q4_k (fun _ _ _ _ _ _ us hl => match us, hl with | [_], _ => rfl),
      d_are_two_letters := FK.at_mk KX G ?q5_a ?q5_l ?q5_c ?q5_k (fun _ _ _ _ _ _ us hl => match us, hl with | [_, _], _ => rfl),
      d_is_word := FK.at_mk KX G ?q6_a ?q6_l ?q6_c ?q6_k (fun _ _ _ _ _ _ us hl => match us, hl with | [_, _], _ => rfl),
      d_check_long_word := FK.at_mk KX G ?q7_a ?q7_l ?q7_c ?q7_k (fun _ _ _ _ _ _ us hl => match us, hl with | [_, _], _ => rfl),
      d_check_word := FK.at_mk KX G ?q8_a ?q8_l ?q8_c ?q8_k (fun _ _ _ _ _ _ us hl => match us, hl with | [_], _ => rfl),
      d_check_two_letters := FK.at_mk KX G ?q9_a ?q9_l ?q9_c ?q9_k (fun _ _ _ _ _ _ us hl => match us, hl with | [_, _], _ => rfl),
      d_order_between := FK.at_mk KX G ?q10_a ?q10_l ?q10_c ?q10_k (fun _ _ _ _ _ _ us hl => match us, hl with | [_, _, _], _ => rfl),
      d_order_of := FK.at_mk KX G ?q11_a ?q11_l ?q11_c ?q11_k (fun _ _ _ _ _ _ us hl => match us, hl with | [_, _, _], _ => rfl),
      d_kind_of := FK.at_mk KX G ?q12_a ?q12_l ?q12_c ?q12_k (fun _ _ _ _ _ _ us hl => match us, hl with | [_], _ => rfl),
      d_law_number := FK.at_mk KX G ?q13_a ?q13_l ?q13_c ?q13_k (fun _ _ _ _ _ _ us hl => match us, hl with | [_], _ => rfl),
      d_law_draws := FK.at_mk KX G ?q14_a ?q14_l ?q14_c ?q14_k (fun _ _ _ _ _ _ us hl => match us, hl with | [_], _ => rfl),
      d_law_draw := FK.at_mk KX G ?q15_a ?q15_l ?q15_c ?q15_k (fun _ _ _ _ _ _ us hl => match us, hl with | [_], _ => rfl),
      d_law_pick := FK.at_mk KX G ?q16_a ?q16_l ?q16_c ?q16_k (fun _ _ _ _ _ _ us hl => match us, hl with | [_, _], _ => rfl),
      d_law_kind := FK.at_mk KX G ?q17_a ?q17_l ?q17_c ?q17_k (fun _ _ _ _ _ _ us hl => match us, hl with | [_], _ => rfl),
      d_law_told := FK.at_mk KX G ?q18_a ?q18_l ?q18_c ?q18_k (fun _ _ _ _ _ _ us hl => match us, hl with | [_, _, _, _], _ => rfl),
      d_law := FK.at_mk KX G ?q19_a ?q19_l ?q19_c ?q19_k (fun _ _ _ _ _ _ us hl => match us, hl with | [_], _ => rfl),
      n_all := PySem.W.mg_none_of KX G ?q20_a,
      n_bool := PySem.W.mg_none_of KX G ?q21_a,
      n_int := PySem.W.mg_none_of KX G ?q22_a,
      n_isinstance := PySem.W.mg_none_of KX G ?q23_a,
      n_len := PySem.W.mg_none_of KX G ?q24_a,
      n_range := PySem.W.mg_none_of KX G ?q25_a,
      n_repr := PySem.W.mg_none_of KX G ?q26_a,
      n_sum := PySem.W.mg_none_of KX G ?q27_a,
      n_tuple := PySem.W.mg_none_of KX G ?q28_a,
      n_zip := PySem.W.mg_none_of KX G ?q29_a,
      x_FoldError := FK.xc_mk KX G ?q30_a ?q30_k ?q30_x ?q30_b ?q30_t ?q30_c ?q30_e1 ?q30_e2 ?q30_e4 ?q30_e5 ?q30_e6 ?q30_e7 ?q30_e8,
      x_NotOrders := FK.xc_mk KX G ?q31_a ?q31_k ?q31_x ?q31_b ?q31_t ?q31_c ?q31_e1 ?q31_e2 ?q31_e4 ?q31_e5 ?q31_e6 ?q31_e7 ?q31_e8,
      x_NotWord := FK.xc_mk KX G ?q32_a ?q32_k ?q32_x ?q32_b ?q32_t ?q32_c ?q32_e1 ?q32_e2 ?q32_e4 ?q32_e5 ?q32_e6 ?q32_e7 ?q32_e8,
      x_BadNumber := FK.xc_mk KX G ?q33_a ?q33_k ?q33_x ?q33_b ?q33_t ?q33_c ?q33_e1 ?q33_e2 ?q33_e4 ?q33_e5 ?q33_e6 ?q33_e7 ?q33_e8,
      c_PAIRS := PySem.W.mg_of KX G ?q34_a,
      c_MOST_LETTERS := PySem.W.mg_of KX G ?q35_a,
      exm_NotOrders := PySem.W.exm_ref ?q36_a ?q36_b ?q36_c ?q36_d,
      kit_NotOrders_NotOrders := FK.kit_same,
      kit_NotOrders_BadNumber := FK.kit_mk ?q38_rfl ?q38_a ?q38_b ?q38_c,
      kit_NotOrders_NotWord := FK.kit_mk ?q39_rfl ?q39_a ?q39_b ?q39_c,
      exm_NotWord := PySem.W.exm_ref ?q40_a ?q40_b ?q40_c ?q40_d,
      kit_NotWord_NotOrders := FK.kit_mk ?q41_rfl ?q41_a ?q41_b ?q41_c,
      kit_NotWord_BadNumber := FK.kit_mk ?q42_rfl ?q42_a ?q42_b ?q42_c,
      kit_NotWord_NotWord := FK.kit_same,
      p_PAIRS := FK.tup_mk ?q44_a,
      p_b0 := FK.tup2s_mk ?q45_a,
      p_b1 := FK.tup2s_mk ?q46_a,
      p_b2 := FK.tup2s_mk ?q47_a }
    (case q1_a => k_is)
    (case q1_l => k_is)
    (case q1_c => k_is)
    (case q1_k => k_is)
    (case q2_a => k_is)
    (case q2_l => k_is)
    (case q2_c => k_is)
    (case q2_k => k_is)
    (case q3_a => k_is)
    (case q3_l => k_is)
    (case q3_c => k_is)
    (case q3_k => k_is)
    (case q4_a => k_is)
    (case q4_l => k_is)
    (case q4_c => k_is)
    (case q4_k => k_is)
    (case q5_a => k_is)
    (case q5_l => k_is)
    (case q5_c => k_is)
    (case q5_k => k_is)
    (case q6_a => k_is)
    (case q6_l => k_is)
    (case q6_c => k_is)
    (case q6_k => k_is)
    (case q7_a => k_is)
    (case q7_l => k_is)
    (case q7_c => k_is)
    (case q7_k => k_is)
    (case q8_a => k_is)
    (case q8_l => k_is)
    (case q8_c => k_is)
    (case q8_k => k_is)
    (case q9_a => k_is)
    (case q9_l => k_is)
    (case q9_c => k_is)
    (case q9_k => k_is)
    (case q10_a => k_is)
    (case q10_l => k_is)
    (case q10_c => k_is)
    (case q10_k => k_is)
    (case q11_a => k_is)
    (case q11_l => k_is)
    (case q11_c => k_is)
    (case q11_k => k_is)
    (case q12_a => k_is)
    (case q12_l => k_is)
    (case q12_c => k_is)
    (case q12_k => k_is)
    (case q13_a => k_is)
    (case q13_l => k_is)
    (case q13_c => k_is)
    (case q13_k => k_is)
    (case q14_a => k_is)
    (case q14_l => k_is)
    (case q14_c => k_is)
    (case q14_k => k_is)
    (case q15_a => k_is)
    (case q15_l => k_is)
    (case q15_c => k_is)
    (case q15_k => k_is)
    (case q16_a => k_is)
    (case q16_l => k_is)
    (case q16_c => k_is)
    (case q16_k => k_is)
    (case q17_a => k_is)
    (case q17_l => k_is)
    (case q17_c => k_is)
    (case q17_k => k_is)
    (case q18_a => k_is)
    (case q18_l => k_is)
    (case q18_c => k_is)
    (case q18_k => k_is)
    (case q19_a => k_is)
    (case q19_l => k_is)
    (case q19_c => k_is)
    (case q19_k => k_is)
    (case q20_a => (try dsimp only); k_is)
    (case q21_a => (try dsimp only); k_is)
    (case q22_a => (try dsimp only); k_is)
    (case q23_a => (try dsimp only); k_is)
    (case q24_a => (try dsimp only); k_is)
    (case q25_a => (try dsimp only); k_is)
    (case q26_a => (try dsimp only); k_is)
    (case q27_a => (try dsimp only); k_is)
    (case q28_a => (try dsimp only); k_is)
    (case q29_a => (try dsimp only); k_is)
    (case q30_a => (try dsimp only); k_is)
    (case q30_k => (try dsimp only); k_is)
    (case q30_x => (try dsimp only); k_exc)
    (case q30_b => (try dsimp only); k_is)
    (case q30_t => (try dsimp only); k_is)
    (case q30_c => (try dsimp only); k_is)
    (case q30_e1 => (try dsimp only); k_is)
    (case q30_e2 => (try dsimp only); k_is)
    (case q30_e4 => (try dsimp only); k_is)
    (case q30_e5 => (try dsimp only); k_is)
    (case q30_e6 => (try dsimp only); k_is)
    (case q30_e7 => (try dsimp only); k_is)
    (case q30_e8 => (try dsimp only); k_is)
    (case q31_a => (try dsimp only); k_is)
    (case q31_k => (try dsimp only); k_is)
    (case q31_x => (try dsimp only); k_exc)
    (case q31_b => (try dsimp only); k_is)
    (case q31_t => (try dsimp only); k_is)
    (case q31_c => (try dsimp only); k_is)
    (case q31_e1 => (try dsimp only); k_is)
    (case q31_e2 => (try dsimp only); k_is)
    (case q31_e4 => (try dsimp only); k_is)
    (case q31_e5 => (try dsimp only); k_is)
    (case q31_e6 => (try dsimp only); k_is)
    (case q31_e7 => (try dsimp only); k_is)
    (case q31_e8 => (try dsimp only); k_is)
    (case q32_a => (try dsimp only); k_is)
    (case q32_k => (try dsimp only); k_is)
    (case q32_x => (try dsimp only); k_exc)
    (case q32_b => (try dsimp only); k_is)
    (case q32_t => (try dsimp only); k_is)
    (case q32_c => (try dsimp only); k_is)
    (case q32_e1 => (try dsimp only); k_is)
    (case q32_e2 => (try dsimp only); k_is)
    (case q32_e4 => (try dsimp only); k_is)
    (case q32_e5 => (try dsimp only); k_is)
    (case q32_e6 => (try dsimp only); k_is)
    (case q32_e7 => (try dsimp only); k_is)
    (case q32_e8 => (try dsimp only); k_is)
    (case q33_a => (try dsimp only); k_is)
    (case q33_k => (try dsimp only); k_is)
    (case q33_x => (try dsimp only); k_exc)
    (case q33_b => (try dsimp only); k_is)
    (case q33_t => (try dsimp only); k_is)
    (case q33_c => (try dsimp only); k_is)
    (case q33_e1 => (try dsimp only); k_is)
    (case q33_e2 => (try dsimp only); k_is)
    (case q33_e4 => (try dsimp only); k_is)
    (case q33_e5 => (try dsimp only); k_is)
    (case q33_e6 => (try dsimp only); k_is)
    (case q33_e7 => (try dsimp only); k_is)
    (case q33_e8 => (try dsimp only); k_is)
    (case q34_a => (try dsimp only); k_is)
    (case q35_a => (try dsimp only); k_is)
    (case q36_a => (try dsimp only); k_is)
    (case q36_b => (try dsimp only); k_is)
    (case q36_c => (try dsimp only); k_is)
    (case q36_d => (try dsimp only); k_is)
    (case q38_rfl => dsimp only; decide)
    (case q38_a => (try dsimp only); k_is)
    (case q38_b => (try dsimp only); k_is)
    (case q38_c => (try dsimp only); k_is)
    (case q39_rfl => dsimp only; decide)
    (case q39_a => (try dsimp only); k_is)
    (case q39_b => (try dsimp only); k_is)
    (case q39_c => (try dsimp only); k_is)
    (case q40_a => (try dsimp only); k_is)
    (case q40_b => (try dsimp only); k_is)
    (case q40_c => (try dsimp only); k_is)
    (case q40_d => (try dsimp only); k_is)
    (case q41_rfl => dsimp only; decide)
    (case q41_a => (try dsimp only); k_is)
    (case q41_b => (try dsimp only); k_is)
    (case q41_c => (try dsimp only); k_is)
    (case q42_rfl => dsimp only; decide)
    (case q42_a => (try dsimp only); k_is)
    (case q42_b => (try dsimp only); k_is)
    (case q42_c => (try dsimp only); k_is)
    (case q44_a => (try dsimp only); k_is)
    (case q45_a => (try dsimp only); k_is)
    (case q46_a => (try dsimp only); k_is)
    (case q47_a => (try dsimp only); k_is)

