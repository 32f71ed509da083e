import PyProof.Rows.All
import Wide.All
import OpenK.AllK
import Wide.FinOn
import PyProof.EqAt
import PyProof.EqKinds
import PyProof.TupleCall
import PyProof.ReprRoads
import HandS.ForMost
import HandS.Exc
import HandS.TryOnly
import HandS.ExcOwn
import HandS.WordsExc
import HandS.IsInst
import HandS.ExcIs
import HandS.FStr
import HandS.RaiseMore
import HandS.Wide
import HandS.Zip
import HandS.NoneIn
import HandS.Codes
import HandS.Gcd
import HandS.EndBits
import HandS.Walk
import HandS.Style
import KE.GoesMore
import KE.GoesZip
import PyProof.StrOps2
import HandS.DictComp
import HandS.TryMany
import HandS.Conv
import HandS.WideBits
import PySem.Challenge.RW_foldfloor_k89_words_of_lines
set_option Elab.async false
set_option linter.all false
set_option maxRecDepth 100000
set_option maxHeartbeats 8000000
/-! Own kit: a def bundled with where it stands, calls of such defs, repr of data, the law's entry with nothing being shown. -/
namespace FK
open PySem PySem.Spec PyProof.Rows L2
section
variable {P : Program} {w : World} {K : PySem.W.Frag} {mg : Str → Option Value} {base : Heap}
/-- the def of the statement st stands under its name -/
def At (K : PySem.W.Frag) (mg : Str → Option Value) (x : Str) (st : Stmt) (ps : List Str) : Prop :=
  ∃ (f : Addr) (fd : FuncData), Fun K x x st f fd ∧ mg x = some (.ref f) ∧ Binds K fd ps []
/-- the def of this name keeps the promise -/
def Has (P : Program) (w : World) (K : PySem.W.Frag) (mg : Str → Option Value) (base : Heap) (CX : CXT) (k : Nat) (x : Str) (ps : List Str) (sp : Sp) : Prop :=
  ∃ (f : Addr) (fd : FuncData), FnOk P w K mg base CX k f fd ps sp ∧ mg x = some (.ref f) ∧ PySem.W.keepIn K (.ref f) = true ∧ Binds K fd ps []
theorem Has.mono {CX : CXT} {j k : Nat} {x : Str} {ps : List Str} {sp : Sp} (h : Has P w K mg base CX j x ps sp) (hk : j ≤ k) : Has P w K mg base CX k x ps sp := by
  obtain ⟨f, fd, h1, h2⟩ := h
  exact ⟨f, fd, h1.mono hk, h2⟩
theorem At.ok {x : Str} {st : Stmt} {N ps : List Str} {k : Nat} {sp : Sp} (D : At K mg x st ps) (S : FnScope N ps (defScope st)) (len : ∀ vs H Q E, sp vs H Q E → vs.length = ps.length)
    (hbody : ∀ (f : Addr) (cdv : Value) (A : Around) (outer : List Env) (s : Shared) (H : Hp) (vs : List V) (Q : VK) (E : XK), Room k (A.deeper (envOfC x (defScope st) s.heap.objs.size f cdv)) → sp vs H Q E →
      ∃ t, PSs (cxOf CX0 P w K mg base N x (defScope st) f cdv A outer s H E).nox (defBody st) t ∧ t { nx := fun _ H' => Q .non H', rt := Q } (start N vs) H) : Has P w K mg base CX0 (k + 1) x ps sp := by
  obtain ⟨f, fd, F, g, b⟩ := D
  exact ⟨f, fd, F.ok S len (hbody f), g, F.kp, b⟩
theorem At.okX {x : Str} {st : Stmt} {N ps : List Str} {k : Nat} {sp : Sp} (D : At K mg x st ps) (S : FnScope N ps (defScope st)) (len : ∀ vs H Q E, sp vs H Q E → vs.length = ps.length)
    (hbody : ∀ (f : Addr) (cdv : Value) (A : Around) (outer : List Env) (s : Shared) (H : Hp) (vs : List V) (Q : VK) (E : XK), Room k (A.deeper (envOfC x (defScope st) s.heap.objs.size f cdv)) → sp vs H Q E →
      ∃ t, PSs (cxOf (L2.CX P w) P w K mg base N x (defScope st) f cdv A outer s H E) (defBody st) t ∧ t { nx := fun _ H' => Q .non H', rt := Q } (start N vs) H) : Has P w K mg base (L2.CX P w) (k + 1) x ps sp := by
  obtain ⟨f, fd, F, g, b⟩ := D
  exact ⟨f, fd, F.okX S len (hbody f), g, F.kp, b⟩
end
/-- what the top says of an own error class (no __init__ of its own) that stands at C -/
structure XC (K : PySem.W.Frag) (mg : Str → Option Value) (x : Str) (C : Addr) : Prop where
  g : mg x = some (.ref C)
  k : PySem.W.keepIn K (.ref C) = true
  x : PySem.W.excIn K C [.type "ValueError", .type "Exception", .type "BaseException", .type "object"] "ValueError.__new__" = true
  b : PySem.W.subIn K (.ref C) (.type "BaseException") = some true
  t : PySem.W.typeIn K (.ref C) = some (.type "type")
  c : PySem.W.isClsIn K C = true
  e : ExcC K C
section
variable {X : Cx} {k : Nat} {x : Str} {ps : List Str} {sp : Sp} {p pos : Pos} {e : Expr} {es : List Expr} {t : TA}
/-- f(e, ..), what f lets out goes to E -/
theorem pe_h {CX : CXT} {E : XK} (h : Has X.prog X.w X.K X.mg X.base CX k x ps sp) (hr : Room k X.A) (hx : Passes CX X E) (ha : PA X (e :: es) t) (hg : Gl X x := by rfl) (hdb : (x == ("__debug__" : Str)) = false := by decide)
    (he : starEach (e :: es) X.env = (false, eval e X.env) :: starEach es X.env := by rfl) (hpl : (backTo pos (starEach es X.env)).any (·.1) = false := by rfl) :
    PE X (.Call (.Name x p) (e :: es) [] pos) (tCall sp [] E t) := by
  obtain ⟨f, fd, F, g, kp, b⟩ := h
  exact pe_call F hr hg g kp b .nil hx ha hdb he hpl
theorem pe_h0 {CX : CXT} {E : XK} (h : Has X.prog X.w X.K X.mg X.base CX k x ps sp) (hr : Room k X.A) (hx : Passes CX X E) (hg : Gl X x := by rfl) (hdb : (x == ("__debug__" : Str)) = false := by decide) :
    PE X (.Call (.Name x p) [] [] pos) (tCall sp [] E tNil) := by
  obtain ⟨f, fd, F, g, kp, b⟩ := h
  exact pe_call0 F hr hg g kp b .nil hx hdb
/-- the same in a try's body: what f lets out is wished for at the slots -/
theorem pe_hS {CX : CXT} {E : L2.St → XK} (h : Has X.prog X.w X.K X.mg X.base CX k x ps sp) (hr : Room k X.A) (hx : ∀ σ, PassesAt CX X σ (E σ)) (ha : PA X (e :: es) t) (hg : Gl X x := by rfl) (hdb : (x == ("__debug__" : Str)) = false := by decide)
    (he : starEach (e :: es) X.env = (false, eval e X.env) :: starEach es X.env := by rfl) (hpl : (backTo pos (starEach es X.env)).any (·.1) = false := by rfl) :
    PE X (.Call (.Name x p) (e :: es) [] pos) (tCallS sp E t) := by
  obtain ⟨f, fd, F, g, kp, b⟩ := h
  exact pe_callS F hr hg g kp b hx ha hdb he hpl
/-- repr(x), x data of any depth, where nothing is being shown -/
def rRepr (K : PySem.W.Frag) : List V → Hp → VK → Prop := fun xs H Q => ∃ (x : V) (d : PyData), xs = [x] ∧ Dp K H x d ∧ d.showable = true ∧ d.hasDict = false ∧ d.depth < 40 ∧ d.shown.length ≤ sizeLine ∧ Q (.str d.shown) H
theorem call_repr (hg : X.A.guards = some []) (hr : Room k X.A) : CallR X (.builtin "repr") (rRepr X.K) := by
  intro pins s σ H xs us Q I r h
  obtain ⟨x, d, rfl, hd, hs, hn, hdp, hz, q⟩ := h
  obtain ⟨u, rfl, rx⟩ := vals1 r
  obtain ⟨as, rd⟩ := Dp.reads I d _ u hd rx
  have hu := hr.units
  cases hd with
  | non =>
    cases rx
    exact PySem.P.repr_of_none ⟨.str _, H, I.tok _, ⟨_, rfl⟩, q⟩
  | bl b =>
    cases rx
    exact PySem.P.repr_of_bool ⟨.str _, H, I.tok _, ⟨_, rfl⟩, q⟩
  | int i =>
    obtain ⟨t, rfl⟩ := rx
    exact PySem.P.repr_of_int (of_decide_eq_true hs) ⟨.str _, H, I.tok _, ⟨_, rfl⟩, q⟩
  | str x =>
    obtain ⟨t, rfl⟩ := rx
    exact PySem.P.repr_of_str ⟨.str _, H, I.tok _, ⟨_, rfl⟩, q⟩ hz
  | lst h1 h2 =>
    cases rx
    exact repr_of_reads' (s := s) rd hs (PyData.noDict_hsm hn) hg (by omega) (fun _ _ e => e) (fun h' u tk hk => ⟨.str _, H, I.kept (t' := tk) hk, ⟨u, rfl⟩, q⟩) hz
  | tup h1 h2 =>
    cases rx
    exact repr_of_reads' (s := s) rd hs (PyData.noDict_hsm hn) hg (by omega) (fun _ _ e => e) (fun h' u tk hk => ⟨.str _, H, I.kept (t' := tk) hk, ⟨u, rfl⟩, q⟩) hz
/-- int(n) of a whole number -/
theorem call_intI : CallR X (.type "int") (fun xs H Q => ∃ i, xs = [.int i] ∧ Q (.int i) H) := fun pins s σ H xs us Q I r h => call_int1 pins s σ H xs us Q I r (.inl h)
/-- xs[i] read for xs[i] -= e, i not negative -/
theorem pget_list : PGet X (fun x y H Q => ∃ p xs i v, x = .ref p ∧ y = .int i ∧ 0 ≤ i ∧ SqL X.K H p xs ∧ atI xs i = some v ∧ Q v H) := by
  intro pins s σ H o i ov iv Q I ro ri h
  obtain ⟨p, xs, k, z, rfl, rfl, h0, hq, he, q⟩ := h
  cases ro
  obtain ⟨t, rfl⟩ := ri
  obtain ⟨its, r, pl, hz⟩ := I.list hq
  obtain ⟨j, h1, h2, h3, h4, h5⟩ := atI_get he
  obtain ⟨w, ew, rw'⟩ := r.get h2
  have hl := r.length
  have hn := line63
  have hj : k.toNat = j := by
    rw [seqIndex_of h0 h5] at h1
    exact Option.some.inj h1
  exact wpAny_getItem_list pl.isList h0 (by omega) (by rw [hj]; simpa using ew) ⟨z, H, I, rw', q⟩
/-- isinstance(e, c) in the suite that holds e, whatever class e has -/
theorem call_isEx {a : Addr} {oe : Obj} {cls : Value} {dd : Option Addr} {pn : List (Addr × Obj)} (hz : Zc cls dd oe) (hf : ∃ vs, oe.data = .fields vs) :
    CallR (X.suite a ((a, oe) :: pn)) (.builtin "isinstance") (fun xs H Q => ∃ D : Addr, cls = .ref D ∧ dd = none ∧ ExcC X.K D ∧ rIsE X.K D a xs H Q) := by
  intro pins s σ H xs us Q I r h
  obtain ⟨D, rfl, rfl, C, q⟩ := h
  exact call_isE C hz hf pins s σ H xs us Q I r q
end
end FK

/-! Own entry of a law: its def run where the caller stands, with nothing being shown. -/
namespace FK
open PySem PySem.Spec PyProof.Rows L2
section
variable {P : Program} {w : World} {K : PySem.W.Frag} {mg : Str → Option Value} {base : Heap}
/-- the law's def, called by the caller: what its body says of every answer -/
theorem run_def {x q : Str} {pr : Arguments} {body : List Stmt} {sc : Scope} {N ps : List Str} {k : Nat} {f : Addr} {A : Around} {s : Shared} {H : Hp} {us : List Value} {vs : List V} {args : Args} {Q : VK} {kV doc pm cdv ct oc : Value} {an od : Option Addr} {osl : Array (Option Value)}
    (lk : K.lookup f = some ⟨oc, od, .func (PySem.W.fnOf x q pr body sc .none kV doc pm an cdv ct), osl⟩) (hc : PySem.W.codeIn K cdv q = true)
    (S : FnScope N ps sc) (hr : Room (k + 1) A) (e0 : Env0 P w K mg base A [] s H) (hv : Vals vs us) (hl : vs.length = ps.length) (hb : BindsTo s (PySem.W.fnOf x q pr body sc .none kV doc pm an cdv ct) args (ps.zip us))
    {t : TS} (hp : PSs (cxOf CX0 P w K mg base N q sc f cdv A [] s H E0).nox body t) (ht : t { nx := fun _ H' => Q .non H', rt := Q } (start N vs) H) :
    codeAny (model P w) A (.call (.ref f) args) (CR CX0 [] P w H s Q E0) s := by
  have up : ∀ {b : Addr} {o : Obj}, base.get? b = some o → s.heap.get? b = some o := fun {b o} e => (e0.bs b o e).1
  have inK : K.In s.heap := e0.mod.kin.keeps fun _ _ e => up e
  refine codeAny_call_function hr.depth (inK _ _ lk) rfl S.co S.gen rfl (PySem.W.codeRec_of inK hc) (hb _ _ _ _ ?_)
  refine wpAny_newFunctionEnv_cells S.kind (fun z hz => ?_) fun env he s1 C => ?_
  · rcases S.par z.1 (List.of_mem_zip (show (z.1, z.2) ∈ ps.zip us from hz)).1 with c | c
    · exact Or.inl c
    · exact Or.inr ⟨c, PySem.W.cellsFrom_some _ _ _ (Or.inl c)⟩
  · cases he
    have nl : s.heap.NoLimit := e0.mod.nolimit.keeps fun _ _ e => up e
    refine ⟨nl.keeps C.toInCall.keep, codeAny_func ?_⟩
    have I := inv_start (CX := CX0) (qual := q) (f := f) (cd := cdv) (E := E0) S hr.hd e0 hl hv C
    refine wpAny_mono (hp.nox.run [] s1 (start N vs) H _ I ht) (fun fl s2 z => ?_) fun _ _ z => z
    cases fl with
    | ret u => obtain ⟨v, _, H2, J, rv, q⟩ := z; exact ⟨v, H2, J.os, J.bare, J.base, J.hok, rv, q⟩
    | next => obtain ⟨_, H2, J, q⟩ := z; exact ⟨.non, H2, J.os, J.bare, J.base, J.hok, rfl, q⟩
    | brk => exact False.elim (let ⟨_, _, _, q⟩ := z; q)
    | cont => exact False.elim (let ⟨_, _, _, q⟩ := z; q)
/-- from the caller's state to an abstract heap in which nothing but the script may stand -/
theorem law_in {mb : Str → Option Value} {fa a : Addr} {s : Shared} {vs : List Value} {ns : List Int} (inK : K.In s.heap) (gl : s.heap.Ns mainGlobals mg) (bl : s.heap.Ns builtinsNs mb) (bb : ∀ z : Str, z ≠ "__name__" → mb z = bootBuiltins z) (nl : s.heap.NoLimit) (gs : s.gens = #[])
    (la : s.heap.get? a = some { cls := .type "list", data := .seq vs.toArray }) (ia : IntsAre vs ns) (le : ns.length ≤ sizeLine)
    (go : ∀ (base : Heap) (H : Hp), Env0 P w K mg base callerA [] s H → SqL K H a (ns.map V.int) → codeAny (model P w) callerA (.call (.ref fa) ⟨[.ref a], []⟩) (CR CX0 [] P w H s (fun v _ => v = .bl true) E0) s) :
    codeAny (model P w) callerA (.call (.ref fa) ⟨[.ref a], []⟩) (fun r s' => r = .ok (.ret (.bool true)) ∧ OldK s.heap s'.heap ∧ s'.os = s.os ∧ AllBare s'.gens) s := by
  have rv : Vals (ns.map V.int) vs := vals_ints ia
  have lv := ia.length
  have lm : (ns.map V.int).length ≤ sizeLine := by rw [List.length_map]; exact le
  -- the abstract heap: the script, locked, if it is no object of the text itself
  obtain ⟨H, hH⟩ : ∃ H : Hp, ∀ b, H b = if b = a ∧ K.lookup a = none then some (HO.frz { cls := .type "list", data := .seq vs.toArray } (.lst (ns.map V.int))) else none := ⟨_, fun _ => rfl⟩
  have Hno : ∀ {b : Addr}, ¬(b = a ∧ K.lookup a = none) → H b = none := fun {b} c => by rw [hH, if_neg c]
  have Hyes : ∀ {b : Addr} {u : HO}, H b = some u → (b = a ∧ K.lookup a = none) ∧ u = .frz { cls := .type "list", data := .seq vs.toArray } (.lst (ns.map V.int)) := fun {b u} e => by
    rw [hH] at e
    by_cases c : b = a ∧ K.lookup a = none
    · rw [if_pos c] at e; cases e; exact ⟨c, rfl⟩
    · rw [if_neg c] at e; cases e
  have sq : SqL K H a (ns.map V.int) := by
    cases c : K.lookup a with
    | none => exact .inl (.inr ⟨_, by rw [hH, if_pos ⟨rfl, c⟩]⟩)
    | some o =>
      have e := (inK a o c).symm.trans la
      cases e
      exact .inr ⟨_, vs.toArray, _, c, rfl, rfl, rfl, by rw [List.size_toArray, lv]; exact le, by simpa using rv⟩
  have kept : ∀ {b : Addr} {o : Obj}, s.heap.get? b = some o → H b = none → (hidT s.heap H).get? b = some o := fun e n => hidT_get e n
  have ok : HOk P w H s.heap := fun b u e => by
    obtain ⟨⟨rfl, _⟩, rfl⟩ := Hyes e
    exact ⟨la, lm, vs, _, rv, la⟩
  have dk : ∀ {b : Addr} {o : Obj} {es : Array DictEntry} {n : Nat}, s.heap.get? b = some o → o.data = .dict es n → H b = none := fun {b o es n} e d => by
    refine Hno fun c => ?_
    rw [c.1, la] at e
    cases e
    exact nomatch d
  have nsk : ∀ {b : Addr} {m : Str → Option Value}, s.heap.Ns b m → (hidT s.heap H).Ns b m := fun {b m} z => by
    obtain ⟨o, es, n, e, d, r⟩ := z
    exact ⟨o, es, n, kept e (dk e d), d, r⟩
  have kb : K.In (hidT s.heap H) := fun b o e => kept (inK b o e) (Hno fun c => by rw [c.1, c.2] at e; cases e)
  have M : Mod K mg (hidT s.heap H) := ⟨kb, nsk gl, ⟨mb, nsk bl, bb⟩, by obtain ⟨mc, h1, h2⟩ := nl; exact ⟨mc, nsk h1, h2⟩⟩
  have e0 : Env0 P w K mg (hidT s.heap H) callerA [] s H := ⟨rfl, M, fun _ _ e => of_hidT e, Nat.le_of_eq (hidT_size _ _), trivial, fun b hb => absurd (show b ∈ ([] : List Addr) from hb) List.not_mem_nil, ok, .of_eq gs⟩
  refine codeAny_mono (go _ H e0 sq) fun r s' z => ?_
  match r, z with
  | .error _, z => exact False.elim z
  | .ok .next, z => exact False.elim z
  | .ok .brk, z => exact False.elim z
  | .ok .cont, z => exact False.elim z
  | .ok (.ret u), z =>
    obtain ⟨v, H', os, bare, un, ok', rv', ev⟩ := z
    cases (show v = .bl true from ev)
    cases (show u = Value.bool true from rv')
    refine ⟨rfl, OldK.of_keep fun b o e => ?_, os, bare⟩
    cases c : H b with
    | none => exact un.keep b o e c (fun z => absurd (show b ∈ ([] : List Addr) from z) List.not_mem_nil) List.not_mem_nil
    | some u =>
      obtain ⟨_, rfl⟩ := Hyes c
      have g1 := (ok b _ c).1
      have g2 := (ok' b _ (un.frzs b _ _ c)).1
      exact g2.trans (g1.symm.trans e)
/-- a bundled def, called by the caller -/
theorem At.run {x : Str} {st : Stmt} {N ps : List Str} {k : Nat} {fa : Addr} {s : Shared} {H : Hp} {us : List Value} {vs : List V} {Q : VK} (D : At K mg x st ps) (g : mg x = some (.ref fa)) (S : FnScope N ps (defScope st)) (hr : Room (k + 1) callerA)
    (e0 : Env0 P w K mg base callerA [] s H) (hv : Vals vs us) (hl : vs.length = ps.length)
    (go : ∀ (cdv : Value), Room k (callerA.deeper (envOfC x (defScope st) s.heap.objs.size fa cdv)) → (callerA.deeper (envOfC x (defScope st) s.heap.objs.size fa cdv)).guards = some [] →
      ∃ t, PSs (cxOf CX0 P w K mg base N x (defScope st) fa cdv callerA [] s H E0).nox (defBody st) t ∧ t { nx := fun _ H' => Q .non H', rt := Q } (start N vs) H) :
    codeAny (model P w) callerA (.call (.ref fa) ⟨us, []⟩) (CR CX0 [] P w H s Q E0) s := by
  obtain ⟨f, fd, F, g', b⟩ := D
  cases g.symm.trans g'
  obtain ⟨oc, od, kV, doc, pm, an, cdv, ct, osl, rfl, lk, hc⟩ := F.ex
  have inK : K.In s.heap := e0.mod.kin.keeps fun b o e => (e0.bs b o e).1
  have hlu : us.length = ps.length := by rw [← hv.length]; exact hl
  have hb := b s us inK (by rw [List.append_nil]; exact hlu)
  rw [List.append_nil] at hb
  obtain ⟨t, h1, h2⟩ := go cdv (hr.deeper _) rfl
  exact run_def lk hc S hr e0 hv hl hb h1 h2
end
/-- the end of a law row -/
theorem walk_law {l : PySem.W.OpenLaw} {n : Nat} {q : Program} {loose : List Str} {XP : (Str → Option Value) → Heap → Prop} {YP : World → Heap → Prop} {d : DefRec} {K : Params → PySem.W.Frag}
    (hn : l.most = some n) (hn2 : n ≤ sizeLine) (hdf : d.params.defaults = []) (hY : ∀ (w : World) (h : Heap), YP w h → (K w.params).In h)
    (F : ∀ (w : World) (mg : Str → Option Value) (fa : Addr) (h : Heap), (K w.params).In h → h.Ns mainGlobals mg → mg d.name = some (.ref fa) →
      ∀ (base : Heap) (s : Shared) (H : Hp) (a : Addr) (ns : List Int), ns.length ≤ n → (∀ z ∈ ns, Builtin.Int.intBits z ≤ 1048576) → Env0 l.prog w (K w.params) mg base callerA [] s H → SqL (K w.params) H a (ns.map V.int) →
        codeAny (model l.prog w) callerA (.call (.ref fa) ⟨[.ref a], []⟩) (CR CX0 [] l.prog w H s (fun v _ => v = .bl true) E0) s) :
    PySem.W.WalkO q loose XP YP l.row.toRowW d [] (fun f vs => PySem.call f vs) := by
  refine Att.attach_callB hn hdf fun w s0 s mg mb fa o pm cd doc a vs ns G Y ho hd hcd hmg la ia hl hbits gs => ?_
  have inK := hY w _ Y
  exact law_in inK G.T.g G.T.b G.T.builtins G.T.nolimit gs la ia (Nat.le_trans hl hn2) fun base H e0 sq => F w mg fa _ inK G.T.g hmg base s H a ns hl hbits e0 sq
section
variable {K : PySem.W.Frag} {mg : Str → Option Value} {h : Heap}
theorem at_mk {x : Str} {st : Stmt} {ps : List Str} {f : Addr} {oc : Value} {od an : Option Addr} {osl : Array (Option Value)} {kV doc pm cdv ct : Value} (inK : K.In h) (G : h.Ns mainGlobals mg) (a : PySem.W.nsIn K mainGlobals x = some (some (.ref f)))
    (l : K.lookup f = some ⟨oc, od, .func (PySem.W.fnOf x x (defArgs st) (defBody st) (defScope st) .none kV doc pm an cdv ct), osl⟩) (c : PySem.W.codeIn K cdv x = true) (k : PySem.W.keepIn K (.ref f) = true)
    (b : ∀ (kV doc pm : Value) (an : Option Addr) (cdv ct : Value) (us : List Value), us.length = ps.length → bindArgs (PySem.W.fnOf x x (defArgs st) (defBody st) (defScope st) .none kV doc pm an cdv ct) ⟨us, []⟩ = pure (ps.zip us)) : At K mg x st ps :=
  ⟨f, _, fun_mk l c k, PySem.W.mg_of inK G a, (fun_mk l c k).binds b⟩
theorem xc_mk {x : Str} {C : Addr} (inK : K.In h) (G : h.Ns mainGlobals mg) (g : PySem.W.nsIn K mainGlobals x = some (some (.ref C))) (k : PySem.W.keepIn K (.ref C) = true)
    (q : PySem.W.excIn K C [.type "ValueError", .type "Exception", .type "BaseException", .type "object"] "ValueError.__new__" = true) (b : PySem.W.subIn K (.ref C) (.type "BaseException") = some true) (t : PySem.W.typeIn K (.ref C) = some (.type "type")) (c : PySem.W.isClsIn K C = true)
    (e1 : PySem.W.findIn K (.ref C) "__getattribute__" = some (some (.builtin "BaseException.__getattribute__"))) (e2 : PySem.W.findIn K (.ref C) "__getattr__" = some none) (e4 : PySem.W.hasDictIn K C = true) (e5 : PySem.W.findIn K (.ref C) "__class__" = some (some (.builtin "object.__class__")))
    (e6 : PySem.W.specialIn K (.builtin "object.__class__") "__get__" = some (some (.builtin "getset_descriptor.__get__"))) (e7 : PySem.W.takesIn K (.builtin "object.__class__") = some true) (e8 : PySem.W.mroIn K C (.type "object") = some true) : XC K mg x C :=
  ⟨PySem.W.mg_of inK G g, k, q, b, t, c, ⟨e1, e2, b, e4, e5, e6, e7, e8⟩⟩
theorem tup_mk {a : Addr} {items : Array Value} {dd : Option Addr} {n : Nat} {sl : Array (Option Value)} (l : K.lookup a = some ⟨.type "tuple", dd, .seq items n, sl⟩) : ∃ (dd : Option Addr) (n : Nat) (sl : Array (Option Value)), K.lookup a = some ⟨.type "tuple", dd, .seq items n, sl⟩ := ⟨_, _, _, l⟩
theorem tup2s_mk {a : Addr} {x y : Str} {t1 t2 : Tok} {dd : Option Addr} {n : Nat} {sl : Array (Option Value)} (l : K.lookup a = some ⟨.type "tuple", dd, .seq #[.str x t1, .str y t2] n, sl⟩) : ∃ (dd : Option Addr) (n : Nat) (sl : Array (Option Value)) (t1 t2 : Tok), K.lookup a = some ⟨.type "tuple", dd, .seq #[.str x t1, .str y t2] n, sl⟩ := ⟨_, _, _, _, _, l⟩
theorem kit_mk {D C : Addr} {b : Bool} (n : (Value.ref D == Value.ref C) = false) (c : PySem.W.isClsIn K C = true) (t : PySem.W.typeIn K (.ref C) = some (.type "type")) (s : PySem.W.subIn K (.ref D) (.ref C) = some b) : PySem.W.kitOne K (.ref D) (.ref C) = some b := by
  have e : ((PySem.W.clsIn K C).isSome && PySem.W.typeIn K (.ref C) == some (.type "type")) = true := by
    have c' : (PySem.W.clsIn K C).isSome = true := c
    rw [c', t] <;> rfl
  show (if (Value.ref D == Value.ref C) = true then some true else (if ((PySem.W.clsIn K C).isSome && PySem.W.typeIn K (.ref C) == some (.type "type")) = true then PySem.W.subIn K (.ref D) (.ref C) else none)) = some b
  rw [if_neg (by rw [n]; exact Bool.false_ne_true), if_pos e]
  exact s
theorem kit_same {K : PySem.W.Frag} {D : Addr} : PySem.W.kitOne K (.ref D) (.ref D) = some true := by
  show (if (Value.ref D == Value.ref D) = true then some true else _) = some true
  rw [if_pos (beq_self_eq_true _)]
end
end FK

/-! Own readings: loops and comprehensions over a walk, what stands in the heap behind them. -/
namespace FK
open PySem PySem.Spec PyProof.Rows L2
/-- all but what stands at d is as it was -/
def But (d : Addr) (H H' : Hp) : Prop := ∀ b o, b ≠ d → H b = some o → H' b = some o
theorem But.refl {d : Addr} {H : Hp} : But d H H := fun _ _ _ h => h
theorem But.trans {d : Addr} {H H1 H2 : Hp} (a : But d H H1) (b : But d H1 H2) : But d H H2 := fun c o n h => b c o n (a c o n h)
theorem But.of {d : Addr} {H H' : Hp} (a : Same H H') : But d H H' := fun c o _ h => a c o h
theorem But.upd {d : Addr} {H : Hp} {o : HO} : But d H (upd H d o) := fun c u n h => by rw [upd_ne n]; exact h
theorem same_new {H : Hp} {p : Addr} {o : HO} (h : H p = none) : Same H (upd H p o) := fun b u e => by
  have n : b ≠ p := fun z => by rw [z, h] at e; cases e
  rw [upd_ne n]
  exact e
theorem Same.tupS {K : PySem.W.Frag} {H H' : Hp} {a : Addr} {xs : List V} (e : Same H H') (h : SqT K H a xs) : SqT K H' a xs := by
  rcases h with (h | ⟨o, h⟩) | h
  · exact .inl (.inl (e _ _ h))
  · exact .inl (.inr ⟨o, e _ _ h⟩)
  · exact .inr h
/-- a for over a walk, what is walked told by hw -/
theorem rd_for {wi : TI} {g : TG} {tb : TS} {D : Ends} {σ : L2.St} {H H1 : Hp} {J : It} {n : Nat} {G : Hp → Prop} {Y : Nat → Hp → V → Hp → Prop} (hw : ∀ R : It → Hp → Prop, R J H1 → wi σ H R) (w : Walk J n G Y) (Pv : Nat → L2.St → Hp → Prop)
    (h0 : Pv 0 σ H1) (hG : ∀ i σ H, i ≤ n → Pv i σ H → G H)
    (hs : ∀ i x σ H H', i < n → Pv i σ H → Y i H x H' → g x σ H' fun σ2 H2 => tb { D with nx := Pv (i + 1), ct := Pv (i + 1), bk := D.nx } σ2 H2) (hd : ∀ σ H, Pv n σ H → D.nx σ H) : tFor wi g tb D σ H :=
  hw _ (for_it w Pv h0 hG hs hd)
/-- a comprehension over a walk, one plain name, no test: Pv by the turn, the items made and the heap; the new list stands at D, told apart -/
theorem rd_lc {wi : TI} {i : Nat} {te : TE} {vs : List Nat} {σ : L2.St} {H H1 : Hp} {J : It} {n : Nat} {G : Hp → Prop} {Y : Nat → Hp → V → Hp → Prop} {Q : VK} (hw : ∀ R : It → Hp → Prop, R J H1 → wi σ H R) (w : Walk J n G Y)
    (Pv : Nat → List V → Hp → Prop) (h0 : ∀ D, H1 D = none → Pv 0 [] (upd H1 D (.lst [])))
    (hk : ∀ D i acc y H, H1 D = none → H D = some (.lst acc) → Pv i (acc ++ [y]) H → Pv i (acc ++ [y]) (upd H D (.lst (acc ++ [y]))))
    (hG : ∀ i acc H, i ≤ n → Pv i acc H → G H) (hl : n < sizeLine)
    (hv : ∀ x, wipe ((wipe σ vs).set i (some x)) vs = wipe σ vs)
    (hs : ∀ D j x acc H H' (R : VK), H1 D = none → j < n → acc.length = j → Pv j acc H → H D = some (.lst acc) → Y j H x H' →
      (∀ y H4, H4 D = some (.lst acc) → Pv (j + 1) (acc ++ [y]) H4 → R y H4) → te ((wipe σ vs).set i (some x)) H' R)
    (hd : ∀ D acc H, H1 D = none → acc.length = n → Pv n acc H → H D = some (.lst acc) → Q (.ref D) H) : tLc wi (gName i) tYes te vs σ H Q := by
  refine hw _ fun D hD => ?_
  refine lc_it w (fun j H => ∃ acc, acc.length = j ∧ H D = some (.lst acc) ∧ Pv j acc H) ⟨[], rfl, upd_same, h0 D hD⟩ (fun j H hj ⟨acc, _, _, p⟩ => hG j acc H hj p) ?_ ?_
  · intro j x H' H'' hj ⟨acc, ha, hD2, p⟩ y
    refine ⟨hv x, ?_⟩
    simp only [tYes, if_true]
    refine hs D j x acc H' H'' _ hD hj ha p hD2 y fun y' H4 z1 z2 => ?_
    exact ⟨acc, z1, by omega, acc ++ [y'], by rw [List.length_append, ha]; rfl, upd_same, hk D _ acc y' H4 hD z1 z2⟩
  · intro H' ⟨acc, ha, hD2, p⟩
    exact hd D acc H' hD ha p hD2
/-- a comprehension whose items touch nothing: the list zs is made at a new place -/
theorem rd_lc_pure {wi : TI} {i : Nat} {te : TE} {vs : List Nat} {σ : L2.St} {H H1 : Hp} {J : It} {G : Hp → Prop} {Y : Nat → Hp → V → Hp → Prop} {Q : VK} (zs : List V) (hw : ∀ R : It → Hp → Prop, R J H1 → wi σ H R) (w : Walk J zs.length G Y)
    (hG : ∀ D o, H1 D = none → G (upd H1 D o)) (hl : zs.length < sizeLine) (hv : ∀ x, wipe ((wipe σ vs).set i (some x)) vs = wipe σ vs)
    (hs : ∀ D j x z H' H'' (R : VK), H1 D = none → zs[j]? = some z → H' = upd H1 D (.lst (zs.take j)) → Y j H' x H'' → R z H'' → te ((wipe σ vs).set i (some x)) H'' R)
    (hd : ∀ D, H1 D = none → Q (.ref D) (upd H1 D (.lst zs))) (hY : ∀ j H' x H'', Y j H' x H'' → H'' = H') : tLc wi (gName i) tYes te vs σ H Q := by
  have one : ∀ {D D2 : Addr} {o : HO} {u : HO}, H1 D = none → upd H1 D2 o D = some u → D = D2 := fun {D D2 o u} h1 h2 => by
    by_cases c : D = D2
    · exact c
    · rw [upd_ne c, h1] at h2; cases h2
  refine rd_lc hw w (fun j acc H' => ∃ D acc0, H1 D = none ∧ H' = upd H1 D (.lst acc0) ∧ acc = zs.take j) (fun D hD => ⟨D, [], hD, rfl, by simp⟩) ?_ ?_ hl hv ?_ ?_
  · rintro D j acc y H' hD hD2 ⟨D2, acc0, hD3, rfl, e⟩
    have e2 := one hD hD2
    subst e2
    exact ⟨D, _, hD, upd_upd, e⟩
  · rintro j acc H' _ ⟨D, acc0, hD, rfl, _⟩
    exact hG D _ hD
  · rintro D j x acc H' H'' R hD hj ha ⟨D2, acc0, hD3, rfl, rfl⟩ hD2 y go
    have e2 := one hD hD2
    subst e2
    rw [upd_same] at hD2
    cases hD2
    have e3 := hY _ _ _ _ y
    subst e3
    refine hs D j x zs[j] _ _ R hD (List.getElem?_eq_getElem hj) rfl y ?_
    exact go zs[j] _ upd_same ⟨D, _, hD, rfl, by rw [List.take_add_one, List.getElem?_eq_getElem hj]; rfl⟩
  · rintro D acc H' hD ha ⟨D2, acc0, hD3, rfl, rfl⟩ hD2
    have e2 := one hD hD2
    subst e2
    rw [upd_same] at hD2
    cases hD2
    rw [List.take_length]
    exact hd D hD
theorem same_at {H H' : Hp} {p : Addr} {o : HO} (h : H p = none) (s : Same H H') : Same H (upd H' p o) := fun b u e => by
  have n : b ≠ p := fun z => by rw [z, h] at e; cases e
  rw [upd_ne n]
  exact s b u e
/-- a comprehension whose items only lay new things: the list zs is made -/
theorem rd_lc_same {wi : TI} {i : Nat} {te : TE} {vs : List Nat} {σ : L2.St} {H H1 : Hp} {J : It} {G : Hp → Prop} {Y : Nat → Hp → V → Hp → Prop} {Q : VK} (zs : List V) (hw : ∀ R : It → Hp → Prop, R J H1 → wi σ H R) (w : Walk J zs.length G Y)
    (hG : ∀ H', Same H1 H' → G H') (hl : zs.length < sizeLine) (hv : ∀ x, wipe ((wipe σ vs).set i (some x)) vs = wipe σ vs)
    (hs : ∀ j x z H' H'' (R : VK), zs[j]? = some z → Same H1 H' → Y j H' x H'' → (∀ H4, Same H'' H4 → R z H4) → te ((wipe σ vs).set i (some x)) H'' R)
    (hd : ∀ D H', H1 D = none → Same H1 H' → H' D = some (.lst zs) → Q (.ref D) H') (hY : ∀ j H' x H'', Y j H' x H'' → Same H' H'') : tLc wi (gName i) tYes te vs σ H Q := by
  refine rd_lc hw w (fun j acc H' => Same H1 H' ∧ acc = zs.take j) (fun D hD => ⟨same_new hD, by simp⟩) ?_ ?_ hl hv ?_ ?_
  · rintro D j acc y H' hD hD2 ⟨s, e⟩
    exact ⟨same_at hD s, e⟩
  · rintro j acc H' _ ⟨s, _⟩
    exact hG _ s
  · rintro D j x acc H' H'' R hD hj ha ⟨s, rfl⟩ hD2 y go
    refine hs j x zs[j] _ _ R (List.getElem?_eq_getElem hj) s y fun H4 s4 => ?_
    have s5 := (hY _ _ _ _ y).trans s4
    exact go zs[j] _ (s5 _ _ hD2) ⟨s.trans s5, by rw [List.take_add_one, List.getElem?_eq_getElem hj]; rfl⟩
  · rintro D acc H' hD ha ⟨s, rfl⟩ hD2
    rw [List.take_length] at hD2
    exact hd D H' hD s hD2
/-- a comprehension with a test whose items touch nothing -/
theorem rd_lc_filter {wi : TI} {i : Nat} {tt : TT} {te : TE} {vs : List Nat} {σ : L2.St} {H H1 : Hp} {J : It} {G : Hp → Prop} {Q : VK} (xs : List V) (p : V → Bool) (f : V → V) (hw : ∀ R : It → Hp → Prop, R J H1 → wi σ H R) (w : Walk J xs.length G (YAt xs))
    (hG : ∀ D o, H1 D = none → G (upd H1 D o)) (hl : xs.length < sizeLine) (hv : ∀ x, wipe ((wipe σ vs).set i (some x)) vs = wipe σ vs)
    (ht : ∀ x H' (R : Bool → Hp → Prop), x ∈ xs → R (p x) H' → tt ((wipe σ vs).set i (some x)) H' R)
    (hs : ∀ x H' (R : VK), x ∈ xs → p x = true → R (f x) H' → te ((wipe σ vs).set i (some x)) H' R)
    (hd : ∀ D, H1 D = none → Q (.ref D) (upd H1 D (.lst ((xs.filter p).map f)))) : tLc wi (gName i) tt te vs σ H Q := by
  refine hw _ fun D hD => ?_
  refine lc_it w (fun j H' => H' = upd H1 D (.lst (((xs.take j).filter p).map f))) (by simp) (fun j H' hj e => by rw [e]; exact hG D _ hD) ?_ ?_
  · rintro j x H' H'' hj rfl ⟨rfl, hx⟩
    have hm : x ∈ xs := List.mem_of_getElem? hx
    have et : xs.take (j + 1) = xs.take j ++ [x] := by rw [List.take_add_one, hx]; rfl
    refine ⟨hv x, ht x _ _ hm ?_⟩
    cases e : p x with
    | true =>
      refine iteT (hs x _ _ hm e ⟨_, upd_same, ?_, ?_⟩)
      · rw [List.length_map]
        exact Nat.lt_of_le_of_lt (Nat.le_trans (List.length_filter_le _ _) (by rw [List.length_take]; exact Nat.min_le_right _ _)) hl
      · rw [upd_upd, et, List.filter_append, List.map_append]
        simp [e]
    | false =>
      refine iteF ?_
      rw [et, List.filter_append]
      simp [e]
  · rintro H' rfl
    rw [List.take_length]
    exact hd D hD
end FK

/-! Own kit: methods of own classes bundled with where they stand, calls of them, instances made. -/
namespace FK
open PySem PySem.Spec PyProof.Rows L2
section
variable {P : Program} {w : World} {K : PySem.W.Frag} {mg : Str → Option Value} {base : Heap}
/-- the method m (with its full name q) of the class at C is the def of the statement st -/
def MAt (K : PySem.W.Frag) (C : Addr) (m q : Str) (st : Stmt) (ps : List Str) : Prop :=
  ∃ (f : Addr) (fd : FuncData), Fun K m q st f fd ∧ Meth K C m f ∧ Binds K fd ps []
/-- the same of __init__ -/
def IAt (K : PySem.W.Frag) (C : Addr) (q : Str) (st : Stmt) (ps : List Str) : Prop :=
  ∃ (f : Addr) (fd : FuncData), Fun K "__init__" q st f fd ∧ Mk K C f ∧ Binds K fd ps []
def MHas (P : Program) (w : World) (K : PySem.W.Frag) (mg : Str → Option Value) (base : Heap) (CX : CXT) (k : Nat) (C : Addr) (m : Str) (ps : List Str) (sp : Sp) : Prop :=
  ∃ (f : Addr) (fd : FuncData), FnOk P w K mg base CX k f fd ps sp ∧ Meth K C m f ∧ Binds K fd ps []
def IHas (P : Program) (w : World) (K : PySem.W.Frag) (mg : Str → Option Value) (base : Heap) (CX : CXT) (k : Nat) (C : Addr) (ps : List Str) (sp : Sp) : Prop :=
  ∃ (f : Addr) (fd : FuncData), FnOk P w K mg base CX k f fd ps sp ∧ Mk K C f ∧ Binds K fd ps []
theorem MHas.mono {CX : CXT} {j k : Nat} {C : Addr} {m : Str} {ps : List Str} {sp : Sp} (h : MHas P w K mg base CX j C m ps sp) (hk : j ≤ k) : MHas P w K mg base CX k C m ps sp := by
  obtain ⟨f, fd, h1, h2⟩ := h
  exact ⟨f, fd, h1.mono hk, h2⟩
theorem MAt.ok {C : Addr} {m q : Str} {st : Stmt} {N ps : List Str} {k : Nat} {sp : Sp} (D : MAt K C m q st ps) (S : FnScope N ps (defScope st)) (len : ∀ vs H Q E, sp vs H Q E → vs.length = ps.length)
    (hbody : ∀ (f : Addr) (cdv : Value) (A : Around) (outer : List Env) (s : Shared) (H : Hp) (vs : List V) (Q : VK) (E : XK), Room k (A.deeper (envOfC q (defScope st) s.heap.objs.size f cdv)) → sp vs H Q E →
      ∃ t, PSs (cxOf CX0 P w K mg base N q (defScope st) f cdv A outer s H E).nox (defBody st) t ∧ t { nx := fun _ H' => Q .non H', rt := Q } (start N vs) H) : MHas P w K mg base CX0 (k + 1) C m ps sp := by
  obtain ⟨f, fd, F, g, b⟩ := D
  exact ⟨f, fd, F.ok S len (hbody f), g, b⟩
theorem MAt.okX {C : Addr} {m q : Str} {st : Stmt} {N ps : List Str} {k : Nat} {sp : Sp} (D : MAt K C m q st ps) (S : FnScope N ps (defScope st)) (len : ∀ vs H Q E, sp vs H Q E → vs.length = ps.length)
    (hbody : ∀ (f : Addr) (cdv : Value) (A : Around) (outer : List Env) (s : Shared) (H : Hp) (vs : List V) (Q : VK) (E : XK), Room k (A.deeper (envOfC q (defScope st) s.heap.objs.size f cdv)) → sp vs H Q E →
      ∃ t, PSs (cxOf (L2.CX P w) P w K mg base N q (defScope st) f cdv A outer s H E) (defBody st) t ∧ t { nx := fun _ H' => Q .non H', rt := Q } (start N vs) H) : MHas P w K mg base (L2.CX P w) (k + 1) C m ps sp := by
  obtain ⟨f, fd, F, g, b⟩ := D
  exact ⟨f, fd, F.okX S len (hbody f), g, b⟩
theorem IAt.ok {C : Addr} {q : Str} {st : Stmt} {N ps : List Str} {k : Nat} {sp : Sp} (D : IAt K C q st ps) (S : FnScope N ps (defScope st)) (len : ∀ vs H Q E, sp vs H Q E → vs.length = ps.length)
    (hbody : ∀ (f : Addr) (cdv : Value) (A : Around) (outer : List Env) (s : Shared) (H : Hp) (vs : List V) (Q : VK) (E : XK), Room k (A.deeper (envOfC q (defScope st) s.heap.objs.size f cdv)) → sp vs H Q E →
      ∃ t, PSs (cxOf CX0 P w K mg base N q (defScope st) f cdv A outer s H E).nox (defBody st) t ∧ t { nx := fun _ H' => Q .non H', rt := Q } (start N vs) H) : IHas P w K mg base CX0 (k + 1) C ps sp := by
  obtain ⟨f, fd, F, g, b⟩ := D
  exact ⟨f, fd, F.ok S len (hbody f), g, b⟩
end
section
variable {X : Cx} {k : Nat} {x m : Str} {C : Addr} {ps : List Str} {sp : Sp} {p pos apos : Pos} {o e : Expr} {es : List Expr} {t : TA} {ta : TE}
/-- o.m(e, ..) -/
theorem pe_m {CX : CXT} {E : XK} {pl : Sem Bool} (he : PE X o ta) (c : Cls X.K C) (h : MHas X.prog X.w X.K X.mg X.base CX k C m ps sp) (hr : Room k X.A) (hx : Passes CX X E) (ha : PA X (e :: es) t)
    (hst : starEach (e :: es) X.env = (false, eval e X.env) :: starEach es X.env := by rfl) (hpl : (backTo pos (starEach es X.env)).any (·.1) = false := by rfl)
    (ht : eval (.Call (.Attribute o m apos) (e :: es) [] pos) X.env = (do
      let ov ← eval o X.env
      standAt apos.atName
      let (f, first) ← holding [ov] (getMethod ov m pl)
      callWith pos f first (backTo pos (starEach (e :: es) X.env)) (backToKw pos (keywordEach [] X.env))) := by rfl) :
    PE X (.Call (.Attribute o m apos) (e :: es) [] pos) (tMeth C m sp [] E ta t) := by
  obtain ⟨f, fd, F, g, b⟩ := h
  exact pe_meth he c g F hr b .nil hx ha hst hpl ht
theorem pe_m0 {CX : CXT} {E : XK} {pl : Sem Bool} (he : PE X o ta) (c : Cls X.K C) (h : MHas X.prog X.w X.K X.mg X.base CX k C m ps sp) (hr : Room k X.A) (hx : Passes CX X E)
    (ht : eval (.Call (.Attribute o m apos) [] [] pos) X.env = (do
      let ov ← eval o X.env
      standAt apos.atName
      let (f, first) ← holding [ov] (getMethod ov m pl)
      callWith pos f first (backTo pos (starEach [] X.env)) (backToKw pos (keywordEach [] X.env))) := by rfl) :
    PE X (.Call (.Attribute o m apos) [] [] pos) (tMeth C m sp [] E ta tNil) := by
  obtain ⟨f, fd, F, g, b⟩ := h
  exact pe_meth0 he c g F hr b .nil hx ht
/-- C(e, ..) -/
theorem pe_i {CX : CXT} {E : XK} (h : IHas X.prog X.w X.K X.mg X.base CX k C ps sp) (hr : Room (k + 1) X.A) (hm : X.mg x = some (.ref C)) (hx : Passes CX X E) (ha : PA X (e :: es) t) (hg : Gl X x := by rfl)
    (hdb : (x == ("__debug__" : Str)) = false := by decide) (he : starEach (e :: es) X.env = (false, eval e X.env) :: starEach es X.env := by rfl) (hpl : (backTo pos (starEach es X.env)).any (·.1) = false := by rfl) :
    PE X (.Call (.Name x p) (e :: es) [] pos) (tMake C sp [] E t) := by
  obtain ⟨f, fd, F, M, b⟩ := h
  exact pe_make M F hr hg hm b .nil hx ha hdb he hpl
end
section
variable {K : PySem.W.Frag} {mg : Str → Option Value} {h : Heap}
theorem mat_mk {C : Addr} {m q : Str} {st : Stmt} {ps : List Str} {f : Addr} {oc : Value} {od an : Option Addr} {osl : Array (Option Value)} {kV doc pm cdv ct : Value}
    (a : PySem.W.findIn K (.ref C) m = some (some (.ref f))) (i : PySem.W.isFn K (.ref f) = true)
    (l : K.lookup f = some ⟨oc, od, .func (PySem.W.fnOf m q (defArgs st) (defBody st) (defScope st) .none kV doc pm an cdv ct), osl⟩) (c : PySem.W.codeIn K cdv q = true) (k : PySem.W.keepIn K (.ref f) = true)
    (b : ∀ (kV doc pm : Value) (an : Option Addr) (cdv ct : Value) (us : List Value), us.length = ps.length → bindArgs (PySem.W.fnOf m q (defArgs st) (defBody st) (defScope st) .none kV doc pm an cdv ct) ⟨us, []⟩ = pure (ps.zip us)) : MAt K C m q st ps :=
  ⟨f, _, fun_mk (st := st) l c k, ⟨a, i, k⟩, Binds.all fun us hl => b _ _ _ _ _ _ us hl⟩
theorem noattr_mk {C : Addr} {f : Str} (h : PySem.W.findIn K (.ref C) f = some none) : NoAttr K C f := h
theorem iat_mk {C : Addr} {q : Str} {st : Stmt} {ps : List Str} {f : Addr} {oc : Value} {od an : Option Addr} {osl : Array (Option Value)} {kV doc pm cdv ct : Value}
    (mk : PySem.W.makesIn K C = true) (a : PySem.W.findIn K (.ref C) "__init__" = some (some (.ref f))) (i : PySem.W.isFn K (.ref f) = true) (kc : PySem.W.keepIn K (.ref C) = true)
    (l : K.lookup f = some ⟨oc, od, .func (PySem.W.fnOf "__init__" q (defArgs st) (defBody st) (defScope st) .none kV doc pm an cdv ct), osl⟩) (c : PySem.W.codeIn K cdv q = true) (k : PySem.W.keepIn K (.ref f) = true)
    (b : ∀ (kV doc pm : Value) (an : Option Addr) (cdv ct : Value) (us : List Value), us.length = ps.length → bindArgs (PySem.W.fnOf "__init__" q (defArgs st) (defBody st) (defScope st) .none kV doc pm an cdv ct) ⟨us, []⟩ = pure (ps.zip us)) : IAt K C q st ps :=
  ⟨f, _, fun_mk (st := st) l c k, ⟨mk, a, i, kc⟩, Binds.all fun us hl => b _ _ _ _ _ _ us hl⟩
end
end FK

/-! Own rules: a text backwards, the least text of a list, zip of a text and a tuple. -/
namespace FK
open PySem PySem.Spec PyProof.Rows L2
/-! ### z[::-1], z a text -/
def revS (z : Str) : Str := ⟨z.cps.toList.reverse.toArray⟩
def tRevS (te : TE) : TE := fun σ H Q => te σ H fun x H1 => ∃ z, x = .str z ∧ z.length ≤ sizeLine ∧ Q (.str (revS z)) H1
theorem revS_pick (z : Str) : (⟨((Builtin.Str.strSliceIndices none none (-1) z.length).filterMap (z.cps[·]?)).toArray⟩ : Str) = revS z := by
  have e : Builtin.Str.strSliceIndices none none (-1) z.length = (List.range z.cps.size).reverse := by
    show sliceRange ((z.length : Int) - 1) (-1) (-1) = _
    rw [PySem.W.krv_sliceRange, PySem.W.krv_range]
    rfl
  rw [e, List.filterMap_reverse, PySem.W.krv_all]
  rfl
theorem pe_revS {X : Cx} {e : Expr} {te : TE} {k : Nat} {p1 p2 p3 pos : Pos} (he : PE X e te) : PE X (.Subscript e (.Slice none none (some (.UnaryOp .USub (.Constant (.int 1) k p1) p2)) p3) pos) (tRevS te) := by
  refine ⟨fun pins s σ H Q I h => ?_⟩
  refine Subscript_ (thn (he.run pins s σ H _ I h) fun v s1 ⟨x, H1, I1, r1, q1⟩ => ?_)
  obtain ⟨z, ex, hz, q⟩ := q1
  subst ex
  obtain ⟨tz, rfl⟩ := r1
  have hst : PO X (some (.UnaryOp .USub (.Constant (.int 1) k p1) p2)) (tPart (tUn (rU fun i => .int (-i)) (tC (.int 1)))) := po_some (pe_un un_neg pe_int)
  refine wpAny_Slice (thn (po_none.run pins s1 σ H1 (fun o H2 => o = none ∧ H2 = H1) I1 ⟨rfl, rfl⟩) fun vl s2 ⟨l, H2, I2, pl, el, e2⟩ => ?_)
  subst el e2
  refine thn (po_none.run pins s2 σ H2 (fun o H3 => o = none ∧ H3 = H2) I2 ⟨rfl, rfl⟩) fun vu s3 ⟨u, H3, I3, pu, eu, e3⟩ => ?_
  subst eu e3
  refine thn (hst.run pins s3 σ H3 (fun o H4 => o = some (-1) ∧ H4 = H3) I3 ⟨1, rfl, -1, rfl, rfl, rfl⟩) fun vs s4 ⟨o, H4, I4, ps, eo, e4⟩ => ?_
  subst eo e4
  have I5 : Inv X pins σ H4 { s4 with heap := s4.heap.push { cls := .type "slice", data := .fields #[vl, vu, vs] } } := I4.kept (t' := s4.toks) fun b ob q => Heap.get?_push_of_some _ q
  show wpAny (model X.prog X.w) X.A (subscriptTail e (.Slice none none (some (.UnaryOp .USub (.Constant (.int 1) k p1) p2)) p3) (.str z tz) (.ref s4.heap.objs.size)) (EP X pins σ Q) X.xe { s4 with heap := s4.heap.push { cls := .type "slice", data := .fields #[vl, vu, vs] } }
  refine tail_any (ops := [.str z tz, .ref s4.heap.objs.size]) (typeIs_str _ _ _) PySem.F.slot_str_getitem.lookup ?_ (by with_unfolding_all rfl)
  obtain ⟨l, rfl, hl⟩ := IsPart.raw pl
  obtain ⟨u, rfl, hu⟩ := IsPart.raw pu
  obtain ⟨st, rfl, hs⟩ := IsPart.raw ps
  have el : l = none := by cases l <;> simp_all
  have eu : u = none := by cases u <;> simp_all
  subst el eu
  refine wpAny_getItem_str_slice (l := none) (u := none) (st := st) ⟨_, Heap.get?_push_size _ rfl, rfl, rfl⟩ (by rw [hs]; rfl) ?_
  have e1 : (st.map (·.1)).getD 1 = (-1 : Int) := by rw [hs]; rfl
  have hne : ¬ (((st.map (·.1)).getD 1 == 1 && (slicePicked z none none st).length == z.length) = true) := by rw [e1]; simp
  have ep : (⟨((slicePicked z none none st).filterMap (z.cps[·]?)).toArray⟩ : Str) = revS z := by
    rw [← revS_pick z]
    unfold slicePicked
    rw [e1]
    rfl
  unfold sliceMade
  rw [if_neg hne, ep]
  exact ⟨by show (z.cps.toList.reverse.toArray.size) ≤ sizeLine; rw [List.size_toArray, List.length_reverse, Array.length_toList]; exact hz, .str _, H4, I5.tok _, ⟨_, rfl⟩, q⟩
/-! ### min(xs), xs a list of texts -/
def txts (xs : List Str) (i : Nat) : List Nat := (xs.getD i Str.empty).cps.toList
theorem strs_lt {prog : Program} {w : World} {A : Around} {P : Nat → Value → Prop} (val : Nat → Str) (hval : ∀ i v, P i v → ∃ t, v = .str (val i) t) :
    CmpOf prog w A .Lt P (fun i j => decide ((val i).cps.toList < (val j).cps.toList)) := fun i j vi vj s Q E hi hj h => by
  obtain ⟨t, rfl⟩ := hval i vi hi
  obtain ⟨u, rfl⟩ := hval j vj hj
  exact richCompare_gives (op := .Lt) (typeIs_str s _ t) (typeIs_str s _ u) PySem.F.slot_str_lt PySem.F.entry_str_lt (PySem.F.args_str_lt_2 _ _) (gives_str_lt _ _ t u) (fun x => nomatch x) h
theorem argBest_le (bt : Nat → Nat → Bool) (k : Nat) : argBest bt k ≤ k := by
  induction k with
  | zero => exact Nat.le_refl _
  | succ k ih =>
    show (if bt (k + 1) (argBest bt k) then k + 1 else argBest bt k) ≤ k + 1
    split
    · exact Nat.le_refl _
    · omega
theorem argBest_str (val : Nat → List Nat) (k : Nat) : ∀ j, j ≤ k → ¬ val j < val (argBest (fun i j => decide (val i < val j)) k) := by
  induction k with
  | zero => intro j hj; obtain rfl : j = 0 := by omega
            exact List.lt_irrefl _
  | succ k ih =>
    intro j hj
    show ¬ val j < val (if decide (val (k + 1) < val (argBest (fun i j => decide (val i < val j)) k)) = true then k + 1 else argBest (fun i j => decide (val i < val j)) k)
    split
    · rename_i c
      have c := of_decide_eq_true c
      rcases Nat.lt_or_ge k j with h | h
      · obtain rfl : j = k + 1 := by omega
        exact List.lt_irrefl _
      · exact fun h2 => ih j h (List.lt_trans h2 c)
    · rename_i c
      have c : ¬ val (k + 1) < _ := fun z => c (decide_eq_true z)
      rcases Nat.lt_or_ge k j with h | h
      · obtain rfl : j = k + 1 := by omega
        exact c
      · exact ih j h
def rMinS (K : PySem.W.Frag) : List V → Hp → VK → Prop := fun vs H Q => ∃ (a : Addr) (xs : List Str), vs = [V.ref a] ∧ SqL K H a (xs.map V.str) ∧ 0 < xs.length ∧
  ∀ m, m ∈ xs → (∀ y, y ∈ xs → ¬ y.cps.toList < m.cps.toList) → Q (.str m) H
theorem cr_minS {X : Cx} (hc : X.calm = true) : CallR X (.builtin "min") (rMinS X.K) := by
  intro pins s σ H vs us Q I r h
  obtain ⟨a, xs, rfl, hs, hne, q⟩ := h
  obtain ⟨its, rv, hl0, _⟩ := I.list hs
  have hl := hl0.isList
  rw [Vals.ref1 r]
  have hlen : its.length = xs.length := by rw [← rv.length, List.length_map]
  have hval : ∀ (i : Nat) (v : Value), its.toArray[i]? = some v → ∃ t, v = Value.str (xs.getD i Str.empty) t := fun i v e => by
    rw [List.getElem?_toArray] at e
    have hi : i < its.length := (List.getElem?_eq_some_iff.mp e).1
    have hx : (xs.map V.str)[i]? = some (.str (xs.getD i Str.empty)) := by
      rw [List.getElem?_map, List.getD_eq_getElem?_getD, List.getElem?_eq_getElem (by omega)]
      rfl
    obtain ⟨u, hu, ru⟩ := rv.get hx
    rw [e] at hu
    cases hu
    exact ru
  have hlt : a < s.heap.objs.size := by obtain ⟨_, e, _⟩ := hl; exact Heap.lt_size e
  have hsz : 0 < its.toArray.size := by rw [List.size_toArray]; omega
  refine call_min_walk (wpAny_pyIter_list hl ?_)
  refine ⟨_, _, _, _, _, _, _, rfl, Walks.list (A := X.A.in1) (I.ok.hd hc) _ a (Nat.ne_of_lt hlt) its.toArray, ⟨⟨_, Heap.get?_push_size _ rfl, rfl, rfl⟩, hl.push _⟩, fun b hb => ?_, hsz, strs_lt (fun i => xs.getD i Str.empty) hval, fun v h' tk hP hk => ?_⟩
  · show b < (s.heap.push _).objs.size
    rw [Heap.size_push]
    rcases List.mem_cons.mp hb with e | hb
    · rw [e]
      exact Nat.lt_succ_self _
    · rw [List.mem_singleton.mp hb]
      exact Nat.lt_succ_of_lt hlt
  · obtain ⟨t, rfl⟩ := hval _ v hP
    have b2 := argBest_str (fun i => (xs.getD i Str.empty).cps.toList) (its.toArray.size - 1)
    have b1 := argBest_le (fun i j => decide ((xs.getD i Str.empty).cps.toList < (xs.getD j Str.empty).cps.toList)) (its.toArray.size - 1)
    rw [List.size_toArray] at b1 b2 hsz ⊢
    refine ⟨.str _, H, I.kept (t' := tk) fun b u e => hk b u (fun hmem => ?_) (Heap.get?_push_of_some _ e), ⟨t, rfl⟩, q _ ?_ fun y hy => ?_⟩
    · have e1 : b = s.heap.objs.size := by simpa using hmem
      have e2 := Heap.lt_size e
      rw [e1] at e2
      exact absurd e2 (Nat.lt_irrefl _)
    · rw [List.getD_eq_getElem?_getD, List.getElem?_eq_getElem (show _ < xs.length by omega)]
      exact List.getElem_mem _
    · obtain ⟨i, hi, e⟩ := List.mem_iff_getElem.mp hy
      have e2 : xs.getD i Str.empty = y := by rw [List.getD_eq_getElem?_getD, List.getElem?_eq_getElem hi, ← e] <;> rfl
      have := b2 i (by omega)
      rw [e2] at this
      exact this
/-! ### zip(z, t), z a text and t a tuple -/
def ItzS (K : PySem.W.Frag) (x : Str) (b : Addr) : It :=
  ⟨fun i H => ∃ (ys : List V) (c : Nat) (y : V), SqT K H b ys ∧ x.cps[i]? = some c ∧ ys[i]? = some y,
    fun i H v H' => ∃ T c y, v = .ref T ∧ H T = none ∧ H' = upd H T (.tup [.str ⟨#[c]⟩, y]) ∧ x.cps[i]? = some c ∧ ∀ ys, SqT K H b ys → ys[i]? = some y,
    fun i H => ∃ ys : List V, SqT K H b ys ∧ i ≤ x.cps.size ∧ i ≤ ys.length ∧ (i = x.cps.size ∨ i = ys.length)⟩
structure ZA (z TI TO i1 i2 b : Addr) : Prop where
  a1 : TI ≠ z
  a2 : TO ≠ z
  a3 : TI ≠ TO
  a4 : TI ≠ i1
  a5 : i1 ≠ z
  a6 : i1 ≠ TO
  a7 : TI ≠ i2
  a8 : i2 ≠ z
  a9 : i2 ≠ TO
  b1 : i1 ≠ i2
  b2 : b ≠ z
  b3 : b ≠ TO
  b4 : b ≠ i1
  b5 : b ≠ i2
theorem za_of (n b : Nat) (h : b < n) : ZA (n + 4) (n + 2) (n + 3) n (n + 1) b :=
  ⟨(show (n + 2 : Nat) ≠ n + 4 by omega), (show (n + 3 : Nat) ≠ n + 4 by omega), (show (n + 2 : Nat) ≠ n + 3 by omega), (show (n + 2 : Nat) ≠ n by omega), (show (n : Nat) ≠ n + 4 by omega), (show (n : Nat) ≠ n + 3 by omega), (show (n + 2 : Nat) ≠ n + 1 by omega),
    (show (n + 1 : Nat) ≠ n + 4 by omega), (show (n + 1 : Nat) ≠ n + 3 by omega), (show (n : Nat) ≠ n + 1 by omega), (show (b : Nat) ≠ n + 4 by omega), (show (b : Nat) ≠ n + 3 by omega), (show (b : Nat) ≠ n by omega), (show (b : Nat) ≠ n + 1 by omega)⟩
theorem ZA.sep {z TI TO i1 i2 b : Addr} (D : ZA z TI TO i1 i2 b) : ZipSep2 z TI TO i1 i2 [i1] [i2, b] :=
  ⟨D.a1, D.a2, D.a3, D.a4, by simp, by simpa using D.a5.symm, by simpa using D.a6.symm, D.a7, by simp, by simpa using ⟨D.a8.symm, D.b2.symm⟩, by simpa using ⟨D.a9.symm, D.b3.symm⟩, by simpa using ⟨D.b1, D.b4.symm⟩, by simpa using D.b1.symm⟩
theorem turn_zipST {P : Program} {w : World} {K : PySem.W.Frag} {elts : List Expr} {kk : Nat} {tpos : Pos} {x : Str} {t : Tok} {b z TI TO i1 i2 : Addr} (D : ZA z TI TO i1 i2 b) :
    Turn P w K (.Tuple elts kk tpos) (ItzS K x b) [z, TI, TO, i1, i2] z (fun i h => IsZip h z TI TO .none ∧ IsTupOf2 h TI (.ref i1) (.ref i2) ∧ (∃ x y, IsTupOf2 h TO x y) ∧ h.IsStrIter i1 (strIterType x) x t i ∧ h.IsTupleIter i2 b i) where
  mem := by simp
  obj := fun i h st c hc => by
    obtain ⟨hz, hTI, ⟨x, y, hTO⟩, ⟨o1, e1, _, d1⟩, ⟨o2, e2, _, d2⟩⟩ := st
    have e' : c = z ∨ c = TI ∨ c = TO ∨ c = i1 ∨ c = i2 := by simpa using hc
    rcases e' with q | q | q | q | q
    · rw [q]; exact ⟨_, hz, fun v q => nomatch q⟩
    · rw [q]; exact ⟨_, hTI, fun v q => nomatch q⟩
    · rw [q]; exact ⟨_, hTO, fun v q => nomatch q⟩
    · rw [q]; exact ⟨o1, e1, fun v q => by rw [d1] at q; cases q⟩
    · rw [q]; exact ⟨o2, e2, fun v q => by rw [d2] at q; cases q⟩
  keep := fun i h h' st k => by
    obtain ⟨hz, hTI, ⟨x, y, hTO⟩, ⟨o1, e1, r1⟩, h2⟩ := st
    exact ⟨k z (by simp) _ hz, k TI (by simp) _ hTI, ⟨x, y, k TO (by simp) _ hTO⟩, ⟨o1, k i1 (by simp) o1 e1, r1⟩, h2.at fun o q => k i2 (by simp) o q⟩
  item := by
    intro X hP hw hK hc i pins s σ H E I hf st hg
    subst hP hw hK
    obtain ⟨hz, hTI, ⟨x0, y0, hTO⟩, h1, h2⟩ := st
    obtain ⟨ys, c, y, hqy, hcx, hy⟩ := hg
    obtain ⟨its2, rv2, p2, _⟩ := I.tuple hqy
    obtain ⟨u2, hu2, ru2⟩ := rv2.get hy
    have hzl : z < s.heap.objs.size := Heap.lt_size hz
    have hh : X.A.in1.handled = none := I.ok.hd hc
    have l1 : i < x.cps.size := (Array.getElem?_eq_some_iff.mp hcx).1
    have l2 : i < its2.toArray.size := by rw [List.size_toArray]; exact (List.getElem?_eq_some_iff.mp hu2).1
    have pT : s.heap.IsTuple b its2.toArray := p2
    refine wpAny_pyNext_zipD2_item D.sep (Draws.text hh i1 x t) (Draws.tuple hh i2 b D.b5 its2.toArray) hz hTI hTO h1 ⟨h2, pT⟩ l1 l2 fun x1 x2 h' tk y1 y2 z' TO' h1' h2' hT hsz hk => ?_
    obtain ⟨c', u1, hc', rfl⟩ := y1
    rw [hcx] at hc'
    cases hc'
    have e2 : x2 = u2 := by
      have : its2.toArray[i]? = some x2 := y2
      rw [List.getElem?_toArray, hu2] at this
      exact (Option.some.inj this).symm
    subst e2
    refine ⟨_, rfl, wpAny_letOwnedTupleGo_zip (s := { s with heap := h', toks := tk }) z' fun h'' z'' sb => ?_⟩
    have hT2 : h''.get? s.heap.objs.size = some { cls := .type "tuple", data := .seq #[.str ⟨#[c]⟩ u1, x2] } := (sb.2 _ (Nat.ne_of_gt hzl)).trans hT
    have new : ObjOk X.prog X.w (upd H s.heap.objs.size (.tup [.str ⟨#[c]⟩, y])) h'' s.heap.objs.size (.tup [.str ⟨#[c]⟩, y]) :=
      ⟨by show 2 ≤ sizeLine; decide, [.str ⟨#[c]⟩ u1, x2], .cons ⟨u1, rfl⟩ (.cons ru2 .nil), ⟨_, hT2, rfl, _, rfl⟩⟩
    have I1 : Inv X pins σ (upd H s.heap.objs.size (.tup [.str ⟨#[c]⟩, y])) { s with heap := h'', toks := tk } :=
      I.turnedNew (t' := tk) (ch := [z, TI, TO, i1, i2]) (fun c o hb q => (sb.2 c (fun q' => hb (by simp [q']))).trans (hk c o (fun q' => hb (by simp [q'])) (fun q' => hb (by simp [q'])) (fun q' => hb (by simp [q'])) (fun q' => hb (by simp [q'])) q)) hf (Nat.le_refl _) new
    refine ⟨.ref s.heap.objs.size, _, I1, rfl, ⟨_, c, y, rfl, I.hok.fresh (Nat.le_refl _), rfl, hcx, fun l hl => by rw [I.tuple_inj hl hqy]; exact hy⟩, ⟨z'', ?_, ⟨.str ⟨#[c]⟩ u1, x2, ?_⟩, ?_, ?_⟩, fun c hcm => ?_⟩
    · exact (sb.2 _ D.a1).trans (hk _ _ D.a1 D.a3 D.a4 D.a7 hTI)
    · exact (sb.2 _ D.a2).trans TO'
    · obtain ⟨o, ho, r⟩ := h1'
      exact ⟨o, (sb.2 _ D.a5).trans ho, r⟩
    · exact h2'.1.at fun o q => (sb.2 _ D.a8).trans q
    · have hlt : c < s.heap.objs.size := by
        have e' : c = z ∨ c = TI ∨ c = TO ∨ c = i1 ∨ c = i2 := by simpa using hcm
        rcases e' with q | q | q | q | q
        · rw [q]; exact hzl
        · rw [q]; exact Heap.lt_size hTI
        · rw [q]; exact Heap.lt_size hTO
        · rw [q]; obtain ⟨_, e1, _⟩ := h1; exact Heap.lt_size e1
        · rw [q]; obtain ⟨_, e2, _⟩ := h2; exact Heap.lt_size e2
      rw [upd_ne (Nat.ne_of_lt hlt)]
      exact (hf c hcm).1
  done := by
    intro X hP hw hK hc i pins s σ H E I hf st hg
    subst hP hw hK
    obtain ⟨hz, hTI, ⟨x0, y0, hTO⟩, h1, h2⟩ := st
    obtain ⟨ys, hqy, m1, m2, hend⟩ := hg
    obtain ⟨its2, rv2, p2, _⟩ := I.tuple hqy
    have l2 := rv2.length
    have hh : X.A.in1.handled = none := I.ok.hd hc
    have pT : s.heap.IsTuple b its2.toArray := p2
    exact wpAny_pyNext_zipD2_end D.sep (Draws.text hh i1 x t) (Draws.tuple hh i2 b D.b5 its2.toArray) hz hTI hTO h1 ⟨h2, pT⟩ m1 (by rw [List.size_toArray]; omega) (by rcases hend with e | e; exact .inl e; exact .inr (by rw [e, List.size_toArray]; exact l2)) fun h' tk hk =>
      ⟨rfl, I.turnedL (t' := tk) (ch := [z, TI, TO, i1, i2]) (fun c o hb q => hk c o (fun q' => hb (by simp [q'])) (fun q' => hb (by simp [q'])) (fun q' => hb (by simp [q'])) (fun q' => hb (by simp [q'])) q) hf⟩
  self := fun A i s Q E st h => wpAny_pyIter_zip st.1 h
def iZipST (K : PySem.W.Frag) (ta : TA) : TI := fun σ H R => ta σ H fun vs H1 => ∃ z b ys, vs = [.str z, .ref b] ∧ SqT K H1 b ys ∧ R (ItzS K z b) H1
theorem pi_zipST {X : Cx} {e e2 : Expr} {ta : TA} {p pos tpos : Pos} {elts : List Expr} {kk : Nat} (hg : Gl X "zip") (hm : X.mg "zip" = none) (ha : PA X [e, e2] ta)
    (hs : starEach [e, e2] X.env = (false, eval e X.env) :: starEach [e2] X.env := by rfl) (hpl : (backTo pos (starEach [e2] X.env)).any (·.1) = false := by rfl) :
    PI X (.Tuple elts kk tpos) (.Call (.Name "zip" p) [e, e2] [] pos) (iZipST X.K ta) := by
  refine ⟨fun pins s σ H R I h => ?_⟩
  refine Call_ (ld_blt I hg hm PyProof.Rows.boot_zip (PyProof.Rows.callWith_type1 (thn (ha.run pos pins s σ H _ I h) fun us s1 ⟨vs, H1, I1, r1, q1⟩ => ?_) hs hpl))
  obtain ⟨z, b, ys, ex, hqy, q⟩ := q1
  subst ex
  cases r1 with
  | cons r rr =>
    cases rr with
    | cons r' rr =>
      cases rr
      obtain ⟨t, rfl⟩ := r
      cases r'
      have fresh5 : ∀ c, c ∈ [s1.heap.objs.size + 4, s1.heap.objs.size + 2, s1.heap.objs.size + 3, s1.heap.objs.size, s1.heap.objs.size + 1] → FpOk X pins H1 c := fun c hcm => by
        have e' : c = s1.heap.objs.size + 4 ∨ c = s1.heap.objs.size + 2 ∨ c = s1.heap.objs.size + 3 ∨ c = s1.heap.objs.size ∨ c = s1.heap.objs.size + 1 := by simpa using hcm
        have hle : s1.heap.objs.size ≤ c := by
          rcases e' with z | z | z | z | z
          · rw [z]; exact Nat.le_add_right _ _
          · rw [z]; exact Nat.le_add_right _ _
          · rw [z]; exact Nat.le_add_right _ _
          · rw [z]; exact Nat.le_refl _
          · rw [z]; exact Nat.le_add_right _ _
        exact I1.fpOk hle (I1.hok.fresh hle)
      obtain ⟨its2, rv2, p2, _⟩ := I1.tuple hqy
      have pT : s1.heap.IsTuple b its2.toArray := p2
      have hb : b < s1.heap.objs.size := by obtain ⟨_, e, _⟩ := pT; exact Heap.lt_size e
      refine zip_begins2 (begins_text z t) (begins_tuple b its2.toArray) trivial pT fun h' hz hTI hTO h1 h2 hsz hk => wpAny_pyIter_zip hz ?_
      have I2 : Inv X pins σ H1 { s1 with heap := h' } := I1.kept (t' := s1.toks) hk
      have dd : ZA (s1.heap.objs.size + 4) (s1.heap.objs.size + 2) (s1.heap.objs.size + 3) s1.heap.objs.size (s1.heap.objs.size + 1) b := za_of _ _ hb
      exact ⟨s1.heap.objs.size + 4, [s1.heap.objs.size + 4, s1.heap.objs.size + 2, s1.heap.objs.size + 3, s1.heap.objs.size, s1.heap.objs.size + 1], _, _, H1, rfl, I2, turn_zipST (t := t) dd, ⟨hz, hTI, ⟨_, _, hTO⟩, ⟨_, h1, rfl, rfl⟩, ⟨_, h2, rfl, rfl⟩⟩, fresh5, q⟩
/-- a walk over zip of a text and a tuple of one length -/
theorem walk_zipST {K : PySem.W.Frag} {x : Str} {b : Addr} {ys : List V} (hl : ys.length = x.cps.size) :
    Walk (ItzS K x b) ys.length (fun H => SqT K H b ys) (fun i H v H' => ∃ T c y, v = .ref T ∧ H T = none ∧ H' = upd H T (.tup [.str ⟨#[c]⟩, y]) ∧ x.cps[i]? = some c ∧ ys[i]? = some y) where
  goes := fun i H hi h => by
    have h2 : i < x.cps.size := by omega
    exact ⟨ys, x.cps[i], ys[i], h, by simp [h2], by simp [hi]⟩
  stops := fun H h => ⟨ys, h, by omega, Nat.le_refl _, .inr rfl⟩
  yields := fun i H v H' hi h y => by
    obtain ⟨T, c, y, e, hT, e2, hc, hy⟩ := y
    exact ⟨T, c, y, e, hT, e2, hc, hy ys h⟩
end FK

/-! Own rule: text * int. -/
namespace FK
open PySem PySem.Spec PyProof.Rows L2
def repS (z : Str) (n : Nat) : Str := ⟨((List.replicate n z.cps.toList).flatten).toArray⟩
theorem rep_fold (n : Nat) (a acc : Array Nat) : ((List.replicate n a).foldl (· ++ ·) acc).toList = acc.toList ++ (List.replicate n a.toList).flatten := by
  induction n generalizing acc with
  | zero => simp
  | succ n ih =>
    rw [List.replicate_succ, List.foldl_cons, ih, List.replicate_succ, List.flatten_cons, Array.toList_append, List.append_assoc]
theorem repS_length (z : Str) (n : Nat) : (repS z n).length = z.length * n := by
  show ((List.replicate n z.cps.toList).flatten).toArray.size = _
  rw [List.size_toArray, List.length_flatten, List.map_replicate, List.sum_replicate_nat, Array.length_toList, Nat.mul_comm]
  rfl
def rRepS : V → V → Hp → VK → Prop := fun x y H Q => ∃ (z : Str) (n : Nat), x = .str z ∧ y = .int (n : Int) ∧ z.length * n ≤ sizeLine ∧ n < 2 ^ 62 ∧ Q (.str (repS z n)) H
theorem op_rep_str {X : Cx} : OpR X (binaryOp .Mult) rRepS := by
  intro pins s σ H x y v u Q I rx ry h
  obtain ⟨z, n, rfl, rfl, hz, hn, q⟩ := h
  obtain ⟨t, rfl⟩ := rx
  obtain ⟨t', rfl⟩ := ry
  have hsl : sizeLine = 16777216 := sizeLine_eq
  refine PySem.P.mul_str (by simp; omega) (fun h1 h2 => ?_) (fun h1 h2 => ?_) ?_
  · have hn0 : (0 : Int) < n := by omega
    have h3 : ((z.length : Nat) : Int) * (n : Int) ≤ 2 ^ 63 - 1 := by
      have : ((z.length * n : Nat) : Int) ≤ (sizeLine : Int) := by omega
      rw [Int.natCast_mul] at this
      omega
    have := Int.le_ediv_of_mul_le hn0 h3
    omega
  · rw [Int.toNat_natCast]
    exact decide_eq_false (fun h => absurd h (Nat.not_lt.mpr hz))
  · have done : ∀ tk : Nat, ∀ w : Str, w = repS z n → Q (.str w) H := fun _ w e => by rw [e]; exact q
    by_cases c1 : (n : Int) < 1
    · rw [if_pos c1]
      have e0 : n = 0 := by omega
      refine ⟨by decide, .str _, H, I.tok _, ⟨_, rfl⟩, ?_⟩
      have e : (Str.empty : Str) = repS z n := by rw [e0]; rfl
      rw [e]
      exact q
    · rw [if_neg c1]
      by_cases c2 : ((n : Int) == 1 || z.length == 0) = true
      · rw [if_pos c2]
        refine ⟨.str z, H, I, ⟨t, rfl⟩, ?_⟩
        have e : z = repS z n := by
          cases z with | mk a =>
          rw [Bool.or_eq_true] at c2
          rcases c2 with c2 | c2
          · have h1 : (n : Int) = 1 := eq_of_beq c2
            have : n = 1 := by omega
            subst this
            simp [repS]
          · have ha : a.size = 0 := eq_of_beq c2
            have ha2 : a = #[] := Array.eq_empty_of_size_eq_zero ha
            subst ha2
            simp [repS]
        rw [← e] at q
        exact q
      · rw [if_neg c2]
        have e : (⟨(List.replicate (n : Int).toNat z.cps).foldl (· ++ ·) #[]⟩ : Str) = repS z n := by
          have h1 := rep_fold n z.cps #[]
          rw [Int.toNat_natCast]
          unfold repS
          congr 1
          apply Array.toList_inj.mp
          rw [h1]
          simp
        rw [e]
        exact ⟨by rw [repS_length]; exact hz, .str _, H, I.tok _, ⟨_, rfl⟩, q⟩
end FK

/-! Own kit: calls of defs that may raise, where they do not. -/
namespace FK
open PySem PySem.Spec PyProof.Rows L2
theorem pass1 {X : Cx} : Passes (L2.CX X.prog X.w) X E0 := by
  intro pins σ H s e s' I h
  unfold L2.CX at h
  simp only [E0] at h
  first
  | exact h.elim
  | (obtain ⟨_, _, h⟩ := h; simp_all)
  | skip
theorem Has.imp {P : Program} {w : World} {K : PySem.W.Frag} {mg : Str → Option Value} {base : Heap} {CX : CXT} {k : Nat} {x : Str} {ps : List Str} {sp sp' : Sp} (h : Has P w K mg base CX k x ps sp) (hi : ∀ vs H Q E, sp' vs H Q E → sp vs H Q E) : Has P w K mg base CX k x ps sp' := by
  obtain ⟨f, fd, F, r⟩ := h
  exact ⟨f, fd, F.imp hi, r⟩
end FK

/-! x in t, t a tuple of data of any depth. -/
namespace FK
open PySem PySem.Spec PyProof.Rows L2
theorem units65 {k : Nat} {A : Around} (r : Room k A) : A.units + 65 < cLine := by have := r.un; omega
section
variable {X : Cx}
def rInT (K : PySem.W.Frag) : R2 := fun x y H Q => ∃ d ds, Dp K H x d ∧ Dp K H y (.tuple ds) ∧ SeqAt.shaped d = true ∧ SeqAt.shaped (.list ds) = true ∧ Q (.bl (ds.any fun z => PyData.eqv z d)) H
def rNotInT (K : PySem.W.Frag) : R2 := fun x y H Q => ∃ d ds, Dp K H x d ∧ Dp K H y (.tuple ds) ∧ SeqAt.shaped d = true ∧ SeqAt.shaped (.list ds) = true ∧ Q (.bl (!ds.any fun z => PyData.eqv z d)) H
theorem op_inT (hu : X.A.units + 65 < cLine) : OpR X (compareOp .In) (rInT X.K) := by
  intro pins s σ H x y v u Q I rx ry h
  obtain ⟨d, ds, hd, he, sd, se, q⟩ := h
  obtain ⟨as, r1⟩ := Dp.reads I d x v hd rx
  obtain ⟨bs, r2⟩ := Dp.reads I (.tuple ds) y u he ry
  exact SeqAt.in_tuple_reads r2 r1 (SeqAt.canLay_of_shaped se) (SeqAt.canLay_of_shaped sd) (room_in_shaped sd hu) ⟨.bl _, H, I, rfl, q⟩
theorem op_notInT (hu : X.A.units + 65 < cLine) : OpR X (compareOp .NotIn) (rNotInT X.K) := by
  intro pins s σ H x y v u Q I rx ry h
  obtain ⟨d, ds, hd, he, sd, se, q⟩ := h
  obtain ⟨as, r1⟩ := Dp.reads I d x v hd rx
  obtain ⟨bs, r2⟩ := Dp.reads I (.tuple ds) y u he ry
  exact SeqAt.notIn_tuple_reads r2 r1 (SeqAt.canLay_of_shaped se) (SeqAt.canLay_of_shaped sd) (room_in_shaped sd hu) ⟨.bl _, H, I, rfl, q⟩
end
section
variable {X : Cx}
def rCntS (K : PySem.W.Frag) : V → List V → Hp → VK → Prop := fun x xs H Q => ∃ (p : Addr) (ys : List Str) (k : Str), x = .ref p ∧ xs = [.str k] ∧ SqL K H p (ys.map V.str) ∧ Q (.int (countIn (.str k) (ys.map PyData.str))) H
/-- l.count(x) of texts -/
theorem mt_lcountS : MtR X "list.count" (rCntS X.K) := by
  intro pins s σ H x xs v us Q I rx rxs h
  obtain ⟨p, ys, k, rfl, rfl, hs, q⟩ := h
  cases rx
  obtain ⟨u, rfl, ru⟩ := rxs.one
  obtain ⟨t, rfl⟩ := ru
  obtain ⟨its, rv, hl, hlen⟩ := I.list hs
  exact count_list_strs hl.isList rv.strs ⟨.int _, H, I.tok _, ⟨s.toks, rfl⟩, q⟩
end
section
variable {K : PySem.W.Frag} {tl : TE} {g : TG} {tt : L2.TT} {te : TE} {vs : List Nat} {σ : L2.St} {H H1 : Hp} {Q : VK} {wi : TI} {J : It}
/-- what a comprehension goes over, made in its head -/
theorem lc_lst (h : tl σ H fun x H1 => ∃ a, x = .ref a ∧ (∃ xs, SqL K H1 a xs) ∧ tLc (fun _ _ R => R (Itl K a) H1) g tt te vs σ H Q) : tLc (iList K tl) g tt te vs σ H Q := h
theorem lc_str (h : tl σ H fun x H1 => ∃ z, x = .str z ∧ tLc (fun _ _ R => R (Its z) H1) g tt te vs σ H Q) : tLc (iStr tl) g tt te vs σ H Q := h
theorem lc_rng1 {ta : TA} (h : ta σ H fun xs H1 => ∃ m, xs = [.int m] ∧ -2 ^ 62 ≤ m ∧ m < 2 ^ 62 ∧ tLc (fun _ _ R => R (Itr 0 m.toNat) H1) g tt te vs σ H Q) : tLc (iRng1 ta) g tt te vs σ H Q := h
theorem lc_at (hw : ∀ R : It → Hp → Prop, R J H1 → wi σ H R) (h : tLc (fun _ _ R => R J H1) g tt te vs σ H Q) : tLc wi g tt te vs σ H Q := hw _ h
theorem for_lst {tb : TS} {D : Ends} (h : tl σ H fun x H1 => ∃ a, x = .ref a ∧ (∃ xs, SqL K H1 a xs) ∧ tFor (fun _ _ R => R (Itl K a) H1) g tb D σ H) : tFor (iList K tl) g tb D σ H := h
theorem for_str {tb : TS} {D : Ends} (h : tl σ H fun x H1 => ∃ z, x = .str z ∧ tFor (fun _ _ R => R (Its z) H1) g tb D σ H) : tFor (iStr tl) g tb D σ H := h
/-- a dict comprehension over a walk -/
theorem dc_it {n : Nat} {G : Hp → Prop} {Y : Nat → Hp → V → Hp → Prop} (w : Walk J n G Y) {tk tv : TE} {D : Addr} {Qd : Hp → Prop} (Pv : Nat → Hp → Prop) (h0 : Pv 0 (upd H1 D (.dK []))) (hG : ∀ i H, i ≤ n → Pv i H → G H)
    (hs : ∀ i x H H', i < n → Pv i H → Y i H x H' → g x (wipe σ vs) H' fun σ2 H2 => wipe σ2 vs = wipe σ vs ∧ tt σ2 H2 fun b H3 =>
      if b = true then tk σ2 H3 fun y H4 => tv σ2 H4 fun z H5 => ∃ kvs k, y = kV k ∧ H5 D = some (.dK kvs) ∧ kvs.length < sizeLine ∧ Pv (i + 1) (upd H5 D (.dK (putK kvs k z))) else Pv (i + 1) H3) (hd : ∀ H, Pv n H → Qd H) :
    ∃ W : Nat → Nat → Hp → Prop, (∃ m, W 0 m (upd H1 D (.dK []))) ∧ ∀ i m H, W i m H →
      (J.stop i H ∧ Qd H) ∨ (J.go i H ∧ ∃ Nx : Hp → Prop, (∀ H', Nx H' → ∃ m', m' < m ∧ W (i + 1) m' H') ∧ ∀ x H', J.yld i H x H' → g x (wipe σ vs) H' fun σ2 H2 => wipe σ2 vs = wipe σ vs ∧ tt σ2 H2 fun b H3 =>
        if b = true then tk σ2 H3 fun y H4 => tv σ2 H4 fun z H5 => ∃ kvs k, y = kV k ∧ H5 D = some (.dK kvs) ∧ kvs.length < sizeLine ∧ Nx (upd H5 D (.dK (putK kvs k z))) else Nx H3) := by
  refine ⟨fun i m H => m = n - i ∧ i ≤ n ∧ Pv i H, ⟨n, by simp, Nat.zero_le _, h0⟩, ?_⟩
  rintro i m H ⟨rfl, hi, p⟩
  have q := hG i H hi p
  by_cases hlt : i < n
  · exact .inr ⟨w.goes i H hlt q, Pv (i + 1), fun H' p' => ⟨n - (i + 1), by omega, rfl, hlt, p'⟩, fun x H' y => hs i x H H' hlt p (w.yields i H x H' hlt q y)⟩
  · have e : i = n := by omega
    subst e
    exact .inl ⟨w.stops H q, hd H p⟩
/-- one more, if it is not there -/
def addS {α : Type} [DecidableEq α] (l : List α) (a : α) : List α := if a ∈ l then l else l ++ [a]
theorem mem_addS {α : Type} [DecidableEq α] {l : List α} {a b : α} : b ∈ addS l a ↔ b ∈ l ∨ b = a := by
  unfold addS
  split
  · exact ⟨.inl, fun h => h.elim id fun e => by rw [e]; assumption⟩
  · simp
theorem nd_addS {α : Type} [DecidableEq α] {l : List α} {a : α} (h : l.Nodup) : (addS l a).Nodup := by
  unfold addS
  split
  · exact h
  · refine List.nodup_append.mpr ⟨h, List.pairwise_singleton _ _, fun p hp q hq => ?_⟩
    rw [List.mem_singleton.mp hq]
    intro e
    rw [e] at hp
    contradiction
theorem len_addS {α : Type} [DecidableEq α] {l : List α} {a : α} : (addS l a).length ≤ l.length + 1 := by
  unfold addS
  split
  · omega
  · simp
theorem putK_addS {α κ : Type} [DecidableEq α] [DecidableEq κ] {f : α → κ} (hf : ∀ a b, f a = f b → a = b) (v : V) (l : List α) (a : α) : putK (l.map fun x => (f x, v)) (f a) v = (addS l a).map fun x => (f x, v) := by
  unfold putK addS
  have e : ((l.map fun x => (f x, v)).any fun kv => decide (kv.1 = f a)) = decide (a ∈ l) := by
    rw [Bool.eq_iff_iff, List.any_eq_true, decide_eq_true_iff]
    constructor
    · rintro ⟨x, hx, h⟩
      obtain ⟨y, hy, rfl⟩ := List.mem_map.mp hx
      rw [← hf _ _ (of_decide_eq_true h)]
      exact hy
    · intro h
      exact ⟨_, List.mem_map.mpr ⟨a, h, rfl⟩, decide_eq_true rfl⟩
  rw [e]
  by_cases c : a ∈ l
  · rw [if_pos (decide_eq_true c), if_pos c]
    refine (List.map_congr_left fun kv hkv => ?_).trans (List.map_id _)
    obtain ⟨y, hy, rfl⟩ := List.mem_map.mp hkv
    show (if f y = f a then (f y, v) else (f y, v)) = _
    split <;> rfl
  · rw [if_neg (by simp [c]), if_neg c, List.map_append]
    rfl
/-- the letters of a text as items -/
theorem walk_strY {z : Str} : Walk (Its z) (z.cps.toList.map fun c => V.str ⟨#[c]⟩).length (fun _ => True) (YAt (z.cps.toList.map fun c => V.str ⟨#[c]⟩)) := by
  have e : (z.cps.toList.map fun c => V.str ⟨#[c]⟩).length = z.cps.size := by simp
  rw [e]
  refine (walk_str (z := z)).mono (fun _ _ => trivial) ?_
  rintro i H x H' _ _ ⟨rfl, c, hc, rfl⟩
  exact ⟨rfl, by rw [List.getElem?_map, Array.getElem?_toList, hc]; rfl⟩
theorem walk_natY {n : Nat} : Walk (Itr 0 n) ((List.range n).map fun k => V.int (k : Nat)).length (fun _ => True) (YAt ((List.range n).map fun k => V.int (k : Nat))) := by
  have e : ((List.range n).map fun k => V.int (k : Nat)).length = n := by simp
  rw [e]
  refine (walk_range (lo := 0) (n := n)).mono (fun _ _ => trivial) ?_
  rintro i H x H' hi _ ⟨rfl, rfl⟩
  exact ⟨rfl, by rw [List.getElem?_map, List.getElem?_range hi]; simp⟩
end
end FK

namespace K89
open PySem PySem.Spec PyProof.Rows L2
def topS (i : Nat) : Stmt := PySem.Challenge.pw_foldfloor_k89_words_of_lines.main.body.getD i (.Pass ⟨0, 0, 0, 0⟩)
abbrev s_is_letter : Stmt := topS 5
abbrev s_is_word : Stmt := topS 6
abbrev s_check_long_word : Stmt := topS 7
abbrev s_check_word : Stmt := topS 8
abbrev s_is_plain : Stmt := topS 14
abbrev s_words_of : Stmt := topS 15
abbrev s_is_name : Stmt := topS 16
abbrev s_number_in : Stmt := topS 17
abbrev s_text_of : Stmt := topS 18
abbrev s_word_in : Stmt := topS 19
abbrev s_law_cell : Stmt := topS 21
abbrev s_law_values : Stmt := topS 22
abbrev s_law_signs : Stmt := topS 23
abbrev s_law_words : Stmt := topS 24
abbrev s_law_is_name : Stmt := topS 25
abbrev s_law_number : Stmt := topS 26
abbrev s_law_told : Stmt := topS 27
abbrev s_law_due : Stmt := topS 28
abbrev s_law : Stmt := topS 29
theorem sc_is_letter : FnScope ["text"] ["text"] (defScope s_is_letter) := ⟨rfl, rfl, rfl, by decide +kernel, rfl, by decide +kernel, by decide +kernel⟩
theorem sc_is_word : FnScope ["text", "most", "letter"] ["text", "most"] (defScope s_is_word) := ⟨rfl, rfl, rfl, by decide +kernel, rfl, by decide +kernel, by decide +kernel⟩
theorem sc_check_long_word : FnScope ["word", "most"] ["word", "most"] (defScope s_check_long_word) := ⟨rfl, rfl, rfl, by decide +kernel, rfl, by decide +kernel, by decide +kernel⟩
theorem sc_check_word : FnScope ["word"] ["word"] (defScope s_check_word) := ⟨rfl, rfl, rfl, by decide +kernel, rfl, by decide +kernel, by decide +kernel⟩
theorem sc_is_plain : FnScope ["text", "mark"] ["text"] (defScope s_is_plain) := ⟨rfl, rfl, rfl, by decide +kernel, rfl, by decide +kernel, by decide +kernel⟩
theorem sc_words_of : FnScope ["line", "words"] ["line"] (defScope s_words_of) := ⟨rfl, rfl, rfl, by decide +kernel, rfl, by decide +kernel, by decide +kernel⟩
theorem sc_is_name : FnScope ["word", "mark"] ["word"] (defScope s_is_name) := ⟨rfl, rfl, rfl, by decide +kernel, rfl, by decide +kernel, by decide +kernel⟩
theorem sc_number_in : FnScope ["word", "number"] ["word"] (defScope s_number_in) := ⟨rfl, rfl, rfl, by decide +kernel, rfl, by decide +kernel, by decide +kernel⟩
theorem sc_text_of : FnScope ["word"] ["word"] (defScope s_text_of) := ⟨rfl, rfl, rfl, by decide +kernel, rfl, by decide +kernel, by decide +kernel⟩
theorem sc_word_in : FnScope ["text", "word"] ["text"] (defScope s_word_in) := ⟨rfl, rfl, rfl, by decide +kernel, rfl, by decide +kernel, by decide +kernel⟩
theorem sc_law_cell : FnScope ["script", "k"] ["script", "k"] (defScope s_law_cell) := ⟨rfl, rfl, rfl, by decide +kernel, rfl, by decide +kernel, by decide +kernel⟩
theorem sc_law_values : FnScope ["cell", "count", "size", "values", "rest", "k", "mixed"] ["cell", "count", "size"] (defScope s_law_values) := ⟨rfl, rfl, rfl, by decide +kernel, rfl, by decide +kernel, by decide +kernel⟩
theorem sc_law_signs : FnScope ["signs"] [] (defScope s_law_signs) := ⟨rfl, rfl, rfl, by decide +kernel, rfl, by decide +kernel, by decide +kernel⟩
theorem sc_law_words : FnScope ["line", "words", "word", "char"] ["line"] (defScope s_law_words) := ⟨rfl, rfl, rfl, by decide +kernel, rfl, by decide +kernel, by decide +kernel⟩
theorem sc_law_is_name : FnScope ["word", "char"] ["word"] (defScope s_law_is_name) := ⟨rfl, rfl, rfl, by decide +kernel, rfl, by decide +kernel, by decide +kernel⟩
theorem sc_law_number : FnScope ["word", "number"] ["word"] (defScope s_law_number) := ⟨rfl, rfl, rfl, by decide +kernel, rfl, by decide +kernel, by decide +kernel⟩
theorem sc_law_told : FnScope ["which", "text", "e"] ["which", "text"] (defScope s_law_told) := ⟨rfl, rfl, rfl, by decide +kernel, rfl, by decide +kernel, by decide +kernel⟩
theorem sc_law_due : FnScope ["which", "text", "letters", "char"] ["which", "text"] (defScope s_law_due) := ⟨rfl, rfl, rfl, by decide +kernel, rfl, by decide +kernel, by decide +kernel⟩
theorem sc_law : FnScope ["script", "chars", "values", "line", "long", "figures", "digits", "words", "word", "some", "text", "which", "value"] ["script"] (defScope s_law) := ⟨rfl, rfl, rfl, by decide +kernel, rfl, by decide +kernel, by decide +kernel⟩
/-- where the top's classes and constants stand -/
structure Xs where
  FoldError : Addr
  NotWord : Addr
  t_MOST_LETTERS : Tok
  t_MOST_IN_NAME : Tok
  t_NUMBERS : Tok
  t_BARRED : Tok
  t_EMPTY : Tok
/-- what the top has written -/
structure Txt (K : PySem.W.Frag) (mg : Str → Option Value) (cx : Xs) : Prop where
  d_is_letter : FK.At K mg "is_letter" s_is_letter ["text"]
  d_is_word : FK.At K mg "is_word" s_is_word ["text", "most"]
  d_check_long_word : FK.At K mg "check_long_word" s_check_long_word ["word", "most"]
  d_check_word : FK.At K mg "check_word" s_check_word ["word"]
  d_is_plain : FK.At K mg "is_plain" s_is_plain ["text"]
  d_words_of : FK.At K mg "words_of" s_words_of ["line"]
  d_is_name : FK.At K mg "is_name" s_is_name ["word"]
  d_number_in : FK.At K mg "number_in" s_number_in ["word"]
  d_text_of : FK.At K mg "text_of" s_text_of ["word"]
  d_word_in : FK.At K mg "word_in" s_word_in ["text"]
  d_law_cell : FK.At K mg "_law_cell" s_law_cell ["script", "k"]
  d_law_values : FK.At K mg "_law_values" s_law_values ["cell", "count", "size"]
  d_law_signs : FK.At K mg "_law_signs" s_law_signs []
  d_law_words : FK.At K mg "_law_words" s_law_words ["line"]
  d_law_is_name : FK.At K mg "_law_is_name" s_law_is_name ["word"]
  d_law_number : FK.At K mg "_law_number" s_law_number ["word"]
  d_law_told : FK.At K mg "_law_told" s_law_told ["which", "text"]
  d_law_due : FK.At K mg "_law_due" s_law_due ["which", "text"]
  d_law : FK.At K mg "law" s_law ["script"]
  n_all : mg "all" = none
  n_int : mg "int" = none
  n_isinstance : mg "isinstance" = none
  n_len : mg "len" = none
  n_ord : mg "ord" = none
  n_range : mg "range" = none
  n_repr : mg "repr" = none
  n_str : mg "str" = none
  x_FoldError : FK.XC K mg "FoldError" cx.FoldError
  x_NotWord : FK.XC K mg "NotWord" cx.NotWord
  c_MOST_LETTERS : mg "MOST_LETTERS" = some (.int 60 cx.t_MOST_LETTERS)
  c_MOST_IN_NAME : mg "MOST_IN_NAME" = some (.int 12 cx.t_MOST_IN_NAME)
  c_NUMBERS : mg "NUMBERS" = some (.int 100 cx.t_NUMBERS)
  c_BARRED : mg "BARRED" = some (.int 37 cx.t_BARRED)
  c_EMPTY : mg "EMPTY" = some (.str "-" cx.t_EMPTY)
  exm_NotWord : PySem.W.exmOne K (.ref cx.NotWord) (.ref cx.NotWord) = some true
  kit_NotWord : PySem.W.kitOne K (.ref cx.NotWord) (.ref cx.FoldError) = some true
theorem mk_txt {K : PySem.W.Frag} {mg : Str → Option Value} {y0 : Addr} {y1 : Addr} {y2 : Tok} {y3 : Tok} {y4 : Tok} {y5 : Tok} {y6 : Tok} (T : Txt K mg ⟨y0, y1, y2, y3, y4, y5, y6⟩) : ∃ cx : Xs, Txt K mg cx := ⟨_, T⟩
section
variable {P : Program} {w : World} {K : PySem.W.Frag} {mg : Str → Option Value} {base : Heap} {cx : Xs}
/-- one letter -/
def isLet (x : Str) : Bool := inV (.str x) [.str "0", .str "1", .str "2"]
def spIsLetter : Sp := fun vs H Q _ => ∃ x : Str, vs = [.str x] ∧ ∀ H', Same H H' → Q (.bl (isLet x)) H'
theorem ok_is_letter (T : Txt K mg cx) : FK.Has P w K mg base CX0 1 "is_letter" ["text"] spIsLetter := by
  refine T.d_is_letter.ok sc_is_letter (fun vs H Q E h => ?_) (fun f cdv A outer s H vs Q E hr h => ?_)
  · obtain ⟨n, rfl, _⟩ := h
    rfl
  · obtain ⟨x, rfl, q⟩ := h
    refine ⟨_, (pss_one (ps_ret (pe_cmpR (show OpR _ (compareOp .In) (rIn K false) from op_in_seq) (pv 0) (pe_tup (pa_cons pe_str (pa_cons pe_str (pa_cons pe_str pa_nil)))) (by rfl)))), ?_⟩
    simp only [tSeq, tIfS, tOr, tAnd, tB, tTest, tCB, tCons, tVar, tC, tNil, tNot, tNotV, tRet, tRetN, tNext, tBreak, tOrV, tAndV, tOp, tUn, rEq, rNe, tChain, rI0, rI, rU, tAsg, gName, tDrop, tAug, ipI, tIf, tCall, tCallS, tLst, tTup, tBM, tBM0, rAppend, rExtend, rPop, rReverse, tyV, rIxL, rIxT, rIxS, rIsB, rNotB, L2.start, List.map_cons, List.map_nil, List.length_cons, List.length_nil, List.replicate, List.cons_append, List.nil_append, List.append_nil, List.getElem?_cons_zero, List.getElem?_cons_succ, List.set_cons_zero, List.set_cons_succ, Nat.reduceAdd, Nat.reduceSub, Option.some.injEq, exists_eq_left', exists_eq_left, V.int.injEq, V.bl.injEq, V.str.injEq, V.ref.injEq, List.cons.injEq, and_true, true_and, and_assoc, reduceCtorEq, false_and, exists_false, or_false, false_or, exists_and_left, exists_const, scal, Int.reduceLT, Int.reduceLE, Int.reduceSub, Int.reduceAdd, Int.reduceNeg, if_true, if_false]
    exact ⟨by decide, fun p hp => ⟨p, _, rfl, .inr (SqT.of upd_same), rfl, rfl, q _ (FK.same_new hp)⟩⟩
/-- a word of at most so many letters -/
def okWord (x : Str) (m : Int) : Bool := decide ((x.length : Int) ≤ m) && x.cps.toList.all fun c => isLet ⟨#[c]⟩
def spIsWord : Sp := fun vs H Q _ => ∃ (x : Str) (m : Int), vs = [.str x, .int m] ∧ x.length < sizeLine ∧ ∀ H', Same H H' → Q (.bl (okWord x m)) H'
theorem ok_is_word (T : Txt K mg cx) : FK.Has P w K mg base CX0 2 "is_word" ["text", "most"] spIsWord := by
  have H_is_letter := ok_is_letter (P := P) (w := w) (base := base) T
  refine T.d_is_word.ok sc_is_word (fun vs H Q E h => ?_) (fun f cdv A outer s H vs Q E hr h => ?_)
  · obtain ⟨n, m, rfl, _⟩ := h
    rfl
  · obtain ⟨x, m, rfl, hx, q⟩ := h
    refine ⟨_, (pss_one (ps_ret (pe_and (pe_cmpR op_le (pe_callB call_len_str (by rfl) T.n_len PySem.boot_len (pa_cons (pv 0) pa_nil)) (pv 1) (nomark _)) (pe_one (pe_callB (cr_all rfl) (by rfl) T.n_all (by decide +kernel) (pa_cons (pe_lc (own := [("letter", 2)]) (g := gName 2) (tt := tYes) rfl sc_is_word.nd (pi_str (pv 0)) (blkOk_by (own := [("letter", 2)]) (N := ["text", "most", "letter"]) (sc := defScope s_is_word) (by decide +kernel)) (fun _ _ _ _ _ => (pg_name (i := 2) sc_is_word.nd rfl (Or.inl rfl))) (fun _ _ _ _ _ => pts_nil) (fun _ _ _ _ _ => (FK.pe_h (E := E0) H_is_letter (hr.mono (by decide)) pass0 (pa_cons (pv 2) pa_nil)))) pa_nil)))))), ?_⟩
    simp only [tSeq, tIfS, tOr, tAnd, tB, tTest, tCB, tCons, tVar, tC, tNil, tNot, tNotV, tRet, tRetN, tNext, tBreak, tOrV, tAndV, tOp, tUn, rEq, rNe, tChain, rI0, rI, rU, tAsg, gName, tDrop, tAug, ipI, tIf, tCall, tCallS, tLst, tTup, tBM, tBM0, rAppend, rExtend, rPop, rReverse, tyV, rIxL, rIxT, rIxS, rIsB, rNotB, L2.start, List.map_cons, List.map_nil, List.length_cons, List.length_nil, List.replicate, List.cons_append, List.nil_append, List.append_nil, List.getElem?_cons_zero, List.getElem?_cons_succ, List.set_cons_zero, List.set_cons_succ, Nat.reduceAdd, Nat.reduceSub, Option.some.injEq, exists_eq_left', exists_eq_left, V.int.injEq, V.bl.injEq, V.str.injEq, V.ref.injEq, List.cons.injEq, and_true, true_and, and_assoc, reduceCtorEq, false_and, exists_false, or_false, false_or, exists_and_left, exists_const, scal, Int.reduceLT, Int.reduceLE, Int.reduceSub, Int.reduceAdd, Int.reduceNeg, if_true, if_false]
    refine ⟨Nat.le_of_lt hx, ?_⟩
    unfold okWord at q
    cases e : decide ((x.length : Int) ≤ m) with
    | false =>
      rw [e] at q
      exact iteF (q H (Same.refl H))
    | true =>
      rw [e] at q
      refine iteT ?_
      have hn : ((x.cps.toList.map fun c => isLet ⟨#[c]⟩).map V.bl).length = x.cps.size := by simp
      refine FK.rd_lc_same (J := Its x) (H1 := H) ((x.cps.toList.map fun c => isLet ⟨#[c]⟩).map V.bl) (fun R r => ⟨_, rfl, x, rfl, r⟩) (by rw [hn]; exact walk_str) (fun _ _ => trivial) (by rw [hn]; exact hx) (fun _ => rfl) ?_ ?_ (fun _ _ _ _ (z : _ ∧ _) => by rw [z.1]; exact Same.refl _)
      · rintro j v z H' H'' R hz s1 ⟨rfl, c, hc, rfl⟩ go
        rw [List.getElem?_map, List.getElem?_map, Array.getElem?_toList, hc] at hz
        cases hz
        simp only [tSeq, tIfS, tOr, tAnd, tB, tTest, tCB, tCons, tVar, tC, tNil, tNot, tNotV, tRet, tRetN, tNext, tBreak, tOrV, tAndV, tOp, tUn, rEq, rNe, tChain, rI0, rI, rU, tAsg, gName, tDrop, tAug, ipI, tIf, tCall, tCallS, tLst, tTup, tBM, tBM0, rAppend, rExtend, rPop, rReverse, tyV, rIxL, rIxT, rIxS, rIsB, rNotB, L2.start, List.map_cons, List.map_nil, List.length_cons, List.length_nil, List.replicate, List.cons_append, List.nil_append, List.append_nil, List.getElem?_cons_zero, List.getElem?_cons_succ, List.set_cons_zero, List.set_cons_succ, Nat.reduceAdd, Nat.reduceSub, Option.some.injEq, exists_eq_left', exists_eq_left, V.int.injEq, V.bl.injEq, V.str.injEq, V.ref.injEq, List.cons.injEq, and_true, true_and, and_assoc, reduceCtorEq, false_and, exists_false, or_false, false_or, exists_and_left, exists_const, scal, Int.reduceLT, Int.reduceLE, Int.reduceSub, Int.reduceAdd, Int.reduceNeg, if_true, if_false, wipe]
        exact ⟨_, rfl, fun H4 s4 => go H4 s4⟩
      · intro D H' hD s1 hD2
        refine ⟨D, _, rfl, SqL.of hD2, ?_⟩
        have q2 := q H' s1
        rw [show (true && x.cps.toList.all fun c => isLet ⟨#[c]⟩) = (x.cps.toList.map fun c => isLet ⟨#[c]⟩).all id by rw [List.all_map]; rfl] at q2
        exact q2

def spCheckLong (C : Addr) : Sp := fun vs H Q E => ∃ (x : Str) (m : Int), vs = [.str x, .int m] ∧ x.length < sizeLine ∧ (m = 60 ∨ m = 200 ∨ m = 400) ∧ (okWord x m = false → ∀ H', Same H H' → E (.ref C) none H') ∧ (okWord x m = true → ∀ H', Same H H' → Q .non H')
theorem ok_check_long_word (T : Txt K mg cx) : FK.Has P w K mg base (L2.CX P w) 4 "check_long_word" ["word", "most"] (spCheckLong cx.NotWord) := by
  have H_is_word := ok_is_word (P := P) (w := w) (base := base) T
  refine T.d_check_long_word.okX sc_check_long_word (fun vs H Q E h => ?_) (fun f cdv A outer s H vs Q E hr h => ?_)
  · obtain ⟨x, m, rfl, _⟩ := h
    rfl
  · obtain ⟨x, m, rfl, hx, hm, qE, q⟩ := h
    refine ⟨_, (pss_one (ps_if (pt_not (pt_val (FK.pe_h (E := E0) H_is_word (hr.mono (by decide)) pass0 (pa_cons (pv 0) (pa_cons (pv 1) pa_nil))))) (pss_one (ps_raise rfl (takes_of rfl rfl rfl rfl) (SkE.pmk_own1 PySem.F.excBase_ValueError T.x_NotWord.x T.x_NotWord.g T.x_NotWord.k (raises_own T.x_NotWord.b T.x_NotWord.t) rfl (pe_joined (PJ.cons pe_str (PJ.cons (pe_fmt (pv 1)) (PJ.cons pe_str PJ.nil))))))) pss_nil)), ?_⟩
    simp only [tSeq, tIfS, tOr, tAnd, tB, tTest, tCB, tCons, tVar, tC, tNil, tNot, tNotV, tRet, tRetN, tNext, tBreak, tOrV, tAndV, tOp, tUn, rEq, rNe, tChain, rI0, rI, rU, tAsg, gName, tDrop, tAug, ipI, tIf, tCall, tCallS, tLst, tTup, tBM, tBM0, rAppend, rExtend, rPop, rReverse, tyV, rIxL, rIxT, rIxS, rIsB, rNotB, L2.start, List.map_cons, List.map_nil, List.length_cons, List.length_nil, List.replicate, List.cons_append, List.nil_append, List.append_nil, List.getElem?_cons_zero, List.getElem?_cons_succ, List.set_cons_zero, List.set_cons_succ, Nat.reduceAdd, Nat.reduceSub, Option.some.injEq, exists_eq_left', exists_eq_left, V.int.injEq, V.bl.injEq, V.str.injEq, V.ref.injEq, List.cons.injEq, and_true, true_and, and_assoc, reduceCtorEq, false_and, exists_false, or_false, false_or, exists_and_left, exists_const, scal, Int.reduceLT, Int.reduceLE, Int.reduceSub, Int.reduceAdd, Int.reduceNeg, if_true, if_false, tJs, tFmt]
    refine ⟨x, m, rfl, hx, fun H' hs => ⟨_, rfl, ?_⟩⟩
    cases e : okWord x m with
    | false =>
      refine iteT ?_
      rcases hm with rfl | rfl | rfl <;> exact ⟨by decide +kernel, by decide +kernel, by decide +kernel, by decide +kernel, qE e H' hs⟩
    | true => exact iteF (q e H' hs)
def spCheckWord (C : Addr) : Sp := fun vs H Q E => ∃ x : Str, vs = [.str x] ∧ x.length < sizeLine ∧ (okWord x 60 = false → ∀ H', Same H H' → E (.ref C) none H') ∧ (okWord x 60 = true → ∀ H', Same H H' → Q .non H')
theorem ok_check_word (T : Txt K mg cx) : FK.Has P w K mg base (L2.CX P w) 5 "check_word" ["word"] (spCheckWord cx.NotWord) := by
  have H_check_long_word := ok_check_long_word (P := P) (w := w) (base := base) T
  refine T.d_check_word.okX sc_check_word (fun vs H Q E h => ?_) (fun f cdv A outer s H vs Q E hr h => ?_)
  · obtain ⟨x, rfl, _⟩ := h
    rfl
  · obtain ⟨x, rfl, hx, qE, q⟩ := h
    refine ⟨_, (pss_one (ps_expr (FK.pe_h (E := E) H_check_long_word (hr.mono (by decide)) (passes_call (takes_of rfl rfl rfl rfl) (fun _ _ _ _ h => h)) (pa_cons (pv 0) (pa_cons (pe_glob (v := .int 60) rfl T.c_MOST_LETTERS ⟨_, rfl⟩) pa_nil))))), ?_⟩
    simp only [tSeq, tIfS, tOr, tAnd, tB, tTest, tCB, tCons, tVar, tC, tNil, tNot, tNotV, tRet, tRetN, tNext, tBreak, tOrV, tAndV, tOp, tUn, rEq, rNe, tChain, rI0, rI, rU, tAsg, gName, tDrop, tAug, ipI, tIf, tCall, tCallS, tLst, tTup, tBM, tBM0, rAppend, rExtend, rPop, rReverse, tyV, rIxL, rIxT, rIxS, rIsB, rNotB, L2.start, List.map_cons, List.map_nil, List.length_cons, List.length_nil, List.replicate, List.cons_append, List.nil_append, List.append_nil, List.getElem?_cons_zero, List.getElem?_cons_succ, List.set_cons_zero, List.set_cons_succ, Nat.reduceAdd, Nat.reduceSub, Option.some.injEq, exists_eq_left', exists_eq_left, V.int.injEq, V.bl.injEq, V.str.injEq, V.ref.injEq, List.cons.injEq, and_true, true_and, and_assoc, reduceCtorEq, false_and, exists_false, or_false, false_or, exists_and_left, exists_const, scal, Int.reduceLT, Int.reduceLE, Int.reduceSub, Int.reduceAdd, Int.reduceNeg, if_true, if_false]
    exact ⟨x, 60, rfl, hx, .inl rfl, qE, q⟩

def spCell (K : PySem.W.Frag) : Sp := fun vs H Q _ => ∃ (a : Addr) (ns : List Int) (k : Nat), vs = [.ref a, .int (k : Int)] ∧ SqL K H a (ns.map V.int) ∧ ∀ i, Q (.int i) H
theorem ok_law_cell (T : Txt K mg cx) : FK.Has P w K mg base CX0 1 "_law_cell" ["script", "k"] (spCell K) := by
  refine T.d_law_cell.ok sc_law_cell (fun vs H Q E h => ?_) (fun f cdv A outer s H vs Q E hr h => ?_)
  · obtain ⟨a, ns, k, rfl, _⟩ := h
    rfl
  · obtain ⟨a, ns, k, rfl, hS, q⟩ := h
    refine ⟨_, (pss_cons (ps_if (pt_cmpR op_lt (pv 1) (pe_callB call_len_seq (by rfl) T.n_len PySem.boot_len (pa_cons (pv 0) pa_nil)) (nomark _)) (pss_one (ps_ret (pe_ix (r := rIxL K) ix_list (pv 0) (pv 1) (fun _ _ => rfl)))) pss_nil)
  (pss_one (ps_ret pe_int))), ?_⟩
    simp only [tSeq, tIfS, tOr, tAnd, tB, tTest, tCB, tCons, tVar, tC, tNil, tNot, tNotV, tRet, tRetN, tNext, tBreak, tOrV, tAndV, tOp, tUn, rEq, rNe, tChain, rI0, rI, rU, tAsg, gName, tDrop, tAug, ipI, tIf, tCall, tCallS, tLst, tTup, tBM, tBM0, rAppend, rExtend, rPop, rReverse, tyV, rIxL, rIxT, rIxS, rIsB, rNotB, L2.start, List.map_cons, List.map_nil, List.length_cons, List.length_nil, List.replicate, List.cons_append, List.nil_append, List.append_nil, List.getElem?_cons_zero, List.getElem?_cons_succ, List.set_cons_zero, List.set_cons_succ, Nat.reduceAdd, Nat.reduceSub, Option.some.injEq, exists_eq_left', exists_eq_left, V.int.injEq, V.bl.injEq, V.str.injEq, V.ref.injEq, List.cons.injEq, and_true, true_and, and_assoc, reduceCtorEq, false_and, exists_false, or_false, false_or, exists_and_left, exists_const, scal, Int.reduceLT, Int.reduceLE, Int.reduceSub, Int.reduceAdd, Int.reduceNeg, if_true, if_false]
    refine ⟨_, .inl hS, ite2 (fun c => ?_) (fun c => q 0)⟩
    have hk : k < ns.length := by
      have c2 := of_decide_eq_true c
      rw [List.length_map] at c2
      omega
    exact ⟨_, hS, _, atI_nat (by rw [List.getElem?_map, List.getElem?_eq_getElem hk]; rfl), q _⟩
def spValues : Sp := fun vs H Q _ => ∃ (i : Int) (n sz : Nat), vs = [.int i, .int (n : Int), .int (sz : Int)] ∧ n ≤ 60 ∧ 0 < sz ∧ sz ≤ 1000 ∧ ∀ L (zs : List Int) H', H L = none → Same H H' → H' L = some (.lst (zs.map V.int)) → zs.length = n → (∀ z ∈ zs, 0 ≤ z ∧ z < sz) → Q (.ref L) H'
theorem ok_law_values (T : Txt K mg cx) : FK.Has P w K mg base CX0 1 "_law_values" ["cell", "count", "size"] spValues := by
  refine T.d_law_values.ok sc_law_values (fun vs H Q E h => ?_) (fun f cdv A outer s H vs Q E hr h => ?_)
  · obtain ⟨i, n, sz, rfl, _⟩ := h
    rfl
  · obtain ⟨i, n, sz, rfl, hn, z0, z1, q⟩ := h
    refine ⟨_, (pss_cons (ps_set (i := 3) sc_law_values.nd rfl (Or.inl rfl) (by exact (pe_lst pa_nil)))
  (pss_cons (ps_set (i := 4) sc_law_values.nd rfl (Or.inl rfl) (by exact (pv 0)))
  (pss_cons (ps_for PassesOwn.never rfl (pi_range1 rfl T.n_range (pa_cons (pv 1) pa_nil)) (pg_name (i := 5) sc_law_values.nd rfl (Or.inl rfl))
  (pss_one (ps_if (pt_cmpR op_ge (pv 4) (pe_op op_pow pe_int pe_int) (nomark _)) (pss_cons (ps_expr (pe_bm PySem.F.plainAttrs_list PySem.F.slot_list_append PySem.F.type_list_append mt_append (pv 3) (pa_cons (pe_op op_mod (pe_callTy FK.call_intI (by rfl) T.n_int (by decide +kernel) (pa_cons (pv 4) pa_nil)) (pv 2)) pa_nil)))
  (pss_one (ps_set (i := 4) sc_law_values.nd rfl (Or.inl rfl) (by exact (pe_op op_fdivW (pv 4) (pv 2)))))) (pss_cons (ps_set (i := 6) sc_law_values.nd rfl (Or.inl rfl) (by exact (pe_op op_mod (pe_op op_add (pe_op op_add (pe_op op_mulW (pe_op op_mod (pe_callTy FK.call_intI (by rfl) T.n_int (by decide +kernel) (pa_cons (pv 0) pa_nil)) pe_int) pe_int) (pe_op op_mulW (pv 5) pe_int)) pe_int) pe_int)))
  (pss_one (ps_expr (pe_bm PySem.F.plainAttrs_list PySem.F.slot_list_append PySem.F.type_list_append mt_append (pv 3) (pa_cons (pe_op op_mod (pe_op op_mod (pe_op op_mulW (pv 6) pe_int) pe_int) (pv 2)) pa_nil))))))))
  (pss_one (ps_ret (pv 3)))))), ?_⟩
    simp only [tSeq, tIfS, tOr, tAnd, tB, tTest, tCB, tCons, tVar, tC, tNil, tNot, tNotV, tRet, tRetN, tNext, tBreak, tOrV, tAndV, tOp, tUn, rEq, rNe, tChain, rI0, rI, rU, tAsg, gName, tDrop, tAug, ipI, tIf, tCall, tCallS, tLst, tTup, tBM, tBM0, rAppend, rExtend, rPop, rReverse, tyV, rIxL, rIxT, rIxS, rIsB, rNotB, L2.start, List.map_cons, List.map_nil, List.length_cons, List.length_nil, List.replicate, List.cons_append, List.nil_append, List.append_nil, List.getElem?_cons_zero, List.getElem?_cons_succ, List.set_cons_zero, List.set_cons_succ, Nat.reduceAdd, Nat.reduceSub, Option.some.injEq, exists_eq_left', exists_eq_left, V.int.injEq, V.bl.injEq, V.str.injEq, V.ref.injEq, List.cons.injEq, and_true, true_and, and_assoc, reduceCtorEq, false_and, exists_false, or_false, false_or, exists_and_left, exists_const, scal, Int.reduceLT, Int.reduceLE, Int.reduceSub, Int.reduceAdd, Int.reduceNeg, if_true, if_false]
    refine ⟨Nat.zero_le _, fun L hL => ?_⟩
    refine FK.rd_for (J := Itr 0 n) (H1 := upd H L (.lst [])) (fun R r => by simp only [tSeq, tIfS, tOr, tAnd, tB, tTest, tCB, tCons, tVar, tC, tNil, tNot, tNotV, tRet, tRetN, tNext, tBreak, tOrV, tAndV, tOp, tUn, rEq, rNe, tChain, rI0, rI, rU, tAsg, gName, tDrop, tAug, ipI, tIf, tCall, tCallS, tLst, tTup, tBM, tBM0, rAppend, rExtend, rPop, rReverse, tyV, rIxL, rIxT, rIxS, rIsB, rNotB, L2.start, List.map_cons, List.map_nil, List.length_cons, List.length_nil, List.replicate, List.cons_append, List.nil_append, List.append_nil, List.getElem?_cons_zero, List.getElem?_cons_succ, List.set_cons_zero, List.set_cons_succ, Nat.reduceAdd, Nat.reduceSub, Option.some.injEq, exists_eq_left', exists_eq_left, V.int.injEq, V.bl.injEq, V.str.injEq, V.ref.injEq, List.cons.injEq, and_true, true_and, and_assoc, reduceCtorEq, false_and, exists_false, or_false, false_or, exists_and_left, exists_const, scal, Int.reduceLT, Int.reduceLE, Int.reduceSub, Int.reduceAdd, Int.reduceNeg, if_true, if_false, iRng1]; exact ⟨by omega, by omega, r⟩) walk_range
      (fun j σ H' => ∃ (zs : List Int) (rest : Int) (v5 v6 : Option V), σ = [some (.int i), some (.int (n : Int)), some (.int (sz : Int)), some (.ref L), some (.int rest), v5, v6] ∧ H' L = some (.lst (zs.map V.int)) ∧ zs.length = j ∧ (∀ z ∈ zs, 0 ≤ z ∧ z < sz) ∧ Same H H')
      ⟨[], i, none, none, rfl, upd_same, rfl, (fun _ h => nomatch h), FK.same_new hL⟩ (fun _ _ _ _ _ => trivial) ?_ ?_
    · rintro j x σ H1 H2 hj ⟨zs, rest, v5, v6, rfl, eL, lz, hz, s1⟩ ⟨rfl, rfl⟩
      simp only [tSeq, tIfS, tOr, tAnd, tB, tTest, tCB, tCons, tVar, tC, tNil, tNot, tNotV, tRet, tRetN, tNext, tBreak, tOrV, tAndV, tOp, tUn, rEq, rNe, tChain, rI0, rI, rU, tAsg, gName, tDrop, tAug, ipI, tIf, tCall, tCallS, tLst, tTup, tBM, tBM0, rAppend, rExtend, rPop, rReverse, tyV, rIxL, rIxT, rIxS, rIsB, rNotB, L2.start, List.map_cons, List.map_nil, List.length_cons, List.length_nil, List.replicate, List.cons_append, List.nil_append, List.append_nil, List.getElem?_cons_zero, List.getElem?_cons_succ, List.set_cons_zero, List.set_cons_succ, Nat.reduceAdd, Nat.reduceSub, Option.some.injEq, exists_eq_left', exists_eq_left, V.int.injEq, V.bl.injEq, V.str.injEq, V.ref.injEq, List.cons.injEq, and_true, true_and, and_assoc, reduceCtorEq, false_and, exists_false, or_false, false_or, exists_and_left, exists_const, scal, Int.reduceLT, Int.reduceLE, Int.reduceSub, Int.reduceAdd, Int.reduceNeg, if_true, if_false]
      have e1 : ∀ y : Int, 0 ≤ y % (sz : Int) ∧ y % (sz : Int) < (sz : Int) := fun y => ⟨Int.emod_nonneg _ (by omega), Int.emod_lt_of_pos _ (by omega)⟩
      have le : (zs.map V.int).length < sizeLine := by
        rw [List.length_map, lz]
        exact Nat.lt_of_lt_of_le (show j < 1000 by omega) (by decide)
      have st : ∀ y : Int, 0 ≤ y ∧ y < (sz : Int) → ∃ zs2 : List Int, upd H2 L (.lst (zs.map V.int ++ [.int y])) L = some (.lst (zs2.map V.int)) ∧ zs2.length = j + 1 ∧ (∀ z ∈ zs2, 0 ≤ z ∧ z < (sz : Int)) ∧ Same H (upd H2 L (.lst (zs.map V.int ++ [.int y]))) := fun y hy => by
        refine ⟨zs ++ [y], by rw [upd_same, List.map_append]; rfl, by simp [lz], fun z hz2 => ?_, fun b o e => ?_⟩
        · rcases List.mem_append.mp hz2 with h | h
          · exact hz z h
          · rw [List.mem_singleton.mp h]; exact hy
        · rw [upd_ne (fun z => by rw [z, hL] at e; cases e)]
          exact s1 b o e
      have cm : ∀ x y : Int, 0 ≤ x → x < 2147483648 → 0 ≤ y → y < 2147483648 → CMulW x y := fun x y h1 h2 h3 h4 => by
        have lg : ∀ z : Int, 0 ≤ z → z < 2147483648 → z.natAbs.log2 < 32 := fun z z1 z2 => by
          by_cases c : z.natAbs = 0
          · rw [c]; decide
          · exact (Nat.log2_lt c).2 (by omega)
        have a1 := lg x h1 h2
        have a2 := lg y h3 h4
        show _ + _ < 1000000
        omega
      have m0 : 0 ≤ i % 2147483647 ∧ i % 2147483647 < 2147483647 := ⟨Int.emod_nonneg _ (by decide), Int.emod_lt_of_pos _ (by decide)⟩
      have cdv : CDivW rest (sz : Int) := ⟨by omega, by
        by_cases c : (sz : Int).natAbs = 0
        · rw [c]; decide
        · have := (Nat.log2_lt (k := 32) c).2 (by omega)
          omega⟩
      refine ⟨⟨by decide, by decide, by decide⟩, ite2 (fun c => ?_) (fun c => ?_)⟩
      · obtain ⟨zs2, a1, a2, a3, a4⟩ := st _ (e1 rest)
        exact ⟨.inl ⟨_, SqL.of eL⟩, by omega, _, eL, le, cdv, zs2, a1, a2, a3, a4⟩
      · have m1 : ∀ y : Int, 0 ≤ y % 2147483647 ∧ y % 2147483647 < 2147483647 := fun y => ⟨Int.emod_nonneg _ (by decide), Int.emod_lt_of_pos _ (by decide)⟩
        obtain ⟨zs2, a1, a2, a3, a4⟩ := st _ (e1 ((((i % 2147483647 * 48271 + (0 + (j : Int)) * 69621 + 7) % 2147483647) * 16807) % 2147483647))
        have m2 := m1 (i % 2147483647 * 48271 + (0 + (j : Int)) * 69621 + 7)
        refine ⟨cm _ _ m0.1 (by omega) (by decide) (by decide), cm _ _ (by omega) (by omega) (by decide) (by decide), .inl ⟨_, SqL.of eL⟩, cm _ _ m2.1 (by omega) (by decide) (by decide), by omega, _, eL, le, zs2, a1, a2, a3, a4⟩
    · rintro σ H1 ⟨zs, rest, v5, v6, rfl, eL, lz, hz, s1⟩
      simp only [tSeq, tIfS, tOr, tAnd, tB, tTest, tCB, tCons, tVar, tC, tNil, tNot, tNotV, tRet, tRetN, tNext, tBreak, tOrV, tAndV, tOp, tUn, rEq, rNe, tChain, rI0, rI, rU, tAsg, gName, tDrop, tAug, ipI, tIf, tCall, tCallS, tLst, tTup, tBM, tBM0, rAppend, rExtend, rPop, rReverse, tyV, rIxL, rIxT, rIxS, rIsB, rNotB, L2.start, List.map_cons, List.map_nil, List.length_cons, List.length_nil, List.replicate, List.cons_append, List.nil_append, List.append_nil, List.getElem?_cons_zero, List.getElem?_cons_succ, List.set_cons_zero, List.set_cons_succ, Nat.reduceAdd, Nat.reduceSub, Option.some.injEq, exists_eq_left', exists_eq_left, V.int.injEq, V.bl.injEq, V.str.injEq, V.ref.injEq, List.cons.injEq, and_true, true_and, and_assoc, reduceCtorEq, false_and, exists_false, or_false, false_or, exists_and_left, exists_const, scal, Int.reduceLT, Int.reduceLE, Int.reduceSub, Int.reduceAdd, Int.reduceNeg, if_true, if_false]
      exact q L zs H1 hL s1 eL lz hz

theorem iteT' {c : Prop} [Decidable c] {p q : Prop} (h : c) (hp : p) : if c then p else q := by rw [if_pos h]; exact hp
theorem iteF' {c : Prop} [Decidable c] {p q : Prop} (h : ¬ c) (hq : q) : if c then p else q := by rw [if_neg h]; exact hq
def sg (c : Nat) : Str := ⟨#[c]⟩
theorem sg_list (c : Nat) : (sg c).cps.toList = [c] := rfl
/-- a comprehension over the signs of a text, each answered by yes or no -/
theorem rd_signs {x : Str} {p : Nat → Bool} {wi : TI} {te : TE} {i : Nat} {vs : List Nat} {σ : L2.St} {H : Hp} {Q : VK} (hw : ∀ R : It → Hp → Prop, R (Its x) H → wi σ H R) (hx : x.length < sizeLine) (hv : ∀ v, wipe ((wipe σ vs).set i (some v)) vs = wipe σ vs)
    (hs : ∀ c H' (R : VK), Same H H' → c ∈ x.cps.toList → (∀ H4, Same H' H4 → R (.bl (p c)) H4) → te ((wipe σ vs).set i (some (.str ⟨#[c]⟩))) H' R)
    (hd : ∀ D H', Same H H' → H' D = some (.lst ((x.cps.toList.map p).map V.bl)) → Q (.ref D) H') : tLc wi (gName i) tYes te vs σ H Q := by
  have hn : ((x.cps.toList.map p).map V.bl).length = x.cps.size := by simp
  refine FK.rd_lc_same (J := Its x) (H1 := H) ((x.cps.toList.map p).map V.bl) hw (by rw [hn]; exact walk_str) (fun _ _ => trivial) (by rw [hn]; exact hx) hv ?_ (fun D H' _ s1 hD => hd D H' s1 hD) (fun _ _ _ _ (z : _ ∧ _) => by rw [z.1]; exact Same.refl _)
  rintro j v z H' H'' R hz s1 ⟨rfl, c, hc, rfl⟩ go
  rw [List.getElem?_map, List.getElem?_map, Array.getElem?_toList, hc] at hz
  cases hz
  exact hs c _ R s1 (by rw [← Array.getElem?_toList] at hc; exact List.mem_of_getElem? hc) go
theorem all_bl {xs : List Nat} {p : Nat → Bool} {K : PySem.W.Frag} {H : Hp} {D : Addr} {Q : VK} (h : H D = some (.lst ((xs.map p).map V.bl))) (q : Q (.bl (xs.all p)) H) : rAll K [.ref D] H Q := by
  refine ⟨D, _, rfl, SqL.of h, ?_⟩
  rw [show (xs.map p).all id = xs.all p by rw [List.all_map]; rfl]
  exact q
/-- a plain sign -/
def plC (c : Nat) : Bool := decide (32 ≤ c) && (decide (c ≤ 126) && !decide (c = 37))
def plS (x : Str) : Bool := x.cps.toList.all plC
theorem lt_one (c d : Nat) : decide (([c] : List Nat) < [d]) = decide (c < d) := by
  refine decide_eq_decide.2 ?_
  rw [List.cons_lt_cons_iff]
  constructor
  · rintro (h | ⟨_, h⟩)
    · exact h
    · exact absurd h (List.not_lt_nil _)
  · exact .inl
def spPlain : Sp := fun vs H Q _ => ∃ x : Str, vs = [.str x] ∧ x.length < sizeLine ∧ ∀ H', Same H H' → Q (.bl (plS x)) H'
theorem ok_is_plain (T : Txt K mg cx) : FK.Has P w K mg base CX0 1 "is_plain" ["text"] spPlain := by
  refine T.d_is_plain.ok sc_is_plain (fun vs H Q E h => ?_) (fun f cdv A outer s H vs Q E hr h => ?_)
  · obtain ⟨x, rfl, _⟩ := h
    rfl
  · obtain ⟨x, rfl, hx, q⟩ := h
    refine ⟨_, (pss_one (ps_ret (pe_callB (cr_all rfl) (by rfl) T.n_all (by decide +kernel) (pa_cons (pe_lc (own := [("mark", 1)]) (g := gName 1) (tt := tYes) rfl sc_is_plain.nd (pi_str (pv 0)) (blkOk_by (own := [("mark", 1)]) (N := ["text", "mark"]) (sc := defScope s_is_plain) (by decide +kernel)) (fun _ _ _ _ _ => (pg_name (i := 1) sc_is_plain.nd rfl (Or.inl rfl))) (fun _ _ _ _ _ => pts_nil) (fun _ _ _ _ _ => (pe_and (pe_chain op_le_str op_le_str pe_str (pv 1) pe_str) (pe_one (pe_cmpR op_ne (pe_callB call_ord (by rfl) T.n_ord (by decide +kernel) (pa_cons (pv 1) pa_nil)) (pe_glob (v := .int 37) rfl T.c_BARRED ⟨_, rfl⟩) (nomark _)))))) pa_nil)))), ?_⟩
    simp only [tSeq, tIfS, tOr, tAnd, tB, tTest, tCB, tCons, tVar, tC, tNil, tNot, tNotV, tRet, tRetN, tNext, tBreak, tOrV, tAndV, tOp, tUn, rEq, rNe, tChain, rI0, rI, rU, tAsg, gName, tDrop, tAug, ipI, tIf, tCall, tCallS, tLst, tTup, tBM, tBM0, rAppend, rExtend, rPop, rReverse, tyV, rIxL, rIxT, rIxS, rIsB, rNotB, L2.start, List.map_cons, List.map_nil, List.length_cons, List.length_nil, List.replicate, List.cons_append, List.nil_append, List.append_nil, List.getElem?_cons_zero, List.getElem?_cons_succ, List.set_cons_zero, List.set_cons_succ, Nat.reduceAdd, Nat.reduceSub, Option.some.injEq, exists_eq_left', exists_eq_left, V.int.injEq, V.bl.injEq, V.str.injEq, V.ref.injEq, List.cons.injEq, and_true, true_and, and_assoc, reduceCtorEq, false_and, exists_false, or_false, false_or, exists_and_left, exists_const, scal, Int.reduceLT, Int.reduceLE, Int.reduceSub, Int.reduceAdd, Int.reduceNeg, if_true, if_false]
    refine rd_signs (p := plC) (fun R r => ⟨_, rfl, x, rfl, r⟩) hx (fun _ => rfl) (fun c H'' R _ _ go => ?_) fun D H' s1 hD => all_bl hD (q H' s1)
    simp only [tSeq, tIfS, tOr, tAnd, tB, tTest, tCB, tCons, tVar, tC, tNil, tNot, tNotV, tRet, tRetN, tNext, tBreak, tOrV, tAndV, tOp, tUn, rEq, rNe, tChain, rI0, rI, rU, tAsg, gName, tDrop, tAug, ipI, tIf, tCall, tCallS, tLst, tTup, tBM, tBM0, rAppend, rExtend, rPop, rReverse, tyV, rIxL, rIxT, rIxS, rIsB, rNotB, L2.start, List.map_cons, List.map_nil, List.length_cons, List.length_nil, List.replicate, List.cons_append, List.nil_append, List.append_nil, List.getElem?_cons_zero, List.getElem?_cons_succ, List.set_cons_zero, List.set_cons_succ, Nat.reduceAdd, Nat.reduceSub, Option.some.injEq, exists_eq_left', exists_eq_left, V.int.injEq, V.bl.injEq, V.str.injEq, V.ref.injEq, List.cons.injEq, and_true, true_and, and_assoc, reduceCtorEq, false_and, exists_false, or_false, false_or, exists_and_left, exists_const, scal, Int.reduceLT, Int.reduceLE, Int.reduceSub, Int.reduceAdd, Int.reduceNeg, if_true, if_false, wipe]
    rw [show (" " : Str).cps.toList = [32] from rfl, show ("~" : Str).cps.toList = [126] from rfl, lt_one, lt_one]
    have e1 : plC c = (!decide (c < 32) && (!decide (126 < c) && !decide (c = 37))) := by
      unfold plC
      have h1 : decide (32 ≤ c) = !decide (c < 32) := by rw [← decide_not]; exact decide_eq_decide.2 (by omega)
      have h2 : decide (c ≤ 126) = !decide (126 < c) := by rw [← decide_not]; exact decide_eq_decide.2 (by omega)
      rw [h1, h2]
    have e2 : decide ((((#[c] : Array Nat).getD 0 0 : Nat) : Int) = 37) = decide (c = 37) := decide_eq_decide.2 (by show (c : Int) = 37 ↔ _; omega)
    have g2 := go H'' (Same.refl _)
    rw [e1] at g2
    cases h1 : (!decide (c < 32)) with
    | false => rw [h1] at g2; exact iteF g2
    | true =>
      rw [h1] at g2
      refine iteT ?_
      cases h2 : (!decide (126 < c)) with
      | false => rw [h2] at g2; exact iteF g2
      | true =>
        rw [h2] at g2
        refine iteT ⟨rfl, ?_⟩
        rw [e2]
        exact g2
theorem pre1 (c : Nat) (r : List Nat) : TL.pre [32] (c :: r) = decide (c = 32) := by
  unfold TL.pre
  simp
  rfl
theorem spl_facts : ∀ (cs acc : List Nat), 32 ∉ acc → (∀ w ∈ TL.spl [32] 0 acc cs, 32 ∉ w) ∧ (∀ p : Nat → Bool, p 32 = true → (acc ++ cs).all p = (TL.spl [32] 0 acc cs).all fun w => w.all p) ∧ ((TL.spl [32] 0 acc cs).map List.length).sum + (TL.spl [32] 0 acc cs).length = acc.length + cs.length + 1
  | [], acc, h => by
    rw [TL.spl_nil]
    refine ⟨fun w hw => ?_, fun p _ => ?_, ?_⟩
    · rw [List.mem_singleton.mp hw]; exact h
    · simp
    · simp
  | c :: r, acc, h => by
    by_cases e : c = 32
    · rw [TL.spl_hit (by rw [pre1]; exact decide_eq_true e)]
      obtain ⟨h1, h2, h3⟩ := spl_facts r [] (fun z => nomatch z)
      rw [show ([32] : List Nat).length - 1 = 0 from rfl]
      refine ⟨fun w hw => ?_, fun p hp => ?_, ?_⟩
      · rcases List.mem_cons.mp hw with rfl | hw
        · exact h
        · exact h1 w hw
      · have h4 := h2 p hp
        rw [List.nil_append] at h4
        rw [List.all_append, List.all_cons, List.all_cons, ← h4, e, hp, Bool.true_and]
      · simp only [List.map_cons, List.sum_cons, List.length_cons, List.length_nil] at h3 ⊢
        omega
    · rw [TL.spl_miss (by rw [pre1]; exact decide_eq_false e)]
      have ha : 32 ∉ acc ++ [c] := fun z => by
        rcases List.mem_append.mp z with z | z
        · exact h z
        · exact e (List.mem_singleton.mp z).symm
      obtain ⟨h1, h2, h3⟩ := spl_facts r (acc ++ [c]) ha
      refine ⟨h1, fun p hp => ?_, ?_⟩
      · rw [← h2 p hp, List.append_assoc]
        rfl
      · rw [h3, List.length_append, List.length_singleton, List.length_cons]
        omega
/-- the words of a line -/
def spw (x : Str) : List Str := Txt.split x " "
theorem spw_tl (x : Str) : (spw x).map (fun z => z.cps.toList) = TL.spl [32] 0 [] x.cps.toList := TL.split_spl x " " (by decide) (TL.kind_ok (by decide +kernel))
theorem spw_facts (x : Str) : (∀ w ∈ spw x, 32 ∉ w.cps.toList) ∧ (∀ p : Nat → Bool, p 32 = true → x.cps.toList.all p = (spw x).all fun w => w.cps.toList.all p) ∧ ((spw x).map (fun z => z.length)).sum + (spw x).length = x.length + 1 := by
  obtain ⟨h1, h2, h3⟩ := spl_facts x.cps.toList [] (fun z => nomatch z)
  rw [← spw_tl x] at h1 h2 h3
  refine ⟨fun w hw => h1 _ (List.mem_map.mpr ⟨w, hw, rfl⟩), fun p hp => ?_, ?_⟩
  · have h := h2 p hp
    rw [List.nil_append, List.all_map] at h
    exact h
  · rw [List.map_map, List.length_map, List.length_nil, Nat.zero_add] at h3
    exact h3
theorem spw_len (x : Str) : (spw x).length ≤ x.length + 1 ∧ ∀ w ∈ spw x, w.length ≤ x.length + 1 := by
  obtain ⟨_, _, h3⟩ := spw_facts x
  refine ⟨by omega, fun w hw => ?_⟩
  have : ∀ l : List Str, w ∈ l → w.length ≤ (l.map (fun z => z.length)).sum := fun l => by
    induction l with
    | nil => exact fun h => nomatch h
    | cons z l ih =>
      intro h
      rw [List.map_cons, List.sum_cons]
      rcases List.mem_cons.mp h with rfl | h
      · omega
      · have := ih h
        omega
  have := this _ hw
  omega
/-- a line that is not malformed -/
def okLine (x : Str) : Bool := plS x && !inV (.str "") ((spw x).map V.str)
def resLine (x : Str) (Q : VK) (H : Hp) : Prop := (okLine x = false → ∀ H', Same H H' → Q .non H') ∧ (okLine x = true → ∀ L H', Same H H' → H' L = some (.lst ((spw x).map V.str)) → Q (.ref L) H')
def spWordsOf : Sp := fun vs H Q _ => ∃ x : Str, vs = [.str x] ∧ x.length ≤ 1000 ∧ resLine x Q H
theorem flat_strs (xs : List Str) : (xs.map V.str).all flatV = true := by
  rw [List.all_eq_true]
  intro x hx
  obtain ⟨y, _, rfl⟩ := List.mem_map.mp hx
  rfl
theorem ok_words_of (T : Txt K mg cx) : FK.Has P w K mg base CX0 2 "words_of" ["line"] spWordsOf := by
  have H_is_plain := ok_is_plain (P := P) (w := w) (base := base) T
  refine T.d_words_of.ok sc_words_of (fun vs H Q E h => ?_) (fun f cdv A outer s H vs Q E hr h => ?_)
  · obtain ⟨x, rfl, _⟩ := h
    rfl
  · obtain ⟨x, rfl, hx, qn, qy⟩ := h
    refine ⟨_, (pss_cons (ps_set (i := 1) sc_words_of.nd rfl (Or.inl rfl) (by exact (pe_split (pv 0) pe_str)))
  (pss_cons (ps_if (PW.pt (pw_or (pt_not (pt_val (FK.pe_h (E := E0) H_is_plain (hr.mono (by decide)) pass0 (pa_cons (pv 0) pa_nil)))) (pw_or1 (pt_cmpR (show OpR _ (compareOp .In) (rIn K false) from op_in_seq) pe_str (pv 1) (by rfl))))) (pss_one (ps_ret pe_non)) pss_nil)
  (pss_one (ps_ret (pv 1))))), ?_⟩
    simp only [tSeq, tIfS, tOr, tAnd, tB, tTest, tCB, tCons, tVar, tC, tNil, tNot, tNotV, tRet, tRetN, tNext, tBreak, tOrV, tAndV, tOp, tUn, rEq, rNe, tChain, rI0, rI, rU, tAsg, gName, tDrop, tAug, ipI, tIf, tCall, tCallS, tLst, tTup, tBM, tBM0, rAppend, rExtend, rPop, rReverse, tyV, rIxL, rIxT, rIxS, rIsB, rNotB, L2.start, List.map_cons, List.map_nil, List.length_cons, List.length_nil, List.replicate, List.cons_append, List.nil_append, List.append_nil, List.getElem?_cons_zero, List.getElem?_cons_succ, List.set_cons_zero, List.set_cons_succ, Nat.reduceAdd, Nat.reduceSub, Option.some.injEq, exists_eq_left', exists_eq_left, V.int.injEq, V.bl.injEq, V.str.injEq, V.ref.injEq, List.cons.injEq, and_true, true_and, and_assoc, reduceCtorEq, false_and, exists_false, or_false, false_or, exists_and_left, exists_const, scal, Int.reduceLT, Int.reduceLE, Int.reduceSub, Int.reduceAdd, Int.reduceNeg, if_true, if_false, tM1, rNewStrs]
    refine ⟨⟨_, rfl⟩, by decide +kernel, Nat.le_trans (show x.length + 2 ≤ 2000 by omega) (by decide), fun p hp => ⟨x, rfl, Nat.lt_of_le_of_lt hx (by decide), fun H1 s1 => ⟨_, rfl, ?_⟩⟩⟩
    have e1 : H1 p = some (.lst ((spw x).map V.str)) := s1 _ _ upd_same
    have s01 := (FK.same_new (o := HO.lst ((spw x).map V.str)) hp).trans s1
    unfold okLine at qn qy
    cases c : plS x with
    | false =>
      rw [c] at qn
      exact iteT' rfl (qn rfl _ s01)
    | true =>
      rw [c] at qn qy
      refine iteF' (by decide) ⟨_, _, rfl, .inl (SqL.of e1), rfl, flat_strs _, _, rfl, ?_⟩
      cases c2 : inV (.str "") ((spw x).map V.str) with
      | true =>
        rw [c2] at qn
        exact iteT' (by simp) (qn rfl _ s01)
      | false =>
        rw [c2] at qy
        exact iteF' (by simp) (qy rfl p _ s01 e1)
theorem abc_in (c : Nat) : decide (c ∈ ("abcdefghijklmnopqrstuvwxyz" : Str).cps.toList) = decide (97 ≤ c ∧ c ≤ 122) := by
  refine decide_eq_decide.2 ⟨?_, fun h => ?_⟩
  · have : ∀ c ∈ ("abcdefghijklmnopqrstuvwxyz" : Str).cps.toList, 97 ≤ c ∧ c ≤ 122 := by decide +kernel
    exact this c
  · have : ∀ k : Fin 26, 97 + k.1 ∈ ("abcdefghijklmnopqrstuvwxyz" : Str).cps.toList := by decide +kernel
    have h2 := this ⟨c - 97, by omega⟩
    rw [show 97 + (c - 97) = c by omega] at h2
    exact h2
def spName : Sp := fun vs H Q _ => ∃ x : Str, vs = [.str x] ∧ x.length < sizeLine ∧ ∀ H', Same H H' → Q (.bl (decide (1 ≤ x.length ∧ x.length ≤ 12) && x.cps.toList.all fun c => decide (97 ≤ c ∧ c ≤ 122))) H'
theorem ok_is_name (T : Txt K mg cx) : FK.Has P w K mg base CX0 1 "is_name" ["word"] spName := by
  refine T.d_is_name.ok sc_is_name (fun vs H Q E h => ?_) (fun f cdv A outer s H vs Q E hr h => ?_)
  · obtain ⟨x, rfl, _⟩ := h
    rfl
  · obtain ⟨x, rfl, hx, q⟩ := h
    refine ⟨_, (pss_one (ps_ret (pe_and (pe_chain op_le op_le pe_int (pe_callB call_len_str (by rfl) T.n_len PySem.boot_len (pa_cons (pv 0) pa_nil)) (pe_glob (v := .int 12) rfl T.c_MOST_IN_NAME ⟨_, rfl⟩)) (pe_one (pe_callB (cr_all rfl) (by rfl) T.n_all (by decide +kernel) (pa_cons (pe_lc (own := [("mark", 1)]) (g := gName 1) (tt := tYes) rfl sc_is_name.nd (pi_str (pv 0)) (blkOk_by (own := [("mark", 1)]) (N := ["word", "mark"]) (sc := defScope s_is_name) (by decide +kernel)) (fun _ _ _ _ _ => (pg_name (i := 1) sc_is_name.nd rfl (Or.inl rfl))) (fun _ _ _ _ _ => pts_nil) (fun _ _ _ _ _ => (pe_chain op_le_str op_le_str pe_str (pv 1) pe_str))) pa_nil)))))), ?_⟩
    simp only [tSeq, tIfS, tOr, tAnd, tB, tTest, tCB, tCons, tVar, tC, tNil, tNot, tNotV, tRet, tRetN, tNext, tBreak, tOrV, tAndV, tOp, tUn, rEq, rNe, tChain, rI0, rI, rU, tAsg, gName, tDrop, tAug, ipI, tIf, tCall, tCallS, tLst, tTup, tBM, tBM0, rAppend, rExtend, rPop, rReverse, tyV, rIxL, rIxT, rIxS, rIsB, rNotB, L2.start, List.map_cons, List.map_nil, List.length_cons, List.length_nil, List.replicate, List.cons_append, List.nil_append, List.append_nil, List.getElem?_cons_zero, List.getElem?_cons_succ, List.set_cons_zero, List.set_cons_succ, Nat.reduceAdd, Nat.reduceSub, Option.some.injEq, exists_eq_left', exists_eq_left, V.int.injEq, V.bl.injEq, V.str.injEq, V.ref.injEq, List.cons.injEq, and_true, true_and, and_assoc, reduceCtorEq, false_and, exists_false, or_false, false_or, exists_and_left, exists_const, scal, Int.reduceLT, Int.reduceLE, Int.reduceSub, Int.reduceAdd, Int.reduceNeg, if_true, if_false]
    refine ⟨Nat.le_of_lt hx, ?_⟩
    cases c1 : decide (1 ≤ (x.length : Int)) with
    | false =>
      refine iteF' (by decide) ?_
      rw [show decide (1 ≤ x.length ∧ x.length ≤ 12) = false from decide_eq_false (fun h => of_decide_eq_false c1 (by omega))] at q
      exact q H (Same.refl _)
    | true =>
      refine iteT' rfl ?_
      cases c2 : decide ((x.length : Int) ≤ 12) with
      | false =>
        refine iteF' (by decide) ?_
        rw [show decide (1 ≤ x.length ∧ x.length ≤ 12) = false from decide_eq_false (fun h => of_decide_eq_false c2 (by omega))] at q
        exact q H (Same.refl _)
      | true =>
        refine iteT' rfl ?_
        have k1 := of_decide_eq_true c1
        have k2 := of_decide_eq_true c2
        rw [show decide (1 ≤ x.length ∧ x.length ≤ 12) = true from decide_eq_true ⟨by omega, by omega⟩] at q
        refine rd_signs (p := fun c => decide (97 ≤ c ∧ c ≤ 122)) (fun R r => ⟨_, rfl, x, rfl, r⟩) hx (fun _ => rfl) (fun c H'' R _ _ go => ?_) fun D H' s1 hD => all_bl hD (q H' s1)
        simp only [tSeq, tIfS, tOr, tAnd, tB, tTest, tCB, tCons, tVar, tC, tNil, tNot, tNotV, tRet, tRetN, tNext, tBreak, tOrV, tAndV, tOp, tUn, rEq, rNe, tChain, rI0, rI, rU, tAsg, gName, tDrop, tAug, ipI, tIf, tCall, tCallS, tLst, tTup, tBM, tBM0, rAppend, rExtend, rPop, rReverse, tyV, rIxL, rIxT, rIxS, rIsB, rNotB, L2.start, List.map_cons, List.map_nil, List.length_cons, List.length_nil, List.replicate, List.cons_append, List.nil_append, List.append_nil, List.getElem?_cons_zero, List.getElem?_cons_succ, List.set_cons_zero, List.set_cons_succ, Nat.reduceAdd, Nat.reduceSub, Option.some.injEq, exists_eq_left', exists_eq_left, V.int.injEq, V.bl.injEq, V.str.injEq, V.ref.injEq, List.cons.injEq, and_true, true_and, and_assoc, reduceCtorEq, false_and, exists_false, or_false, false_or, exists_and_left, exists_const, scal, Int.reduceLT, Int.reduceLE, Int.reduceSub, Int.reduceAdd, Int.reduceNeg, if_true, if_false, wipe]
        have e1 : decide (97 ≤ c ∧ c ≤ 122) = (!decide (c < 97) && !decide (122 < c)) := by
          rw [← decide_not, ← decide_not, ← Bool.decide_and]
          exact decide_eq_decide.2 (by omega)
        rw [show ("a" : Str).cps.toList = [97] from rfl, show ("z" : Str).cps.toList = [122] from rfl, lt_one, lt_one]
        have g2 := go H'' (Same.refl _)
        rw [e1] at g2
        cases h1 : (!decide (c < 97)) with
        | false => rw [h1] at g2; exact iteF g2
        | true => rw [h1] at g2; exact iteT g2
theorem ok_law_is_name (T : Txt K mg cx) : FK.Has P w K mg base CX0 1 "_law_is_name" ["word"] spName := by
  refine T.d_law_is_name.ok sc_law_is_name (fun vs H Q E h => ?_) (fun f cdv A outer s H vs Q E hr h => ?_)
  · obtain ⟨x, rfl, _⟩ := h
    rfl
  · obtain ⟨x, rfl, hx, q⟩ := h
    refine ⟨_, (pss_one (ps_ret (pe_and (pe_chain op_le op_le pe_int (pe_callB call_len_str (by rfl) T.n_len PySem.boot_len (pa_cons (pv 0) pa_nil)) pe_int) (pe_one (pe_callB (cr_all rfl) (by rfl) T.n_all (by decide +kernel) (pa_cons (pe_lc (own := [("char", 1)]) (g := gName 1) (tt := tYes) rfl sc_law_is_name.nd (pi_str (pv 0)) (blkOk_by (own := [("char", 1)]) (N := ["word", "char"]) (sc := defScope s_law_is_name) (by decide +kernel)) (fun _ _ _ _ _ => (pg_name (i := 1) sc_law_is_name.nd rfl (Or.inl rfl))) (fun _ _ _ _ _ => pts_nil) (fun _ _ _ _ _ => (pe_cmpR op_in_sign (pv 1) pe_str (by rfl)))) pa_nil)))))), ?_⟩
    simp only [tSeq, tIfS, tOr, tAnd, tB, tTest, tCB, tCons, tVar, tC, tNil, tNot, tNotV, tRet, tRetN, tNext, tBreak, tOrV, tAndV, tOp, tUn, rEq, rNe, tChain, rI0, rI, rU, tAsg, gName, tDrop, tAug, ipI, tIf, tCall, tCallS, tLst, tTup, tBM, tBM0, rAppend, rExtend, rPop, rReverse, tyV, rIxL, rIxT, rIxS, rIsB, rNotB, L2.start, List.map_cons, List.map_nil, List.length_cons, List.length_nil, List.replicate, List.cons_append, List.nil_append, List.append_nil, List.getElem?_cons_zero, List.getElem?_cons_succ, List.set_cons_zero, List.set_cons_succ, Nat.reduceAdd, Nat.reduceSub, Option.some.injEq, exists_eq_left', exists_eq_left, V.int.injEq, V.bl.injEq, V.str.injEq, V.ref.injEq, List.cons.injEq, and_true, true_and, and_assoc, reduceCtorEq, false_and, exists_false, or_false, false_or, exists_and_left, exists_const, scal, Int.reduceLT, Int.reduceLE, Int.reduceSub, Int.reduceAdd, Int.reduceNeg, if_true, if_false]
    refine ⟨Nat.le_of_lt hx, ?_⟩
    cases c1 : decide (1 ≤ (x.length : Int)) with
    | false =>
      refine iteF' (by decide) ?_
      rw [show decide (1 ≤ x.length ∧ x.length ≤ 12) = false from decide_eq_false (fun h => of_decide_eq_false c1 (by omega))] at q
      exact q H (Same.refl _)
    | true =>
      refine iteT' rfl ?_
      cases c2 : decide ((x.length : Int) ≤ 12) with
      | false =>
        refine iteF' (by decide) ?_
        rw [show decide (1 ≤ x.length ∧ x.length ≤ 12) = false from decide_eq_false (fun h => of_decide_eq_false c2 (by omega))] at q
        exact q H (Same.refl _)
      | true =>
        refine iteT' rfl ?_
        have k1 := of_decide_eq_true c1
        have k2 := of_decide_eq_true c2
        rw [show decide (1 ≤ x.length ∧ x.length ≤ 12) = true from decide_eq_true ⟨by omega, by omega⟩] at q
        refine rd_signs (p := fun c => decide (97 ≤ c ∧ c ≤ 122)) (fun R r => ⟨_, rfl, x, rfl, r⟩) hx (fun _ => rfl) (fun c H'' R _ _ go => ?_) fun D H' s1 hD => all_bl hD (q H' s1)
        simp only [tSeq, tIfS, tOr, tAnd, tB, tTest, tCB, tCons, tVar, tC, tNil, tNot, tNotV, tRet, tRetN, tNext, tBreak, tOrV, tAndV, tOp, tUn, rEq, rNe, tChain, rI0, rI, rU, tAsg, gName, tDrop, tAug, ipI, tIf, tCall, tCallS, tLst, tTup, tBM, tBM0, rAppend, rExtend, rPop, rReverse, tyV, rIxL, rIxT, rIxS, rIsB, rNotB, L2.start, List.map_cons, List.map_nil, List.length_cons, List.length_nil, List.replicate, List.cons_append, List.nil_append, List.append_nil, List.getElem?_cons_zero, List.getElem?_cons_succ, List.set_cons_zero, List.set_cons_succ, Nat.reduceAdd, Nat.reduceSub, Option.some.injEq, exists_eq_left', exists_eq_left, V.int.injEq, V.bl.injEq, V.str.injEq, V.ref.injEq, List.cons.injEq, and_true, true_and, and_assoc, reduceCtorEq, false_and, exists_false, or_false, false_or, exists_and_left, exists_const, scal, Int.reduceLT, Int.reduceLE, Int.reduceSub, Int.reduceAdd, Int.reduceNeg, if_true, if_false, wipe]
        refine ⟨c, rfl, ?_⟩
        have g2 := go H'' (Same.refl _)
        rw [abc_in]
        exact g2

end
end K89

namespace K89
open PySem PySem.Spec PyProof.Rows L2
section
variable {P : Program} {w : World} {K : PySem.W.Frag} {mg : Str → Option Value} {base : Heap} {cx : Xs}
/-- the numbers from 0 to 99 as texts -/
def numS (k : Nat) : Str := Str.ofString (toString ((k : Nat) : Int))
def nums : List Str := (List.range 100).map numS
theorem num_int : ∀ k : Fin 100, PySem.intText? (numS k.1) = some (k.1 : Int) ∧ (numS k.1).length ≤ 640 := by decide +kernel
theorem num_ok : ∀ k : Fin 100, ((k.1 : Nat) : Int).natAbs.log2 < 1920 := by decide +kernel
def isNum (x : Str) : Bool := inV (.str x) (nums.map V.str)
theorem isNum_ex {x : Str} (h : isNum x = true) : ∃ k : Nat, k < 100 ∧ x = numS k := by
  unfold isNum inV at h
  obtain ⟨v, hv, e⟩ := List.any_eq_true.mp h
  obtain ⟨y, hy, rfl⟩ := List.mem_map.mp hv
  obtain ⟨k, hk, rfl⟩ := List.mem_map.mp hy
  refine ⟨k, List.mem_range.mp hk, ?_⟩
  have e2 : eqV (V.str (numS k)) (V.str x) = true := e
  unfold eqV at e2
  have e3 : numS k = x := by simpa using e2
  exact e3.symm
def spNum : Sp := fun vs H Q _ => ∃ x : Str, vs = [.str x] ∧ (isNum x = false → ∀ H', Same H H' → Q .non H') ∧ ∀ k : Nat, k < 100 → x = numS k → ∀ H', Same H H' → Q (.int (k : Nat)) H'
theorem rd_nums {i : Nat} {te : TE} {vs : List Nat} {σ : L2.St} {H : Hp} {Q : VK} {wi : TI} (hw : ∀ R : It → Hp → Prop, R (Itr 0 100) H → wi σ H R) (hv : ∀ v, wipe ((wipe σ vs).set i (some v)) vs = wipe σ vs)
    (hs : ∀ (k : Nat) H' (R : VK), k < 100 → R (.str (numS k)) H' → te ((wipe σ vs).set i (some (.int (k : Nat)))) H' R) (hd : ∀ D H', Same H H' → H' D = some (.lst (nums.map V.str)) → Q (.ref D) H') : tLc wi (gName i) tYes te vs σ H Q := by
  have hn : (nums.map V.str).length = 100 := by unfold nums; simp
  refine FK.rd_lc_same (J := Itr 0 100) (H1 := H) (nums.map V.str) hw (by rw [hn]; exact walk_range) (fun _ _ => trivial) (by rw [hn]; decide) hv ?_ (fun D H' _ s1 hD => hd D H' s1 hD) (fun _ _ _ _ (z : _ ∧ _) => by rw [z.1]; exact Same.refl _)
  rintro j v z H' H'' R hz s1 ⟨rfl, rfl⟩ go
  have hj : j < 100 := by
    have := (List.getElem?_eq_some_iff.mp hz).1
    omega
  unfold nums at hz
  rw [List.getElem?_map, List.getElem?_map, List.getElem?_range hj] at hz
  cases hz
  show te (List.set (wipe σ vs) i (some (V.int (0 + (j : Nat))))) _ R
  rw [Int.zero_add]
  exact hs j _ R hj (go _ (Same.refl _))
theorem ok_number_in (T : Txt K mg cx) : FK.Has P w K mg base CX0 1 "number_in" ["word"] spNum := by
  refine T.d_number_in.ok sc_number_in (fun vs H Q E h => ?_) (fun f cdv A outer s H vs Q E hr h => ?_)
  · obtain ⟨x, rfl, _⟩ := h
    rfl
  · obtain ⟨x, rfl, qn, qy⟩ := h
    refine ⟨_, (pss_one (ps_ret (pe_ifExp (pt_cmpR (show OpR _ (compareOp .In) (rIn K false) from op_in_seq) (pv 0) (pe_lc (own := [("number", 1)]) (g := gName 1) (tt := tYes) rfl sc_number_in.nd (pi_range1 rfl T.n_range (pa_cons (pe_glob (v := .int 100) rfl T.c_NUMBERS ⟨_, rfl⟩) pa_nil)) (blkOk_by (own := [("number", 1)]) (N := ["word", "number"]) (sc := defScope s_number_in) (by decide +kernel)) (fun _ _ _ _ _ => (pg_name (i := 1) sc_number_in.nd rfl (Or.inl rfl))) (fun _ _ _ _ _ => pts_nil) (fun _ _ _ _ _ => (pe_callTy call_str_int (by rfl) T.n_str (by decide +kernel) (pa_cons (pv 1) pa_nil)))) (by rfl)) (pe_callTy call_int_str (by rfl) T.n_int (by decide +kernel) (pa_cons (pv 0) pa_nil)) pe_non))), ?_⟩
    simp only [tSeq, tIfS, tOr, tAnd, tB, tTest, tCB, tCons, tVar, tC, tNil, tNot, tNotV, tRet, tRetN, tNext, tBreak, tOrV, tAndV, tOp, tUn, rEq, rNe, tChain, rI0, rI, rU, tAsg, gName, tDrop, tAug, ipI, tIf, tCall, tCallS, tLst, tTup, tBM, tBM0, rAppend, rExtend, rPop, rReverse, tyV, rIxL, rIxT, rIxS, rIsB, rNotB, L2.start, List.map_cons, List.map_nil, List.length_cons, List.length_nil, List.replicate, List.cons_append, List.nil_append, List.append_nil, List.getElem?_cons_zero, List.getElem?_cons_succ, List.set_cons_zero, List.set_cons_succ, Nat.reduceAdd, Nat.reduceSub, Option.some.injEq, exists_eq_left', exists_eq_left, V.int.injEq, V.bl.injEq, V.str.injEq, V.ref.injEq, List.cons.injEq, and_true, true_and, and_assoc, reduceCtorEq, false_and, exists_false, or_false, false_or, exists_and_left, exists_const, scal, Int.reduceLT, Int.reduceLE, Int.reduceSub, Int.reduceAdd, Int.reduceNeg, if_true, if_false]
    refine rd_nums (fun R r => ⟨100, rfl, by decide, by decide, r⟩) (fun _ => rfl) (fun k H' R hk r => ?_) fun D H' s1 hD => ?_
    · simp only [tSeq, tIfS, tOr, tAnd, tB, tTest, tCB, tCons, tVar, tC, tNil, tNot, tNotV, tRet, tRetN, tNext, tBreak, tOrV, tAndV, tOp, tUn, rEq, rNe, tChain, rI0, rI, rU, tAsg, gName, tDrop, tAug, ipI, tIf, tCall, tCallS, tLst, tTup, tBM, tBM0, rAppend, rExtend, rPop, rReverse, tyV, rIxL, rIxT, rIxS, rIsB, rNotB, L2.start, List.map_cons, List.map_nil, List.length_cons, List.length_nil, List.replicate, List.cons_append, List.nil_append, List.append_nil, List.getElem?_cons_zero, List.getElem?_cons_succ, List.set_cons_zero, List.set_cons_succ, Nat.reduceAdd, Nat.reduceSub, Option.some.injEq, exists_eq_left', exists_eq_left, V.int.injEq, V.bl.injEq, V.str.injEq, V.ref.injEq, List.cons.injEq, and_true, true_and, and_assoc, reduceCtorEq, false_and, exists_false, or_false, false_or, exists_and_left, exists_const, scal, Int.reduceLT, Int.reduceLE, Int.reduceSub, Int.reduceAdd, Int.reduceNeg, if_true, if_false, wipe]
      exact ⟨num_ok ⟨k, hk⟩, r⟩
    · refine ⟨D, _, rfl, .inl (SqL.of hD), rfl, flat_strs _, _, rfl, ?_⟩
      cases c : isNum x with
      | true =>
        obtain ⟨k, hk, rfl⟩ := isNum_ex c
        obtain ⟨h1, h2⟩ := num_int ⟨k, hk⟩
        exact iteT' (by show (if false = true then !isNum _ else isNum _) = true; rw [c]; rfl) ⟨_, h1, h2, qy k hk rfl H' s1⟩
      | false => exact iteF' (by show ¬ (if false = true then !isNum _ else isNum _) = true; rw [c]; decide) (qn c H' s1)
theorem ok_law_number (T : Txt K mg cx) : FK.Has P w K mg base CX0 1 "_law_number" ["word"] spNum := by
  refine T.d_law_number.ok sc_law_number (fun vs H Q E h => ?_) (fun f cdv A outer s H vs Q E hr h => ?_)
  · obtain ⟨x, rfl, _⟩ := h
    rfl
  · obtain ⟨x, rfl, qn, qy⟩ := h
    refine ⟨_, (pss_cons (ps_if (pt_cmpR (show OpR _ (compareOp .NotIn) (rIn K true) from op_notIn_seq) (pv 0) (pe_lc (own := [("number", 1)]) (g := gName 1) (tt := tYes) rfl sc_law_number.nd (pi_range1 rfl T.n_range (pa_cons pe_int pa_nil)) (blkOk_by (own := [("number", 1)]) (N := ["word", "number"]) (sc := defScope s_law_number) (by decide +kernel)) (fun _ _ _ _ _ => (pg_name (i := 1) sc_law_number.nd rfl (Or.inl rfl))) (fun _ _ _ _ _ => pts_nil) (fun _ _ _ _ _ => (pe_callTy call_str_int (by rfl) T.n_str (by decide +kernel) (pa_cons (pv 1) pa_nil)))) (by rfl)) (pss_one (ps_ret pe_non)) pss_nil)
  (pss_one (ps_ret (pe_callTy call_int_str (by rfl) T.n_int (by decide +kernel) (pa_cons (pv 0) pa_nil))))), ?_⟩
    simp only [tSeq, tIfS, tOr, tAnd, tB, tTest, tCB, tCons, tVar, tC, tNil, tNot, tNotV, tRet, tRetN, tNext, tBreak, tOrV, tAndV, tOp, tUn, rEq, rNe, tChain, rI0, rI, rU, tAsg, gName, tDrop, tAug, ipI, tIf, tCall, tCallS, tLst, tTup, tBM, tBM0, rAppend, rExtend, rPop, rReverse, tyV, rIxL, rIxT, rIxS, rIsB, rNotB, L2.start, List.map_cons, List.map_nil, List.length_cons, List.length_nil, List.replicate, List.cons_append, List.nil_append, List.append_nil, List.getElem?_cons_zero, List.getElem?_cons_succ, List.set_cons_zero, List.set_cons_succ, Nat.reduceAdd, Nat.reduceSub, Option.some.injEq, exists_eq_left', exists_eq_left, V.int.injEq, V.bl.injEq, V.str.injEq, V.ref.injEq, List.cons.injEq, and_true, true_and, and_assoc, reduceCtorEq, false_and, exists_false, or_false, false_or, exists_and_left, exists_const, scal, Int.reduceLT, Int.reduceLE, Int.reduceSub, Int.reduceAdd, Int.reduceNeg, if_true, if_false]
    refine rd_nums (fun R r => ⟨100, rfl, by decide, by decide, r⟩) (fun _ => rfl) (fun k H' R hk r => ?_) fun D H' s1 hD => ?_
    · simp only [tSeq, tIfS, tOr, tAnd, tB, tTest, tCB, tCons, tVar, tC, tNil, tNot, tNotV, tRet, tRetN, tNext, tBreak, tOrV, tAndV, tOp, tUn, rEq, rNe, tChain, rI0, rI, rU, tAsg, gName, tDrop, tAug, ipI, tIf, tCall, tCallS, tLst, tTup, tBM, tBM0, rAppend, rExtend, rPop, rReverse, tyV, rIxL, rIxT, rIxS, rIsB, rNotB, L2.start, List.map_cons, List.map_nil, List.length_cons, List.length_nil, List.replicate, List.cons_append, List.nil_append, List.append_nil, List.getElem?_cons_zero, List.getElem?_cons_succ, List.set_cons_zero, List.set_cons_succ, Nat.reduceAdd, Nat.reduceSub, Option.some.injEq, exists_eq_left', exists_eq_left, V.int.injEq, V.bl.injEq, V.str.injEq, V.ref.injEq, List.cons.injEq, and_true, true_and, and_assoc, reduceCtorEq, false_and, exists_false, or_false, false_or, exists_and_left, exists_const, scal, Int.reduceLT, Int.reduceLE, Int.reduceSub, Int.reduceAdd, Int.reduceNeg, if_true, if_false, wipe]
      exact ⟨num_ok ⟨k, hk⟩, r⟩
    · refine ⟨D, _, rfl, .inl (SqL.of hD), rfl, flat_strs _, _, rfl, ?_⟩
      cases c : isNum x with
      | true =>
        obtain ⟨k, hk, rfl⟩ := isNum_ex c
        obtain ⟨h1, h2⟩ := num_int ⟨k, hk⟩
        exact iteF' (by show ¬ (if true = true then !isNum _ else isNum _) = true; rw [c]; decide) ⟨_, h1, h2, qy k hk rfl H' s1⟩
      | false => exact iteT' (by show (if true = true then !isNum _ else isNum _) = true; rw [c]; rfl) (qn c H' s1)
def sgL : List Nat := (List.range 127).filter fun c => decide (33 ≤ c ∧ c ≠ 37)
def spSigns : Sp := fun vs H Q _ => vs = [] ∧ ∀ z : Str, z.cps.toList = sgL → Q (.str z) H
theorem ok_law_signs (T : Txt K mg cx) : FK.Has P w K mg base CX0 1 "_law_signs" [] spSigns := by
  refine T.d_law_signs.ok sc_law_signs (fun vs H Q E h => ?_) (fun f cdv A outer s H vs Q E hr h => ?_)
  · obtain ⟨rfl, _⟩ := h
    rfl
  · obtain ⟨rfl, q⟩ := h
    refine ⟨_, (pss_cons (ps_set (i := 0) sc_law_signs.nd rfl (Or.inl rfl) (by exact pe_str))
  (pss_one (ps_ret (pe_op op_add_str (pv 0) pe_str)))), ?_⟩
    simp only [tSeq, tIfS, tOr, tAnd, tB, tTest, tCB, tCons, tVar, tC, tNil, tNot, tNotV, tRet, tRetN, tNext, tBreak, tOrV, tAndV, tOp, tUn, rEq, rNe, tChain, rI0, rI, rU, tAsg, gName, tDrop, tAug, ipI, tIf, tCall, tCallS, tLst, tTup, tBM, tBM0, rAppend, rExtend, rPop, rReverse, tyV, rIxL, rIxT, rIxS, rIsB, rNotB, L2.start, List.map_cons, List.map_nil, List.length_cons, List.length_nil, List.replicate, List.cons_append, List.nil_append, List.append_nil, List.getElem?_cons_zero, List.getElem?_cons_succ, List.set_cons_zero, List.set_cons_succ, Nat.reduceAdd, Nat.reduceSub, Option.some.injEq, exists_eq_left', exists_eq_left, V.int.injEq, V.bl.injEq, V.str.injEq, V.ref.injEq, List.cons.injEq, and_true, true_and, and_assoc, reduceCtorEq, false_and, exists_false, or_false, false_or, exists_and_left, exists_const, scal, Int.reduceLT, Int.reduceLE, Int.reduceSub, Int.reduceAdd, Int.reduceNeg, if_true, if_false]
    exact ⟨by decide +kernel, q _ (by decide +kernel)⟩
theorem sg_in {z : Str} (h : z.cps.toList = sgL) (c : Nat) : decide (c ∈ z.cps.toList) = (plC c && !decide (c = 32)) := by
  rw [h]
  unfold sgL plC
  rw [← decide_not, ← decide_not, ← Bool.decide_and, ← Bool.decide_and, ← Bool.decide_and]
  refine decide_eq_decide.2 ?_
  rw [List.mem_filter, List.mem_range, decide_eq_true_iff]
  omega
/-- a word of a line that is not malformed -/
def okWd (x : Str) : Bool := !decide (x = "") && x.cps.toList.all fun c => plC c && !decide (c = 32)
theorem okLine_eq (x : Str) : okLine x = (spw x).all okWd := by
  obtain ⟨h1, h2, _⟩ := spw_facts x
  unfold okLine plS
  rw [h2 plC (by decide)]
  have e2 : inV (.str "") ((spw x).map V.str) = (spw x).any fun w => decide (w = "") := by
    unfold inV
    rw [List.any_map]
    refine List.any_congr rfl fun w => ?_
    show eqV (V.str w) (V.str "") = _
    unfold eqV
    exact decide_eq_decide.2 (by simp)
  rw [e2]
  rw [Bool.eq_iff_iff]
  simp only [Bool.and_eq_true, Bool.not_eq_true', List.all_eq_true, List.any_eq_false, decide_eq_true_eq]
  unfold okWd
  simp only [Bool.and_eq_true, Bool.not_eq_true', decide_eq_false_iff_not, List.all_eq_true]
  constructor
  · rintro ⟨a1, a2⟩ w hw
    exact ⟨a2 w hw, fun c hc => ⟨a1 w hw c hc, fun z => h1 w hw (z ▸ hc)⟩⟩
  · intro h
    exact ⟨fun w hw c hc => ((h w hw).2 c hc).1, fun w hw => (h w hw).1⟩
theorem ok_law_words (T : Txt K mg cx) : FK.Has P w K mg base CX0 2 "_law_words" ["line"] spWordsOf := by
  have H_law_signs := ok_law_signs (P := P) (w := w) (base := base) T
  refine T.d_law_words.ok sc_law_words (fun vs H Q E h => ?_) (fun f cdv A outer s H vs Q E hr h => ?_)
  · obtain ⟨x, rfl, _⟩ := h
    rfl
  · obtain ⟨x, rfl, hx, qn, qy⟩ := h
    refine ⟨_, (pss_cons (ps_set (i := 1) sc_law_words.nd rfl (Or.inl rfl) (by exact (pe_split (pv 0) pe_str)))
  (pss_cons (ps_for PassesOwn.never rfl (pi_list (pv 1)) (pg_name (i := 2) sc_law_words.nd rfl (Or.inl rfl))
  (pss_one (ps_if (PW.pt (pw_or (pt_cmpR op_eq (pv 2) pe_str (nomark _)) (pw_or1 (pt_not (pt_val (pe_callB (cr_all rfl) (by rfl) T.n_all (by decide +kernel) (pa_cons (pe_lc (own := [("char", 3)]) (g := gName 3) (tt := tYes) rfl sc_law_words.nd (pi_str (pv 2)) (blkOk_by (own := [("char", 3)]) (N := ["line", "words", "word", "char"]) (sc := defScope s_law_words) (by decide +kernel)) (fun _ _ _ _ _ => (pg_name (i := 3) sc_law_words.nd rfl (Or.inl rfl))) (fun _ _ _ _ _ => pts_nil) (fun _ _ _ _ _ => (pe_cmpR op_in_sign (pv 3) (FK.pe_h0 H_law_signs (hr.mono (by decide)) pass0) (by rfl)))) pa_nil))))))) (pss_one (ps_ret pe_non)) pss_nil)))
  (pss_one (ps_ret (pv 1))))), ?_⟩
    simp only [tSeq, tIfS, tOr, tAnd, tB, tTest, tCB, tCons, tVar, tC, tNil, tNot, tNotV, tRet, tRetN, tNext, tBreak, tOrV, tAndV, tOp, tUn, rEq, rNe, tChain, rI0, rI, rU, tAsg, gName, tDrop, tAug, ipI, tIf, tCall, tCallS, tLst, tTup, tBM, tBM0, rAppend, rExtend, rPop, rReverse, tyV, rIxL, rIxT, rIxS, rIsB, rNotB, L2.start, List.map_cons, List.map_nil, List.length_cons, List.length_nil, List.replicate, List.cons_append, List.nil_append, List.append_nil, List.getElem?_cons_zero, List.getElem?_cons_succ, List.set_cons_zero, List.set_cons_succ, Nat.reduceAdd, Nat.reduceSub, Option.some.injEq, exists_eq_left', exists_eq_left, V.int.injEq, V.bl.injEq, V.str.injEq, V.ref.injEq, List.cons.injEq, and_true, true_and, and_assoc, reduceCtorEq, false_and, exists_false, or_false, false_or, exists_and_left, exists_const, scal, Int.reduceLT, Int.reduceLE, Int.reduceSub, Int.reduceAdd, Int.reduceNeg, if_true, if_false, tM1, rNewStrs]
    refine ⟨⟨_, rfl⟩, by decide +kernel, Nat.le_trans (show x.length + 2 ≤ 2000 by omega) (by decide), fun p hp => ?_⟩
    have s0 := FK.same_new (o := HO.lst ((spw x).map V.str)) hp
    have e0 : upd H p (.lst ((spw x).map V.str)) p = _ := upd_same
    have hlen := spw_len x
    refine FK.rd_for (J := Itl K p) (H1 := upd H p (.lst ((spw x).map V.str))) (fun R r => ⟨_, rfl, p, rfl, ⟨_, SqL.of e0⟩, r⟩) (walk_list (xs := (spw x).map V.str))
      (fun k σ H' => ∃ v2 v3 : Option V, σ = [some (.str x), some (.ref p), v2, v3] ∧ Same (upd H p (.lst ((spw x).map V.str))) H' ∧ ((spw x).take k).all okWd = true) ⟨none, none, rfl, Same.refl _, rfl⟩ (fun _ _ _ _ ⟨_, _, _, s1, _⟩ => SqL.of (s1 _ _ e0)) ?_ ?_
    · rintro k x' σ H1 H2 hk ⟨v2, v3, rfl, s1, hok⟩ ⟨rfl, hx1⟩
      rw [List.getElem?_map] at hx1
      cases e : (spw x)[k]? with
      | none => rw [e] at hx1; cases hx1
      | some y =>
        rw [e] at hx1
        cases hx1
        have hy := hlen.2 y (List.mem_of_getElem? e)
        have fin : okWd y = true → ((spw x).take (k + 1)).all okWd = true := fun h => by
          rw [List.take_add_one, e, List.all_append, hok]
          simpa using h
        have bad : okWd y = false → okLine x = false := fun h => by
          rw [okLine_eq, ← Bool.not_eq_true, List.all_eq_true]
          intro h2
          rw [h2 y (List.mem_of_getElem? e)] at h
          cases h
        simp only [tSeq, tIfS, tOr, tAnd, tB, tTest, tCB, tCons, tVar, tC, tNil, tNot, tNotV, tRet, tRetN, tNext, tBreak, tOrV, tAndV, tOp, tUn, rEq, rNe, tChain, rI0, rI, rU, tAsg, gName, tDrop, tAug, ipI, tIf, tCall, tCallS, tLst, tTup, tBM, tBM0, rAppend, rExtend, rPop, rReverse, tyV, rIxL, rIxT, rIxS, rIsB, rNotB, L2.start, List.map_cons, List.map_nil, List.length_cons, List.length_nil, List.replicate, List.cons_append, List.nil_append, List.append_nil, List.getElem?_cons_zero, List.getElem?_cons_succ, List.set_cons_zero, List.set_cons_succ, Nat.reduceAdd, Nat.reduceSub, Option.some.injEq, exists_eq_left', exists_eq_left, V.int.injEq, V.bl.injEq, V.str.injEq, V.ref.injEq, List.cons.injEq, and_true, true_and, and_assoc, reduceCtorEq, false_and, exists_false, or_false, false_or, exists_and_left, exists_const, scal, Int.reduceLT, Int.reduceLE, Int.reduceSub, Int.reduceAdd, Int.reduceNeg, if_true, if_false]
        by_cases c : y = ""
        · exact iteT' (decide_eq_true c) (qn (bad (by unfold okWd; rw [decide_eq_true c]; rfl)) H2 (s0.trans s1))
        · refine iteF' (by simp [c]) (rd_signs (p := fun c => plC c && !decide (c = 32)) (fun R r => ⟨_, rfl, y, rfl, r⟩) (Nat.lt_of_le_of_lt (show y.length ≤ 2000 by omega) (by decide)) (fun _ => rfl) (fun c H3 R s3 hc go => ?_) fun D H3 s3 hD => all_bl hD ⟨_, rfl, ?_⟩)
          · simp only [tSeq, tIfS, tOr, tAnd, tB, tTest, tCB, tCons, tVar, tC, tNil, tNot, tNotV, tRet, tRetN, tNext, tBreak, tOrV, tAndV, tOp, tUn, rEq, rNe, tChain, rI0, rI, rU, tAsg, gName, tDrop, tAug, ipI, tIf, tCall, tCallS, tLst, tTup, tBM, tBM0, rAppend, rExtend, rPop, rReverse, tyV, rIxL, rIxT, rIxS, rIsB, rNotB, L2.start, List.map_cons, List.map_nil, List.length_cons, List.length_nil, List.replicate, List.cons_append, List.nil_append, List.append_nil, List.getElem?_cons_zero, List.getElem?_cons_succ, List.set_cons_zero, List.set_cons_succ, Nat.reduceAdd, Nat.reduceSub, Option.some.injEq, exists_eq_left', exists_eq_left, V.int.injEq, V.bl.injEq, V.str.injEq, V.ref.injEq, List.cons.injEq, and_true, true_and, and_assoc, reduceCtorEq, false_and, exists_false, or_false, false_or, exists_and_left, exists_const, scal, Int.reduceLT, Int.reduceLE, Int.reduceSub, Int.reduceAdd, Int.reduceNeg, if_true, if_false, wipe]
            refine ⟨rfl, fun z hz => ⟨c, rfl, _, rfl, ?_⟩⟩
            rw [sg_in hz]
            exact go _ (Same.refl _)
          · have eo : okWd y = (y.cps.toList.all fun c => plC c && !decide (c = 32)) := by unfold okWd; rw [decide_eq_false c]; rfl
            rw [← eo]
            cases ok : okWd y with
            | false => exact iteT' rfl (qn (bad ok) H3 ((s0.trans s1).trans s3))
            | true => exact iteF' (by decide) ⟨s1.trans s3, fin ok⟩
    · rintro σ H1 ⟨v2, v3, rfl, s1, hok⟩
      rw [List.length_map, List.take_length, ← okLine_eq] at hok
      simp only [tSeq, tIfS, tOr, tAnd, tB, tTest, tCB, tCons, tVar, tC, tNil, tNot, tNotV, tRet, tRetN, tNext, tBreak, tOrV, tAndV, tOp, tUn, rEq, rNe, tChain, rI0, rI, rU, tAsg, gName, tDrop, tAug, ipI, tIf, tCall, tCallS, tLst, tTup, tBM, tBM0, rAppend, rExtend, rPop, rReverse, tyV, rIxL, rIxT, rIxS, rIsB, rNotB, L2.start, List.map_cons, List.map_nil, List.length_cons, List.length_nil, List.replicate, List.cons_append, List.nil_append, List.append_nil, List.getElem?_cons_zero, List.getElem?_cons_succ, List.set_cons_zero, List.set_cons_succ, Nat.reduceAdd, Nat.reduceSub, Option.some.injEq, exists_eq_left', exists_eq_left, V.int.injEq, V.bl.injEq, V.str.injEq, V.ref.injEq, List.cons.injEq, and_true, true_and, and_assoc, reduceCtorEq, false_and, exists_false, or_false, false_or, exists_and_left, exists_const, scal, Int.reduceLT, Int.reduceLE, Int.reduceSub, Int.reduceAdd, Int.reduceNeg, if_true, if_false]
      exact qy hok p H1 (s0.trans s1) (s1 _ _ e0)

end
end K89

namespace K89
open PySem PySem.Spec PyProof.Rows L2
section
variable {P : Program} {w : World} {K : PySem.W.Frag} {mg : Str → Option Value} {base : Heap} {cx : Xs}
theorem let_in (c : Nat) : decide (c ∈ ("012" : Str).cps.toList) = isLet ⟨#[c]⟩ := by
  have h0 : ("0" : Str) = ⟨#[48]⟩ := by decide +kernel
  have h1 : ("1" : Str) = ⟨#[49]⟩ := by decide +kernel
  have h2 : ("2" : Str) = ⟨#[50]⟩ := by decide +kernel
  rw [show ("012" : Str).cps.toList = [48, 49, 50] from rfl]
  unfold isLet inV
  rw [h0, h1, h2]
  have e : ∀ d : Nat, eqV (V.str ⟨#[d]⟩) (V.str ⟨#[c]⟩) = decide (c = d) := fun d => by
    unfold eqV
    refine decide_eq_decide.2 ?_
    simp [eq_comm]
  simp only [List.any_cons, List.any_nil, e, Bool.or_false]
  rw [Bool.eq_iff_iff]
  simp
/-- what the two defs tell -/
def toldV (n : Int) (x : Str) : V := if n = 0 then (if okWord x 60 = true then .str (if x = "" then "-" else x) else .int 1) else (if x = "-" then .str "" else if x ≠ "" ∧ okWord x 60 = true then .str x else .int 1)
def spTextOf (C : Addr) : Sp := fun vs H Q E => ∃ x : Str, vs = [.str x] ∧ x.length < sizeLine ∧ (okWord x 60 = false → ∀ H', Same H H' → E (.ref C) none H') ∧ (okWord x 60 = true → ∀ H', Same H H' → Q (.str (if x = "" then "-" else x)) H')
theorem ok_text_of (T : Txt K mg cx) : FK.Has P w K mg base (L2.CX P w) 6 "text_of" ["word"] (spTextOf cx.NotWord) := by
  have H_check_word := ok_check_word (P := P) (w := w) (base := base) T
  refine T.d_text_of.okX sc_text_of (fun vs H Q E h => ?_) (fun f cdv A outer s H vs Q E hr h => ?_)
  · obtain ⟨x, rfl, _⟩ := h
    rfl
  · obtain ⟨x, rfl, hx, qE, q⟩ := h
    refine ⟨_, (pss_cons (ps_expr (FK.pe_h (E := E) H_check_word (hr.mono (by decide)) (passes_call (takes_of rfl rfl rfl rfl) (fun _ _ _ _ h => h)) (pa_cons (pv 0) pa_nil)))
  (pss_one (ps_ret (pe_ifExp (pt_cmpR op_ne (pv 0) pe_str (nomark _)) (pv 0) (pe_glob (v := .str "-") rfl T.c_EMPTY ⟨_, rfl⟩))))), ?_⟩
    simp only [tSeq, tIfS, tOr, tAnd, tB, tTest, tCB, tCons, tVar, tC, tNil, tNot, tNotV, tRet, tRetN, tNext, tBreak, tOrV, tAndV, tOp, tUn, rEq, rNe, tChain, rI0, rI, rU, tAsg, gName, tDrop, tAug, ipI, tIf, tCall, tCallS, tLst, tTup, tBM, tBM0, rAppend, rExtend, rPop, rReverse, tyV, rIxL, rIxT, rIxS, rIsB, rNotB, L2.start, List.map_cons, List.map_nil, List.length_cons, List.length_nil, List.replicate, List.cons_append, List.nil_append, List.append_nil, List.getElem?_cons_zero, List.getElem?_cons_succ, List.set_cons_zero, List.set_cons_succ, Nat.reduceAdd, Nat.reduceSub, Option.some.injEq, exists_eq_left', exists_eq_left, V.int.injEq, V.bl.injEq, V.str.injEq, V.ref.injEq, List.cons.injEq, and_true, true_and, and_assoc, reduceCtorEq, false_and, exists_false, or_false, false_or, exists_and_left, exists_const, scal, Int.reduceLT, Int.reduceLE, Int.reduceSub, Int.reduceAdd, Int.reduceNeg, if_true, if_false]
    refine ⟨x, rfl, hx, qE, fun e H1 s1 => ?_⟩
    have h := q e H1 s1
    by_cases c : x = ""
    · rw [if_pos c] at h
      exact iteF' (by simp [c]) h
    · rw [if_neg c] at h
      exact iteT' (by simp [c]) h
def spWordIn (C : Addr) : Sp := fun vs H Q E => ∃ x : Str, vs = [.str x] ∧ x.length < sizeLine ∧ (x = "" ∨ (x ≠ "-" ∧ okWord x 60 = false) → ∀ H', Same H H' → E (.ref C) none H') ∧ (x = "-" → ∀ H', Same H H' → Q (.str "") H') ∧ (x ≠ "-" → x ≠ "" → okWord x 60 = true → ∀ H', Same H H' → Q (.str x) H')
theorem ok_word_in (T : Txt K mg cx) : FK.Has P w K mg base (L2.CX P w) 6 "word_in" ["text"] (spWordIn cx.NotWord) := by
  have H_check_word := ok_check_word (P := P) (w := w) (base := base) T
  refine T.d_word_in.okX sc_word_in (fun vs H Q E h => ?_) (fun f cdv A outer s H vs Q E hr h => ?_)
  · obtain ⟨x, rfl, _⟩ := h
    rfl
  · obtain ⟨x, rfl, hx, qE, q0, q⟩ := h
    refine ⟨_, (pss_cons (ps_if (pt_cmpR op_eq (pv 0) pe_str (nomark _)) (pss_one (ps_raise rfl (takes_of rfl rfl rfl rfl) (pmk_own PySem.F.excBase_ValueError T.x_NotWord.x T.x_NotWord.g T.x_NotWord.k (raises_own T.x_NotWord.b T.x_NotWord.t) (by exact rfl)))) pss_nil)
  (pss_cons (ps_set (i := 1) sc_word_in.nd rfl (Or.inl rfl) (by exact (pe_ifExp (pt_cmpR op_eq (pv 0) (pe_glob (v := .str "-") rfl T.c_EMPTY ⟨_, rfl⟩) (nomark _)) pe_str (pv 0))))
  (pss_cons (ps_expr (FK.pe_h (E := E) H_check_word (hr.mono (by decide)) (passes_call (takes_of rfl rfl rfl rfl) (fun _ _ _ _ h => h)) (pa_cons (pv 1) pa_nil)))
  (pss_one (ps_ret (pv 1)))))), ?_⟩
    simp only [tSeq, tIfS, tOr, tAnd, tB, tTest, tCB, tCons, tVar, tC, tNil, tNot, tNotV, tRet, tRetN, tNext, tBreak, tOrV, tAndV, tOp, tUn, rEq, rNe, tChain, rI0, rI, rU, tAsg, gName, tDrop, tAug, ipI, tIf, tCall, tCallS, tLst, tTup, tBM, tBM0, rAppend, rExtend, rPop, rReverse, tyV, rIxL, rIxT, rIxS, rIsB, rNotB, L2.start, List.map_cons, List.map_nil, List.length_cons, List.length_nil, List.replicate, List.cons_append, List.nil_append, List.append_nil, List.getElem?_cons_zero, List.getElem?_cons_succ, List.set_cons_zero, List.set_cons_succ, Nat.reduceAdd, Nat.reduceSub, Option.some.injEq, exists_eq_left', exists_eq_left, V.int.injEq, V.bl.injEq, V.str.injEq, V.ref.injEq, List.cons.injEq, and_true, true_and, and_assoc, reduceCtorEq, false_and, exists_false, or_false, false_or, exists_and_left, exists_const, scal, Int.reduceLT, Int.reduceLE, Int.reduceSub, Int.reduceAdd, Int.reduceNeg, if_true, if_false]
    by_cases c : x = ""
    · exact iteT' (by simp [c]) (qE (.inl c) H (Same.refl _))
    · refine iteF' (by simp [c]) ?_
      by_cases c2 : x = "-"
      · refine iteT' (by simp [c2]) ⟨"", rfl, by decide, (fun e => by rw [show okWord "" 60 = true by decide +kernel] at e; cases e), fun _ H1 s1 => q0 c2 H1 s1⟩
      · exact iteF' (by simp [c2]) ⟨x, rfl, hx, fun e H1 s1 => qE (.inr ⟨c2, e⟩) H1 s1, fun e H1 s1 => q c2 c e H1 s1⟩
def spTold : Sp := fun vs H Q _ => ∃ (n : Int) (x : Str), vs = [.int n, .str x] ∧ x.length < sizeLine ∧ ∀ H', Same H H' → Q (toldV n x) H'
theorem ok_law_told (T : Txt K mg cx) : FK.Has P w K mg base CX0 7 "_law_told" ["which", "text"] spTold := by
  have H_text_of := ok_text_of (P := P) (w := w) (base := base) T
  have H_word_in := ok_word_in (P := P) (w := w) (base := base) T
  refine T.d_law_told.ok sc_law_told (fun vs H Q E h => ?_) (fun f cdv A outer s H vs Q E hr h => ?_)
  · obtain ⟨n, x, rfl, _⟩ := h
    rfl
  · obtain ⟨n, x, rfl, hx, q⟩ := h
    refine ⟨_, (pss_one (ps_try_as (i := 2) rfl rfl sc_law_told.nd rfl rfl ⟨rfl, by decide, .inl T.x_NotWord.g⟩ takes0 (fun W pn xe tk po => (pss_one (ps_ret (pe_ifExp (pt_cmpR op_eq (pv 0) pe_int (nomark _)) (FK.pe_hS H_text_of (hr.mono (by decide)) (fun σ => passAt tk σ) (pa_cons (pv 1) pa_nil)) (FK.pe_hS H_word_in (hr.mono (by decide)) (fun σ => passAt tk σ) (pa_cons (pv 1) pa_nil)))))) (fun a oe cls dd pn hz hf => (pss_one (ps_ret (pe_ifExp (pt_val (pe_callB (FK.call_isEx hz hf) (by rfl) T.n_isinstance (by decide +kernel) (pa_cons (pv 2) (pa_cons (pe_glob (v := .ref cx.FoldError) rfl T.x_FoldError.g rfl) pa_nil)))) pe_int pe_int)))))), ?_⟩
    simp only [tSeq, tIfS, tOr, tAnd, tB, tTest, tCB, tCons, tVar, tC, tNil, tNot, tNotV, tRet, tRetN, tNext, tBreak, tOrV, tAndV, tOp, tUn, rEq, rNe, tChain, rI0, rI, rU, tAsg, gName, tDrop, tAug, ipI, tIf, tCall, tCallS, tLst, tTup, tBM, tBM0, rAppend, rExtend, rPop, rReverse, tyV, rIxL, rIxT, rIxS, rIsB, rNotB, L2.start, List.map_cons, List.map_nil, List.length_cons, List.length_nil, List.replicate, List.cons_append, List.nil_append, List.append_nil, List.getElem?_cons_zero, List.getElem?_cons_succ, List.set_cons_zero, List.set_cons_succ, Nat.reduceAdd, Nat.reduceSub, Option.some.injEq, exists_eq_left', exists_eq_left, V.int.injEq, V.bl.injEq, V.str.injEq, V.ref.injEq, List.cons.injEq, and_true, true_and, and_assoc, reduceCtorEq, false_and, exists_false, or_false, false_or, exists_and_left, exists_const, scal, Int.reduceLT, Int.reduceLE, Int.reduceSub, Int.reduceAdd, Int.reduceNeg, if_true, if_false]
    have hq : toldV n x = .int 1 → ∀ H', Same H H' → Q (.int 1) H' := fun e H' s' => e ▸ q H' s'
    refine ite2 (fun c => ?_) (fun c => ?_)
    · have n0 := of_decide_eq_true c
      refine ⟨x, rfl, hx, fun e H1 s1 => ?_, fun e H1 s1 => ?_⟩
      · have h := hq (by unfold toldV; rw [if_pos n0, if_neg (by rw [e]; decide)]) H1 s1
        refine ⟨true, T.exm_NotWord, fun _ b hb => ?_, fun z => nomatch z⟩
        simp only [tSeq, tIfS, tOr, tAnd, tB, tTest, tCB, tCons, tVar, tC, tNil, tNot, tNotV, tRet, tRetN, tNext, tBreak, tOrV, tAndV, tOp, tUn, rEq, rNe, tChain, rI0, rI, rU, tAsg, gName, tDrop, tAug, ipI, tIf, tCall, tCallS, tLst, tTup, tBM, tBM0, rAppend, rExtend, rPop, rReverse, tyV, rIxL, rIxT, rIxS, rIsB, rNotB, L2.start, List.map_cons, List.map_nil, List.length_cons, List.length_nil, List.replicate, List.cons_append, List.nil_append, List.append_nil, List.getElem?_cons_zero, List.getElem?_cons_succ, List.set_cons_zero, List.set_cons_succ, Nat.reduceAdd, Nat.reduceSub, Option.some.injEq, exists_eq_left', exists_eq_left, V.int.injEq, V.bl.injEq, V.str.injEq, V.ref.injEq, List.cons.injEq, and_true, true_and, and_assoc, reduceCtorEq, false_and, exists_false, or_false, false_or, exists_and_left, exists_const, scal, Int.reduceLT, Int.reduceLE, Int.reduceSub, Int.reduceAdd, Int.reduceNeg, if_true, if_false, rIsE]
        exact ⟨_, rfl, T.x_NotWord.e, _, fun u r => r, _, T.kit_NotWord, iteT h⟩
      · have h := q H1 s1
        unfold toldV at h
        rw [if_pos n0, if_pos e] at h
        exact h
    · have n0 : ¬ n = 0 := fun z => c (decide_eq_true z)
      refine ⟨x, rfl, hx, fun e H1 s1 => ?_, fun e H1 s1 => ?_, fun e1 e2 e3 H1 s1 => ?_⟩
      · have h := hq (by
          unfold toldV
          rw [if_neg n0]
          rcases e with e | ⟨e1, e2⟩
          · rw [if_neg (by rw [e]; decide), if_neg (by rw [e]; simp)]
          · rw [if_neg e1, if_neg (by rw [e2]; simp)]) H1 s1
        refine ⟨true, T.exm_NotWord, fun _ b hb => ?_, fun z => nomatch z⟩
        simp only [tSeq, tIfS, tOr, tAnd, tB, tTest, tCB, tCons, tVar, tC, tNil, tNot, tNotV, tRet, tRetN, tNext, tBreak, tOrV, tAndV, tOp, tUn, rEq, rNe, tChain, rI0, rI, rU, tAsg, gName, tDrop, tAug, ipI, tIf, tCall, tCallS, tLst, tTup, tBM, tBM0, rAppend, rExtend, rPop, rReverse, tyV, rIxL, rIxT, rIxS, rIsB, rNotB, L2.start, List.map_cons, List.map_nil, List.length_cons, List.length_nil, List.replicate, List.cons_append, List.nil_append, List.append_nil, List.getElem?_cons_zero, List.getElem?_cons_succ, List.set_cons_zero, List.set_cons_succ, Nat.reduceAdd, Nat.reduceSub, Option.some.injEq, exists_eq_left', exists_eq_left, V.int.injEq, V.bl.injEq, V.str.injEq, V.ref.injEq, List.cons.injEq, and_true, true_and, and_assoc, reduceCtorEq, false_and, exists_false, or_false, false_or, exists_and_left, exists_const, scal, Int.reduceLT, Int.reduceLE, Int.reduceSub, Int.reduceAdd, Int.reduceNeg, if_true, if_false, rIsE]
        exact ⟨_, rfl, T.x_NotWord.e, _, fun u r => r, _, T.kit_NotWord, iteT h⟩
      · have h := q H1 s1
        unfold toldV at h
        rw [if_neg n0, if_pos e] at h
        exact h
      · have h := q H1 s1
        unfold toldV at h
        rw [if_neg n0, if_neg e1, if_pos ⟨e2, e3⟩] at h
        exact h
theorem ok_law_due (T : Txt K mg cx) : FK.Has P w K mg base CX0 1 "_law_due" ["which", "text"] spTold := by
  refine T.d_law_due.ok sc_law_due (fun vs H Q E h => ?_) (fun f cdv A outer s H vs Q E hr h => ?_)
  · obtain ⟨n, x, rfl, _⟩ := h
    rfl
  · obtain ⟨n, x, rfl, hx, q⟩ := h
    refine ⟨_, (pss_cons (ps_set (i := 2) sc_law_due.nd rfl (Or.inl rfl) (by exact (pe_and (pe_callB (cr_all rfl) (by rfl) T.n_all (by decide +kernel) (pa_cons (pe_lc (own := [("char", 3)]) (g := gName 3) (tt := tYes) rfl sc_law_due.nd (pi_str (pv 1)) (blkOk_by (own := [("char", 3)]) (N := ["which", "text", "letters", "char"]) (sc := defScope s_law_due) (by decide +kernel)) (fun _ _ _ _ _ => (pg_name (i := 3) sc_law_due.nd rfl (Or.inl rfl))) (fun _ _ _ _ _ => pts_nil) (fun _ _ _ _ _ => (pe_cmpR op_in_sign (pv 3) pe_str (by rfl)))) pa_nil)) (pe_one (pe_cmpR op_le (pe_callB call_len_str (by rfl) T.n_len PySem.boot_len (pa_cons (pv 1) pa_nil)) pe_int (nomark _))))))
  (pss_cons (ps_if (pt_cmpR op_eq (pv 0) pe_int (nomark _)) (pss_cons (ps_if (pt_not (pt_val (pv 2))) (pss_one (ps_ret pe_int)) pss_nil)
  (pss_one (ps_ret (pe_ifExp (pt_cmpR op_eq (pv 1) pe_str (nomark _)) pe_str (pv 1))))) pss_nil)
  (pss_cons (ps_if (pt_cmpR op_eq (pv 1) pe_str (nomark _)) (pss_one (ps_ret pe_str)) pss_nil)
  (pss_one (ps_ret (pe_ifExp (PW.pt (pw_and (pt_val (pv 2)) (pw_and1 (pt_cmpR op_ne (pv 1) pe_str (nomark _))))) (pv 1) pe_int)))))), ?_⟩
    simp only [tSeq, tIfS, tOr, tAnd, tB, tTest, tCB, tCons, tVar, tC, tNil, tNot, tNotV, tRet, tRetN, tNext, tBreak, tOrV, tAndV, tOp, tUn, rEq, rNe, tChain, rI0, rI, rU, tAsg, gName, tDrop, tAug, ipI, tIf, tCall, tCallS, tLst, tTup, tBM, tBM0, rAppend, rExtend, rPop, rReverse, tyV, rIxL, rIxT, rIxS, rIsB, rNotB, L2.start, List.map_cons, List.map_nil, List.length_cons, List.length_nil, List.replicate, List.cons_append, List.nil_append, List.append_nil, List.getElem?_cons_zero, List.getElem?_cons_succ, List.set_cons_zero, List.set_cons_succ, Nat.reduceAdd, Nat.reduceSub, Option.some.injEq, exists_eq_left', exists_eq_left, V.int.injEq, V.bl.injEq, V.str.injEq, V.ref.injEq, List.cons.injEq, and_true, true_and, and_assoc, reduceCtorEq, false_and, exists_false, or_false, false_or, exists_and_left, exists_const, scal, Int.reduceLT, Int.reduceLE, Int.reduceSub, Int.reduceAdd, Int.reduceNeg, if_true, if_false]
    refine rd_signs (p := fun c => isLet ⟨#[c]⟩) (fun R r => ⟨_, rfl, x, rfl, r⟩) hx (fun _ => rfl) (fun c H3 R s3 hc go => ?_) fun D H3 s3 hD => all_bl hD ⟨_, rfl, ?_⟩
    · simp only [tSeq, tIfS, tOr, tAnd, tB, tTest, tCB, tCons, tVar, tC, tNil, tNot, tNotV, tRet, tRetN, tNext, tBreak, tOrV, tAndV, tOp, tUn, rEq, rNe, tChain, rI0, rI, rU, tAsg, gName, tDrop, tAug, ipI, tIf, tCall, tCallS, tLst, tTup, tBM, tBM0, rAppend, rExtend, rPop, rReverse, tyV, rIxL, rIxT, rIxS, rIsB, rNotB, L2.start, List.map_cons, List.map_nil, List.length_cons, List.length_nil, List.replicate, List.cons_append, List.nil_append, List.append_nil, List.getElem?_cons_zero, List.getElem?_cons_succ, List.set_cons_zero, List.set_cons_succ, Nat.reduceAdd, Nat.reduceSub, Option.some.injEq, exists_eq_left', exists_eq_left, V.int.injEq, V.bl.injEq, V.str.injEq, V.ref.injEq, List.cons.injEq, and_true, true_and, and_assoc, reduceCtorEq, false_and, exists_false, or_false, false_or, exists_and_left, exists_const, scal, Int.reduceLT, Int.reduceLE, Int.reduceSub, Int.reduceAdd, Int.reduceNeg, if_true, if_false, wipe]
      refine ⟨c, rfl, ?_⟩
      rw [let_in]
      exact go _ (Same.refl _)
    · have h := q H3 s3
      unfold toldV okWord at h
      cases a1 : (x.cps.toList.all fun c => isLet ⟨#[c]⟩) with
      | false =>
        rw [a1, Bool.and_false] at h
        refine iteF' (by decide) ?_
        by_cases n0 : n = 0
        · rw [if_pos n0, if_neg (by decide)] at h
          exact iteT' (decide_eq_true n0) (iteT' (by decide) h)
        · rw [if_neg n0] at h
          refine iteF' (by simp [n0]) ?_
          by_cases c : x = "-"
          · rw [if_pos c] at h
            exact iteT' (decide_eq_true c) h
          · rw [if_neg c, if_neg (by simp)] at h
            exact iteF' (by simp [c]) h
      | true =>
        rw [a1, Bool.and_true] at h
        refine iteT' rfl ⟨Nat.le_of_lt hx, ?_⟩
        by_cases n0 : n = 0
        · rw [if_pos n0] at h
          refine iteT' (decide_eq_true n0) ?_
          cases a2 : decide ((x.length : Int) ≤ 60) with
          | false =>
            rw [a2, if_neg (by decide)] at h
            exact iteT' (by decide) h
          | true =>
            rw [a2, if_pos rfl] at h
            refine iteF' (by decide) ?_
            by_cases c : x = ""
            · rw [if_pos c] at h
              exact iteT' (decide_eq_true c) h
            · rw [if_neg c] at h
              exact iteF' (by simp [c]) h
        · rw [if_neg n0] at h
          refine iteF' (by simp [n0]) ?_
          by_cases c : x = "-"
          · rw [if_pos c] at h
            exact iteT' (decide_eq_true c) h
          · rw [if_neg c] at h
            refine iteF' (by simp [c]) ?_
            cases a2 : decide ((x.length : Int) ≤ 60) with
            | false =>
              rw [a2, if_neg (by simp)] at h
              exact iteF' (by decide) h
            | true =>
              rw [a2] at h
              refine iteT' rfl ?_
              by_cases c2 : x = ""
              · rw [if_neg (by simp [c2])] at h
                exact iteF' (by simp [c2]) h
              · rw [if_pos ⟨c2, rfl⟩] at h
                exact iteT' (by simp [c2]) h

end
end K89

namespace K89
open PySem PySem.Spec PyProof.Rows L2
section
variable {P : Program} {w : World} {K : PySem.W.Frag} {mg : Str → Option Value} {base : Heap} {cx : Xs}
theorem atI_mem {cs : List V} {r : Int} (h0 : 0 ≤ r) (h1 : r < cs.length) : ∃ v, atI cs r = some v ∧ v ∈ cs := by
  obtain ⟨k, rfl⟩ := Int.eq_ofNat_of_zero_le h0
  have hk : k < cs.length := by omega
  exact ⟨cs[k], atI_nat (List.getElem?_eq_getElem hk), List.getElem_mem hk⟩
theorem joinL_nil : ∀ ps : List (List Nat), TL.joinL [] ps = ps.flatten
  | [] => rfl
  | [p] => by simp [TL.joinL]
  | p :: q :: r => by
    show p ++ ([] ++ TL.joinL [] (q :: r)) = _
    rw [joinL_nil (q :: r)]
    simp
theorem flat_signs : ∀ cs : List Nat, (cs.map (TL.tl ∘ fun c => (⟨#[c]⟩ : Str))).flatten = cs
  | [] => rfl
  | c :: cs => by
    show [c] ++ (cs.map (TL.tl ∘ fun c => (⟨#[c]⟩ : Str))).flatten = c :: cs
    rw [flat_signs cs]
    rfl
theorem join_signs (cs : List Nat) : Txt.join "" (cs.map fun c => (⟨#[c]⟩ : Str)) = ⟨cs.toArray⟩ := by
  rw [TL.join_eq]
  have h := TL.tl_join "" (cs.map fun c => (⟨#[c]⟩ : Str))
  rw [show TL.tl ("" : Str) = [] from rfl, joinL_nil, List.map_map, flat_signs] at h
  generalize Str.join "" (cs.map fun c => (⟨#[c]⟩ : Str)) = z at h
  obtain ⟨a⟩ := z
  have h2 : a.toList = cs := h
  rw [← h2, Array.toArray_toList]
theorem sum_ones : ∀ cs : List Nat, (cs.map fun _ => 1).sum = cs.length
  | [] => rfl
  | c :: cs => by
    show 1 + (cs.map fun _ => 1).sum = cs.length + 1
    rw [sum_ones cs]
    omega

theorem signs_of {p : Nat → Prop} : ∀ {zs : List V}, (∀ z ∈ zs, ∃ c : Nat, z = .str ⟨#[c]⟩ ∧ p c) → ∃ cs : List Nat, zs = (cs.map fun c => (⟨#[c]⟩ : Str)).map V.str ∧ ∀ c ∈ cs, p c
  | [], _ => ⟨[], rfl, fun _ h => nomatch h⟩
  | z :: zs, h => by
    obtain ⟨n, rfl, hn⟩ := h z List.mem_cons_self
    obtain ⟨ns, rfl, hns⟩ := signs_of fun z hz => h z (List.mem_cons_of_mem _ hz)
    exact ⟨n :: ns, rfl, fun m hm => by
      rcases List.mem_cons.mp hm with rfl | hm
      · exact hn
      · exact hns m hm⟩
theorem joinL_len (S : List Nat) : ∀ ps : List (List Nat), (TL.joinL S ps).length ≤ (ps.map List.length).sum + ps.length * S.length
  | [] => Nat.zero_le _
  | [p] => by
    show p.length ≤ _
    simp
  | p :: q :: r => by
    have ih := joinL_len S (q :: r)
    show (p ++ (S ++ TL.joinL S (q :: r))).length ≤ _
    rw [List.length_append, List.length_append]
    rw [List.map_cons, List.sum_cons, List.length_cons (a := p), Nat.succ_mul]
    omega
theorem join_len (ys : List Str) : (Txt.join " " ys).length ≤ (ys.map fun y => y.length).sum + ys.length := by
  rw [TL.join_eq]
  have h := joinL_len [32] (ys.map TL.tl)
  have e := TL.tl_join " " ys
  rw [show TL.tl (" " : Str) = [32] from rfl] at e
  rw [← e, List.map_map, List.length_map] at h
  have h2 : (Str.join " " ys).length = (TL.tl (Str.join " " ys)).length := TL.len_tl _
  have h3 : (ys.map (List.length ∘ TL.tl)).sum = (ys.map fun y => y.length).sum := by
    refine congrArg List.sum (List.map_congr_left fun y _ => ?_)
    show (TL.tl y).length = y.length
    exact (TL.len_tl y).symm
  rw [h2]
  rw [h3] at h
  simpa using h
theorem sum_filter (p : Str → Bool) : ∀ ys : List Str, ((ys.filter p).map fun y => y.length).sum ≤ (ys.map fun y => y.length).sum
  | [] => Nat.le_refl _
  | y :: ys => by
    have ih := sum_filter p ys
    rw [List.filter_cons]
    split
    · simp only [List.map_cons, List.sum_cons]; omega
    · simp only [List.map_cons, List.sum_cons]; omega
/-- what is shown of what the defs tell -/
def Sh (K : PySem.W.Frag) (v : V) : Prop := ∃ d : PyData, (∀ H, Dp K H v d) ∧ d.showable = true ∧ d.hasDict = false ∧ d.depth < 40 ∧ d.shown.length ≤ sizeLine
theorem sh_non : Sh K .non := ⟨.none, fun _ => .non, rfl, rfl, by decide, by decide +kernel⟩
theorem sh_bl (b : Bool) : Sh K (.bl b) := ⟨.bool b, fun _ => .bl b, rfl, rfl, by show 0 < 40; decide, by cases b <;> decide +kernel⟩
theorem sh_num {k : Nat} (h : k < 100) : Sh K (.int (k : Nat)) := by
  have : ∀ k : Fin 100, (PyData.int (k.1 : Int)).showable = true ∧ (PyData.int (k.1 : Int)).shown.length ≤ sizeLine := by decide +kernel
  obtain ⟨h1, h2⟩ := this ⟨k, h⟩
  exact ⟨.int _, fun _ => .int _, h1, rfl, by show 0 < 40; decide, h2⟩
theorem sh_str {x : Str} (hl : x.length ≤ 1000) (hc : ∀ c ∈ x.cps.toList, c < 1000) : Sh K (.str x) := by
  refine ⟨.str x, fun _ => .str _, rfl, rfl, by show 0 < 40; decide, ?_⟩
  have h := StrLaws.reprText_len x fun c h => Nat.lt_of_lt_of_le (hc c h) (by decide)
  show (reprText x).length ≤ sizeLine
  exact Nat.le_trans h (Nat.le_trans (show 10 * x.length + 2 ≤ 20000 by omega) (by decide))
theorem okWord_low {x : Str} (h : okWord x 60 = true) : x.length ≤ 60 ∧ ∀ c ∈ x.cps.toList, c < 1000 := by
  unfold okWord at h
  rw [Bool.and_eq_true, List.all_eq_true] at h
  refine ⟨by have := of_decide_eq_true h.1; omega, fun c hc => ?_⟩
  have h2 := h.2 c hc
  rw [← let_in, decide_eq_true_iff, show ("012" : Str).cps.toList = [48, 49, 50] from rfl] at h2
  simp only [List.mem_cons, List.not_mem_nil, or_false] at h2
  omega
theorem sh_told (n : Int) (x : Str) : Sh K (toldV n x) := by
  unfold toldV
  split
  · split
    · rename_i h
      split
      · exact sh_str (by decide) (by decide +kernel)
      · exact sh_str (by have := (okWord_low h).1; omega) (okWord_low h).2
    · exact sh_num (k := 1) (by decide)
  · split
    · exact sh_str (by decide) (by decide +kernel)
    · split
      · rename_i h
        exact sh_str (by have := (okWord_low h.2).1; omega) (okWord_low h.2).2
      · exact sh_num (k := 1) (by decide)
theorem Sh.rd {v : V} (h : Sh K v) {H : Hp} {Q : VK} (q : ∀ s : Str, (∀ H' Q', Q' (.str s) H' → FK.rRepr K [v] H' Q') → Q (.str s) H) : FK.rRepr K [v] H Q := by
  obtain ⟨d, h1, h2, h3, h4, h5⟩ := h
  exact ⟨v, d, rfl, h1 H, h2, h3, h4, h5, q d.shown fun H' Q' q' => ⟨v, d, rfl, h1 H', h2, h3, h4, h5, q'⟩⟩
/-- a list of plain texts, shown -/
theorem sh_list {H : Hp} {p : Addr} {ws : List Str} (hp : H p = some (.lst (ws.map V.str))) (hl : ws.length ≤ 200) (hw : ∀ w ∈ ws, w.length ≤ 500 ∧ ∀ c ∈ w.cps.toList, c < 1000) {Q : VK} (q : Q (.str (PyData.list (ws.map PyData.str)).shown) H) : FK.rRepr K [.ref p] H Q := by
  have s1 : ∀ zs : List Str, PyData.showableAll (zs.map PyData.str) = true := fun zs => by
    induction zs with
    | nil => rfl
    | cons z zs ih => simp [PyData.showableAll, PyData.showable, ih]
  have s2 : ∀ zs : List Str, PyData.hasDictAll (zs.map PyData.str) = false := fun zs => by
    induction zs with
    | nil => rfl
    | cons z zs ih => simp [PyData.hasDictAll, PyData.hasDict, ih]
  have s3 : ∀ zs : List Str, PyData.shownAll (zs.map PyData.str) = zs.map reprText := fun zs => by
    induction zs with
    | nil => rfl
    | cons z zs ih => simp [PyData.shownAll, PyData.shown, ih]
  have s4 : ∀ zs : List Str, DpAll K H (zs.map V.str) (zs.map PyData.str) := fun zs => by
    induction zs with
    | nil => exact .nil
    | cons z zs ih => exact .cons (.str z) ih
  have s5 : ∀ zs : List Str, PyData.depthAll (zs.map PyData.str) ≤ 2 := fun zs => by
    induction zs with
    | nil => exact Nat.zero_le _
    | cons z zs ih => simp [PyData.depthAll, PyData.depth]; exact ih
  refine ⟨_, _, rfl, .lst (SqL.of hp) (s4 _), s1 _, s2 _, ?_, ?_, q⟩
  · have h := s5 ws
    show PyData.depthAll _ + 1 < 40
    omega
  · show (listText (PyData.shownAll (ws.map PyData.str))).length ≤ sizeLine
    rw [s3]
    have h := listText_len_le (ws.map reprText)
    have h2 : ((ws.map reprText).map (·.length)).sum ≤ 6000 * ws.length := by
      clear h hp hl q
      induction ws with
      | nil => exact Nat.le_refl _
      | cons u us ih =>
        obtain ⟨b1, b2⟩ := hw u List.mem_cons_self
        have h1 := StrLaws.reprText_len u fun c h => Nat.lt_of_lt_of_le (b2 c h) (by decide)
        have h3 := ih fun v hv => hw v (List.mem_cons_of_mem _ hv)
        simp only [List.map_cons, List.sum_cons, List.length_cons]
        omega
    rw [List.length_map] at h
    exact Nat.le_trans h (Nat.le_trans (show _ ≤ 2000000 by omega) (by decide))

end
end K89

namespace K89
open PySem PySem.Spec PyProof.Rows L2
section
variable {P : Program} {w : World} {K : PySem.W.Frag} {mg : Str → Option Value} {base : Heap} {cx : Xs}
theorem spCell_i {H : Hp} {a : Addr} {ns : List Int} {Q : VK} (k : Nat) (h : SqL K H a (ns.map V.int)) (q : ∀ i, Q (.int i) H) : spCell K [.ref a, .int (k : Int)] H Q E0 := ⟨a, ns, k, rfl, h, q⟩
/-- signs of a text, told by numbers, put together -/
theorem rd_text (Pc : Nat → Prop) {L : Addr} {zs : List Int} {i : Nat} {te : TE} {vs : List Nat} {σ : L2.St} {H H1 : Hp} {Q : VK} {wi : TI} (hw : ∀ R : It → Hp → Prop, R (Itl K L) H1 → wi σ H R) (eL : H1 L = some (.lst (zs.map V.int))) (hl : zs.length ≤ 100) (hv : ∀ v, wipe ((wipe σ vs).set i (some v)) vs = wipe σ vs)
    (hs : ∀ v H' (R : VK), Same H1 H' → (∀ c : Nat, Pc c → R (.str ⟨#[c]⟩) H') → v ∈ zs → te ((wipe σ vs).set i (some (.int v))) H' R)
    (hd : ∀ D (cs : List Nat) H', Same H1 H' → H' D = some (.lst ((cs.map fun c => (⟨#[c]⟩ : Str)).map V.str)) → cs.length = zs.length → (∀ c ∈ cs, Pc c) → Q (.ref D) H') : tLc wi (gName i) tYes te vs σ H Q := by
  have hn : (zs.map V.int).length = zs.length := by simp
  refine FK.rd_lc (J := Itl K L) (H1 := H1) hw (walk_list (xs := zs.map V.int)) (fun k acc H' => (∀ v ∈ acc, ∃ c : Nat, v = .str ⟨#[c]⟩ ∧ Pc c) ∧ Same H1 H') (fun D hD => ⟨(fun _ h => nomatch h), FK.same_new hD⟩) (fun D i acc y H' hD hD2 ⟨p1, p2⟩ => ⟨p1, FK.same_at hD p2⟩) (fun _ _ _ _ ⟨_, s⟩ => SqL.of (s _ _ eL)) (by rw [hn]; exact Nat.lt_of_le_of_lt hl (by decide)) hv ?_ ?_
  · rintro D k x' acc Ha Hb R hD hk la ⟨p1, p2⟩ hD2 ⟨rfl, hx⟩ go
    rw [List.getElem?_map] at hx
    cases e : zs[k]? with
    | none => rw [e] at hx; cases hx
    | some v =>
      rw [e] at hx
      cases hx
      refine hs v _ R p2 (fun c hc => go _ _ hD2 ⟨fun v' hv' => ?_, p2⟩) (List.mem_of_getElem? e)
      rcases List.mem_append.mp hv' with h | h
      · exact p1 v' h
      · rw [List.mem_singleton.mp h]
        exact ⟨c, rfl, hc⟩
  · rintro D acc H' hD la ⟨p1, p2⟩ hD2
    obtain ⟨cs, rfl, hcs⟩ := signs_of p1
    rw [List.length_map, List.length_map, hn] at la
    exact hd D cs H' p2 hD2 la hcs
theorem at_sg {cs : List Nat} {m : Int} (h0 : 0 ≤ m) (h1 : m < cs.length) : ∃ c, atI cs m = some c := by
  obtain ⟨k, rfl⟩ := Int.eq_ofNat_of_zero_le h0
  have hk : k < cs.length := by omega
  exact ⟨cs[k], atI_nat (List.getElem?_eq_getElem hk)⟩
theorem isNum_of : ∀ k : Fin 100, isNum (numS k.1) = true := by decide +kernel
theorem numS_inj {j k : Nat} (hj : j < 100) (hk : k < 100) (h : numS j = numS k) : j = k := by
  have h1 : PySem.intText? (numS j) = some (j : Int) := (num_int ⟨j, hj⟩).1
  have h2 : PySem.intText? (numS k) = some (k : Int) := (num_int ⟨k, hk⟩).1
  rw [h] at h1
  have h4 : (j : Int) = (k : Int) := Option.some.inj (h1.symm.trans h2)
  omega
theorem sum_sg : ∀ cs : List Nat, ((cs.map fun c => (⟨#[c]⟩ : Str)).map fun x => x.length).sum = cs.length
  | [] => rfl
  | c :: cs => by
    have ih := sum_sg cs
    simp only [List.map_cons, List.sum_cons, List.length_cons] at ih ⊢
    rw [ih]
    show 1 + cs.length = _
    omega
theorem ok_law (T : Txt K mg cx) {fa : Addr} {s : Shared} {H : Hp} {a : Addr} {ns : List Int} (g : mg "law" = some (.ref fa)) (hr1 : Room 10 callerA) (e0 : Env0 P w K mg base callerA [] s H) (sq : SqL K H a (ns.map V.int)) (hl : ns.length ≤ 63) :
    codeAny (model P w) callerA (.call (.ref fa) ⟨[.ref a], []⟩) (CR CX0 [] P w H s (fun v _ => v = .bl true) E0) s := by
  have H_law_cell := ok_law_cell (P := P) (w := w) (base := base) T
  have H_law_values := ok_law_values (P := P) (w := w) (base := base) T
  have H_words_of := ok_words_of (P := P) (w := w) (base := base) T
  have H_law_words := ok_law_words (P := P) (w := w) (base := base) T
  have H_is_name := ok_is_name (P := P) (w := w) (base := base) T
  have H_law_is_name := ok_law_is_name (P := P) (w := w) (base := base) T
  have H_number_in := ok_number_in (P := P) (w := w) (base := base) T
  have H_law_number := ok_law_number (P := P) (w := w) (base := base) T
  have H_law_told := ok_law_told (P := P) (w := w) (base := base) T
  have H_law_due := ok_law_due (P := P) (w := w) (base := base) T
  have H_text_of := ok_text_of (P := P) (w := w) (base := base) T
  have H_word_in := ok_word_in (P := P) (w := w) (base := base) T
  refine T.d_law.run (vs := [.ref a]) g sc_law hr1 e0 (.cons rfl .nil) rfl fun cdv hr hG => ?_
  refine ⟨_, (C8.pss_cut (ps_set (i := 1) sc_law.nd rfl (Or.inr rfl) (by exact pe_str))
  (C8.pss_cut (ps_set (i := 2) sc_law.nd rfl (Or.inl rfl) (by exact (FK.pe_h (E := E0) H_law_values (hr.mono (by decide)) pass0 (pa_cons (FK.pe_h (E := E0) H_law_cell (hr.mono (by decide)) pass0 (pa_cons (pv 0) (pa_cons pe_int pa_nil))) (pa_cons (pe_op op_mod (FK.pe_h (E := E0) H_law_cell (hr.mono (by decide)) pass0 (pa_cons (pv 0) (pa_cons pe_int pa_nil))) pe_int) (pa_cons pe_int pa_nil))))))
  (C8.pss_cut (ps_set (i := 3) sc_law.nd rfl (Or.inl rfl) (by exact (pe_join pe_str (pe_lc (own := [("value", 12)]) (g := gName 12) (tt := tYes) rfl sc_law.nd (pi_list (pv 2)) (blkOk_by (own := [("value", 12)]) (N := ["script", "chars", "values", "line", "long", "figures", "digits", "words", "word", "some", "text", "which", "value"]) (sc := defScope s_law) (by decide +kernel)) (fun _ _ _ _ _ => (pg_name (i := 12) sc_law.nd rfl (Or.inl rfl))) (fun _ _ _ _ _ => pts_nil) (fun _ _ _ _ _ => (pe_ix ix_str (pv 1) (pe_ifExp (pt_cmpR op_gt (pv 12) pe_int (nomark _)) (pe_op op_mod (pv 12) pe_int) pe_int) (fun _ _ => rfl)))))))
  (C8.pss_cut (ps_if (pt_cmpR op_gt (pe_op op_mod (FK.pe_h (E := E0) H_law_cell (hr.mono (by decide)) pass0 (pa_cons (pv 0) (pa_cons pe_int pa_nil))) pe_int) pe_int (nomark _)) (pss_one (ps_set (i := 3) sc_law.nd rfl (Or.inl rfl) (by exact (pe_join pe_str (pe_lc (own := [("word", 8)]) (g := gName 8)  rfl sc_law.nd (pi_list (pe_split (pv 3) pe_str)) (blkOk_by (own := [("word", 8)]) (N := ["script", "chars", "values", "line", "long", "figures", "digits", "words", "word", "some", "text", "which", "value"]) (sc := defScope s_law) (by decide +kernel)) (fun _ _ _ _ _ => (pg_name (i := 8) sc_law.nd rfl (Or.inl rfl))) (fun _ _ _ _ _ => (pts_one (pt_cmpR op_ne (pv 8) pe_str (nomark _)))) (fun _ _ _ _ _ => (pv 8))))))) pss_nil)
  (C8.pss_cut (ps_if (pt_cmpR op_ne (pe_callB (FK.call_repr hG hr) (by rfl) T.n_repr (by decide +kernel) (pa_cons (FK.pe_h (E := E0) H_words_of (hr.mono (by decide)) pass0 (pa_cons (pv 3) pa_nil)) pa_nil)) (pe_callB (FK.call_repr hG hr) (by rfl) T.n_repr (by decide +kernel) (pa_cons (FK.pe_h (E := E0) H_law_words (hr.mono (by decide)) pass0 (pa_cons (pv 3) pa_nil)) pa_nil)) (nomark _)) (pss_one (ps_ret pe_bl)) pss_nil)
  (C8.pss_cut (ps_set (i := 4) sc_law.nd rfl (Or.inl rfl) (by exact (pe_join pe_str (pe_lc (own := [("value", 12)]) (g := gName 12) (tt := tYes) rfl sc_law.nd (pi_list (FK.pe_h (E := E0) H_law_values (hr.mono (by decide)) pass0 (pa_cons (FK.pe_h (E := E0) H_law_cell (hr.mono (by decide)) pass0 (pa_cons (pv 0) (pa_cons pe_int pa_nil))) (pa_cons (pe_op op_mod (FK.pe_h (E := E0) H_law_cell (hr.mono (by decide)) pass0 (pa_cons (pv 0) (pa_cons pe_int pa_nil))) pe_int) (pa_cons pe_int pa_nil))))) (blkOk_by (own := [("value", 12)]) (N := ["script", "chars", "values", "line", "long", "figures", "digits", "words", "word", "some", "text", "which", "value"]) (sc := defScope s_law) (by decide +kernel)) (fun _ _ _ _ _ => (pg_name (i := 12) sc_law.nd rfl (Or.inl rfl))) (fun _ _ _ _ _ => pts_nil) (fun _ _ _ _ _ => (pe_ix ix_str pe_str (pe_op op_mod (pv 12) pe_int) (fun _ _ => rfl)))))))
  (C8.pss_cut (ps_set (i := 5) sc_law.nd rfl (Or.inl rfl) (by exact (FK.pe_h (E := E0) H_law_values (hr.mono (by decide)) pass0 (pa_cons (FK.pe_h (E := E0) H_law_cell (hr.mono (by decide)) pass0 (pa_cons (pv 0) (pa_cons pe_int pa_nil))) (pa_cons (pe_op op_mod (FK.pe_h (E := E0) H_law_cell (hr.mono (by decide)) pass0 (pa_cons (pv 0) (pa_cons pe_int pa_nil))) pe_int) (pa_cons pe_int pa_nil))))))
  (C8.pss_cut (ps_set (i := 6) sc_law.nd rfl (Or.inl rfl) (by exact (pe_join pe_str (pe_lc (own := [("value", 12)]) (g := gName 12) (tt := tYes) rfl sc_law.nd (pi_list (pv 5)) (blkOk_by (own := [("value", 12)]) (N := ["script", "chars", "values", "line", "long", "figures", "digits", "words", "word", "some", "text", "which", "value"]) (sc := defScope s_law) (by decide +kernel)) (fun _ _ _ _ _ => (pg_name (i := 12) sc_law.nd rfl (Or.inl rfl))) (fun _ _ _ _ _ => pts_nil) (fun _ _ _ _ _ => (pe_ix ix_str pe_str (pe_op op_mod (pv 12) pe_int) (fun _ _ => rfl)))))))
  (C8.pss_cut (ps_set (i := 7) sc_law.nd rfl (Or.inl rfl) (by exact (pe_op op_cat (pe_split (pv 3) pe_str) (pe_lst (pa_cons (pv 4) (pa_cons (pv 6) (pa_cons (pe_op op_add_str pe_str (pv 6)) (pa_cons (pe_op op_add_str pe_str (pv 6)) (pa_cons pe_str (pa_cons pe_str (pa_cons pe_str (pa_cons pe_str (pa_cons pe_str (pa_cons pe_str (pa_cons pe_str (pa_cons pe_str pa_nil))))))))))))))))
  (C8.pss_cut (ps_for PassesOwn.never rfl (pi_list (pv 7)) (pg_name (i := 8) sc_law.nd rfl (Or.inl rfl))
  (pss_one (ps_if (PW.pt (pw_or (pt_cmpR op_ne (pe_callB (FK.call_repr hG hr) (by rfl) T.n_repr (by decide +kernel) (pa_cons (FK.pe_h (E := E0) H_is_name (hr.mono (by decide)) pass0 (pa_cons (pv 8) pa_nil)) pa_nil)) (pe_callB (FK.call_repr hG hr) (by rfl) T.n_repr (by decide +kernel) (pa_cons (FK.pe_h (E := E0) H_law_is_name (hr.mono (by decide)) pass0 (pa_cons (pv 8) pa_nil)) pa_nil)) (nomark _)) (pw_or1 (pt_cmpR op_ne (pe_callB (FK.call_repr hG hr) (by rfl) T.n_repr (by decide +kernel) (pa_cons (FK.pe_h (E := E0) H_number_in (hr.mono (by decide)) pass0 (pa_cons (pv 8) pa_nil)) pa_nil)) (pe_callB (FK.call_repr hG hr) (by rfl) T.n_repr (by decide +kernel) (pa_cons (FK.pe_h (E := E0) H_law_number (hr.mono (by decide)) pass0 (pa_cons (pv 8) pa_nil)) pa_nil)) (nomark _))))) (pss_one (ps_ret pe_bl)) pss_nil)))
  (C8.pss_cut (ps_set (i := 9) sc_law.nd rfl (Or.inl rfl) (by exact (pe_join pe_str (pe_lc (own := [("value", 12)]) (g := gName 12) (tt := tYes) rfl sc_law.nd (pi_list (FK.pe_h (E := E0) H_law_values (hr.mono (by decide)) pass0 (pa_cons (FK.pe_h (E := E0) H_law_cell (hr.mono (by decide)) pass0 (pa_cons (pv 0) (pa_cons pe_int pa_nil))) (pa_cons (pe_op op_mod (FK.pe_h (E := E0) H_law_cell (hr.mono (by decide)) pass0 (pa_cons (pv 0) (pa_cons pe_int pa_nil))) pe_int) (pa_cons pe_int pa_nil))))) (blkOk_by (own := [("value", 12)]) (N := ["script", "chars", "values", "line", "long", "figures", "digits", "words", "word", "some", "text", "which", "value"]) (sc := defScope s_law) (by decide +kernel)) (fun _ _ _ _ _ => (pg_name (i := 12) sc_law.nd rfl (Or.inl rfl))) (fun _ _ _ _ _ => pts_nil) (fun _ _ _ _ _ => (pe_ix ix_str pe_str (pe_op op_mod (pv 12) pe_int) (fun _ _ => rfl)))))))
  (C8.pss_cut (ps_for PassesOwn.never rfl (pi_list (pe_lst (pa_cons (pv 9) (pa_cons (pe_op op_add_str (pv 9) pe_str) (pa_cons (pe_op op_add_str (pv 9) pe_str) (pa_cons pe_str (pa_cons pe_str (pa_cons (pe_op FK.op_rep_str pe_str pe_int) (pa_cons (pe_op FK.op_rep_str pe_str pe_int) (pa_cons (pv 3) (pa_cons (pe_op op_add_str (pv 9) pe_str) pa_nil))))))))))) (pg_name (i := 10) sc_law.nd rfl (Or.inl rfl))
  (pss_one (ps_for PassesOwn.never rfl (pi_range1 rfl T.n_range (pa_cons pe_int pa_nil)) (pg_name (i := 11) sc_law.nd rfl (Or.inl rfl))
  (pss_one (ps_if (pt_cmpR op_ne (pe_callB (FK.call_repr hG hr) (by rfl) T.n_repr (by decide +kernel) (pa_cons (FK.pe_h (E := E0) H_law_told (hr.mono (by decide)) pass0 (pa_cons (pv 11) (pa_cons (pv 10) pa_nil))) pa_nil)) (pe_callB (FK.call_repr hG hr) (by rfl) T.n_repr (by decide +kernel) (pa_cons (FK.pe_h (E := E0) H_law_due (hr.mono (by decide)) pass0 (pa_cons (pv 11) (pa_cons (pv 10) pa_nil))) pa_nil)) (nomark _)) (pss_one (ps_ret pe_bl)) pss_nil)))))
  (pss_one (ps_ret (pe_cmpR op_eq (FK.pe_h (E := E0) H_word_in (hr.mono (by decide)) FK.pass1 (pa_cons (FK.pe_h (E := E0) H_text_of (hr.mono (by decide)) FK.pass1 (pa_cons (pv 9) pa_nil)) pa_nil)) (pv 9) (nomark _)))))))))))))))), ?_⟩
  refine ⟨fun σ H' => ∃ ch : Str, σ = [some (.ref a), some (.str ch), none, none, none, none, none, none, none, none, none, none, none] ∧ 34 ≤ ch.cps.toList.length ∧ ch.length ≤ 100 ∧ Same H H', ?_, ?_⟩
  · simp only [tSeq, tIfS, tOr, tAnd, tB, tTest, tCB, tCons, tVar, tC, tNil, tNot, tNotV, tRet, tRetN, tNext, tBreak, tOrV, tAndV, tOp, tUn, rEq, rNe, tChain, rI0, rI, rU, tAsg, gName, tDrop, tAug, ipI, tIf, tCall, tCallS, tLst, tTup, tBM, tBM0, rAppend, rExtend, rPop, rReverse, tyV, rIxL, rIxT, rIxS, rIsB, rNotB, L2.start, List.map_cons, List.map_nil, List.length_cons, List.length_nil, List.replicate, List.cons_append, List.nil_append, List.append_nil, List.getElem?_cons_zero, List.getElem?_cons_succ, List.set_cons_zero, List.set_cons_succ, Nat.reduceAdd, Nat.reduceSub, Option.some.injEq, exists_eq_left', exists_eq_left, V.int.injEq, V.bl.injEq, V.str.injEq, V.ref.injEq, List.cons.injEq, and_true, true_and, and_assoc, reduceCtorEq, false_and, exists_false, or_false, false_or, exists_and_left, exists_const, scal, Int.reduceLT, Int.reduceLE, Int.reduceSub, Int.reduceAdd, Int.reduceNeg, if_true, if_false]
    exact ⟨by decide +kernel, by decide +kernel, Same.refl _⟩
  rintro σ H1 ⟨ch, rfl, lch, lch2, s1⟩
  refine ⟨fun σ H' => ∃ (L : Addr) (zs : List Int), σ = [some (.ref a), some (.str ch), some (.ref L), none, none, none, none, none, none, none, none, none, none] ∧ H' L = some (.lst (zs.map V.int)) ∧ zs.length ≤ 30 ∧ Same H H', ?_, ?_⟩
  · simp only [tSeq, tIfS, tOr, tAnd, tB, tTest, tCB, tCons, tVar, tC, tNil, tNot, tNotV, tRet, tRetN, tNext, tBreak, tOrV, tAndV, tOp, tUn, rEq, rNe, tChain, rI0, rI, rU, tAsg, gName, tDrop, tAug, ipI, tIf, tCall, tCallS, tLst, tTup, tBM, tBM0, rAppend, rExtend, rPop, rReverse, tyV, rIxL, rIxT, rIxS, rIsB, rNotB, L2.start, List.map_cons, List.map_nil, List.length_cons, List.length_nil, List.replicate, List.cons_append, List.nil_append, List.append_nil, List.getElem?_cons_zero, List.getElem?_cons_succ, List.set_cons_zero, List.set_cons_succ, Nat.reduceAdd, Nat.reduceSub, Option.some.injEq, exists_eq_left', exists_eq_left, V.int.injEq, V.bl.injEq, V.str.injEq, V.ref.injEq, List.cons.injEq, and_true, true_and, and_assoc, reduceCtorEq, false_and, exists_false, or_false, false_or, exists_and_left, exists_const, scal, Int.reduceLT, Int.reduceLE, Int.reduceSub, Int.reduceAdd, Int.reduceNeg, if_true, if_false]
    refine spCell_i 1 (s1.seq sq) fun i => spCell_i 0 (s1.seq sq) fun j => ?_
    have h31 : 0 ≤ j % 31 ∧ j % 31 < 31 := ⟨Int.emod_nonneg _ (by decide), Int.emod_lt_of_pos _ (by decide)⟩
    refine ⟨j, rfl, i, (j % 31).toNat, 97, by rw [Int.toNat_of_nonneg h31.1]; rfl, by omega, by decide, by decide, fun L zs H' hL s' eL lz hz => ⟨L, rfl, zs, eL, by omega, s1.trans s'⟩⟩
  rintro σ H2 ⟨L, zs, rfl, eL2, lz, s2⟩
  refine ⟨fun σ H' => ∃ ln : Str, σ = [some (.ref a), some (.str ch), some (.ref L), some (.str ln), none, none, none, none, none, none, none, none, none] ∧ ln.length ≤ 30 ∧ Same H H', ?_, ?_⟩
  · simp only [tSeq, tIfS, tOr, tAnd, tB, tTest, tCB, tCons, tVar, tC, tNil, tNot, tNotV, tRet, tRetN, tNext, tBreak, tOrV, tAndV, tOp, tUn, rEq, rNe, tChain, rI0, rI, rU, tAsg, gName, tDrop, tAug, ipI, tIf, tCall, tCallS, tLst, tTup, tBM, tBM0, rAppend, rExtend, rPop, rReverse, tyV, rIxL, rIxT, rIxS, rIsB, rNotB, L2.start, List.map_cons, List.map_nil, List.length_cons, List.length_nil, List.replicate, List.cons_append, List.nil_append, List.append_nil, List.getElem?_cons_zero, List.getElem?_cons_succ, List.set_cons_zero, List.set_cons_succ, Nat.reduceAdd, Nat.reduceSub, Option.some.injEq, exists_eq_left', exists_eq_left, V.int.injEq, V.bl.injEq, V.str.injEq, V.ref.injEq, List.cons.injEq, and_true, true_and, and_assoc, reduceCtorEq, false_and, exists_false, or_false, false_or, exists_and_left, exists_const, scal, Int.reduceLT, Int.reduceLE, Int.reduceSub, Int.reduceAdd, Int.reduceNeg, if_true, if_false]
    simp only [tM1]
    refine ⟨⟨_, rfl⟩, ?_⟩
    refine rd_text (fun _ => True) (L := L) (H1 := H2) (fun R r => ⟨_, rfl, L, rfl, ⟨_, SqL.of eL2⟩, r⟩) eL2 (by omega) (fun _ => rfl) (fun v H' R s' r hv => ?_) fun D cs H' s' hD lc hcs => ?_
    · simp only [tSeq, tIfS, tOr, tAnd, tB, tTest, tCB, tCons, tVar, tC, tNil, tNot, tNotV, tRet, tRetN, tNext, tBreak, tOrV, tAndV, tOp, tUn, rEq, rNe, tChain, rI0, rI, rU, tAsg, gName, tDrop, tAug, ipI, tIf, tCall, tCallS, tLst, tTup, tBM, tBM0, rAppend, rExtend, rPop, rReverse, tyV, rIxL, rIxT, rIxS, rIsB, rNotB, L2.start, List.map_cons, List.map_nil, List.length_cons, List.length_nil, List.replicate, List.cons_append, List.nil_append, List.append_nil, List.getElem?_cons_zero, List.getElem?_cons_succ, List.set_cons_zero, List.set_cons_succ, Nat.reduceAdd, Nat.reduceSub, Option.some.injEq, exists_eq_left', exists_eq_left, V.int.injEq, V.bl.injEq, V.str.injEq, V.ref.injEq, List.cons.injEq, and_true, true_and, and_assoc, reduceCtorEq, false_and, exists_false, or_false, false_or, exists_and_left, exists_const, scal, Int.reduceLT, Int.reduceLE, Int.reduceSub, Int.reduceAdd, Int.reduceNeg, if_true, if_false, wipe]
      have l0 : ch.length ≤ sizeLine := Nat.le_trans lch2 (by decide)
      refine ite2 (fun c => ?_) (fun c => ?_)
      · obtain ⟨c, hc⟩ := at_sg (cs := ch.cps.toList) (m := v % 33) (Int.emod_nonneg _ (by decide)) (by have := Int.emod_lt_of_pos v (show (0 : Int) < 33 by decide); omega)
        exact ⟨l0, c, hc, r c trivial⟩
      · obtain ⟨c, hc⟩ := at_sg (cs := ch.cps.toList) (m := 33) (by decide) (by omega)
        exact ⟨l0, c, hc, r c trivial⟩
    · refine ⟨"", rfl, D, rfl, _, .inl (SqL.of hD), ?_, ?_⟩
      · rw [sum_sg, List.length_map]
        have h2 : cs.length * ("" : Str).length = 0 := Nat.mul_zero _
        omega
      · rw [join_signs]
        exact ⟨_, rfl, by show cs.toArray.size ≤ 30; rw [List.size_toArray]; omega, s2.trans s'⟩
  rintro σ H3 ⟨ln, rfl, lln, s3⟩
  refine ⟨fun σ H' => ∃ ln : Str, σ = [some (.ref a), some (.str ch), some (.ref L), some (.str ln), none, none, none, none, none, none, none, none, none] ∧ ln.length ≤ 100 ∧ Same H H', ?_, ?_⟩
  · simp only [tSeq, tIfS, tOr, tAnd, tB, tTest, tCB, tCons, tVar, tC, tNil, tNot, tNotV, tRet, tRetN, tNext, tBreak, tOrV, tAndV, tOp, tUn, rEq, rNe, tChain, rI0, rI, rU, tAsg, gName, tDrop, tAug, ipI, tIf, tCall, tCallS, tLst, tTup, tBM, tBM0, rAppend, rExtend, rPop, rReverse, tyV, rIxL, rIxT, rIxS, rIsB, rNotB, L2.start, List.map_cons, List.map_nil, List.length_cons, List.length_nil, List.replicate, List.cons_append, List.nil_append, List.append_nil, List.getElem?_cons_zero, List.getElem?_cons_succ, List.set_cons_zero, List.set_cons_succ, Nat.reduceAdd, Nat.reduceSub, Option.some.injEq, exists_eq_left', exists_eq_left, V.int.injEq, V.bl.injEq, V.str.injEq, V.ref.injEq, List.cons.injEq, and_true, true_and, and_assoc, reduceCtorEq, false_and, exists_false, or_false, false_or, exists_and_left, exists_const, scal, Int.reduceLT, Int.reduceLE, Int.reduceSub, Int.reduceAdd, Int.reduceNeg, if_true, if_false]
    refine spCell_i 2 (s3.seq sq) fun r => ⟨r, rfl, ite2 (fun c => ?_) (fun c => ⟨by omega, s3⟩)⟩
    simp only [tM1]
    refine ⟨⟨_, rfl⟩, ?_⟩
    refine FK.lc_lst ?_
    simp only [tSeq, tIfS, tOr, tAnd, tB, tTest, tCB, tCons, tVar, tC, tNil, tNot, tNotV, tRet, tRetN, tNext, tBreak, tOrV, tAndV, tOp, tUn, rEq, rNe, tChain, rI0, rI, rU, tAsg, gName, tDrop, tAug, ipI, tIf, tCall, tCallS, tLst, tTup, tBM, tBM0, rAppend, rExtend, rPop, rReverse, tyV, rIxL, rIxT, rIxS, rIsB, rNotB, L2.start, List.map_cons, List.map_nil, List.length_cons, List.length_nil, List.replicate, List.cons_append, List.nil_append, List.append_nil, List.getElem?_cons_zero, List.getElem?_cons_succ, List.set_cons_zero, List.set_cons_succ, Nat.reduceAdd, Nat.reduceSub, Option.some.injEq, exists_eq_left', exists_eq_left, V.int.injEq, V.bl.injEq, V.str.injEq, V.ref.injEq, List.cons.injEq, and_true, true_and, and_assoc, reduceCtorEq, false_and, exists_false, or_false, false_or, exists_and_left, exists_const, scal, Int.reduceLT, Int.reduceLE, Int.reduceSub, Int.reduceAdd, Int.reduceNeg, if_true, if_false, tM1, rNewStrs]
    have hlen := spw_facts ln
    refine ⟨⟨_, rfl⟩, by decide +kernel, Nat.le_trans (show ln.length + 2 ≤ 2000 by omega) (by decide), fun p hp => ⟨⟨_, SqL.of upd_same⟩, ?_⟩⟩
    have lf : ((spw ln).filter fun y => !decide (V.str y = V.str "")).length ≤ (spw ln).length := List.length_filter_le _ _
    have sf := sum_filter (fun y => !decide (V.str y = V.str "")) (spw ln)
    refine FK.rd_lc_filter (J := Itl K p) (H1 := upd H3 p (.lst ((spw ln).map V.str))) ((spw ln).map V.str) (fun x => !decide (x = V.str "")) id (fun R r => r) walk_list (fun D o hD => SqL.of (FK.same_new hD _ _ upd_same)) (by rw [List.length_map]; exact Nat.lt_of_le_of_lt (show (spw ln).length ≤ 100 by omega) (by decide)) (fun _ => rfl) ?_ ?_ ?_
    · rintro x' H' R hx r
      obtain ⟨y, hy, rfl⟩ := List.mem_map.mp hx
      simp only [tSeq, tIfS, tOr, tAnd, tB, tTest, tCB, tCons, tVar, tC, tNil, tNot, tNotV, tRet, tRetN, tNext, tBreak, tOrV, tAndV, tOp, tUn, rEq, rNe, tChain, rI0, rI, rU, tAsg, gName, tDrop, tAug, ipI, tIf, tCall, tCallS, tLst, tTup, tBM, tBM0, rAppend, rExtend, rPop, rReverse, tyV, rIxL, rIxT, rIxS, rIsB, rNotB, L2.start, List.map_cons, List.map_nil, List.length_cons, List.length_nil, List.replicate, List.cons_append, List.nil_append, List.append_nil, List.getElem?_cons_zero, List.getElem?_cons_succ, List.set_cons_zero, List.set_cons_succ, Nat.reduceAdd, Nat.reduceSub, Option.some.injEq, exists_eq_left', exists_eq_left, V.int.injEq, V.bl.injEq, V.str.injEq, V.ref.injEq, List.cons.injEq, and_true, true_and, and_assoc, reduceCtorEq, false_and, exists_false, or_false, false_or, exists_and_left, exists_const, scal, Int.reduceLT, Int.reduceLE, Int.reduceSub, Int.reduceAdd, Int.reduceNeg, if_true, if_false, wipe]
      have e1 : (!decide (V.str y = V.str "")) = !decide (y = "") := by rw [show decide (V.str y = V.str "") = decide (y = "") from decide_eq_decide.2 (by simp)]
      show R _ H'
      rw [← e1]
      exact r
    · rintro x' H' R hx _ r
      simp only [tSeq, tIfS, tOr, tAnd, tB, tTest, tCB, tCons, tVar, tC, tNil, tNot, tNotV, tRet, tRetN, tNext, tBreak, tOrV, tAndV, tOp, tUn, rEq, rNe, tChain, rI0, rI, rU, tAsg, gName, tDrop, tAug, ipI, tIf, tCall, tCallS, tLst, tTup, tBM, tBM0, rAppend, rExtend, rPop, rReverse, tyV, rIxL, rIxT, rIxS, rIsB, rNotB, L2.start, List.map_cons, List.map_nil, List.length_cons, List.length_nil, List.replicate, List.cons_append, List.nil_append, List.append_nil, List.getElem?_cons_zero, List.getElem?_cons_succ, List.set_cons_zero, List.set_cons_succ, Nat.reduceAdd, Nat.reduceSub, Option.some.injEq, exists_eq_left', exists_eq_left, V.int.injEq, V.bl.injEq, V.str.injEq, V.ref.injEq, List.cons.injEq, and_true, true_and, and_assoc, reduceCtorEq, false_and, exists_false, or_false, false_or, exists_and_left, exists_const, scal, Int.reduceLT, Int.reduceLE, Int.reduceSub, Int.reduceAdd, Int.reduceNeg, if_true, if_false, wipe]
      exact r
    · intro D hD
      have e1 : (((spw ln).map V.str).filter fun x => !decide (x = V.str "")).map id = ((spw ln).filter fun y => !decide (V.str y = V.str "")).map V.str := by
        rw [List.map_id, List.filter_map]
        rfl
      rw [e1]
      refine ⟨D, rfl, _, .inl (SqL.of upd_same), ?_, ?_⟩
      · rw [show (" " : Str).length = 1 by decide +kernel]
        omega
      · have h2 := join_len ((spw ln).filter fun y => !decide (V.str y = V.str ""))
        exact ⟨by omega, (s3.trans (FK.same_new hp)).trans (FK.same_new hD)⟩
  rintro σ H4 ⟨ln, rfl, lln, s4⟩
  refine ⟨fun σ H' => σ = [some (.ref a), some (.str ch), some (.ref L), some (.str ln), none, none, none, none, none, none, none, none, none] ∧ Same H H', ?_, ?_⟩
  · simp only [tSeq, tIfS, tOr, tAnd, tB, tTest, tCB, tCons, tVar, tC, tNil, tNot, tNotV, tRet, tRetN, tNext, tBreak, tOrV, tAndV, tOp, tUn, rEq, rNe, tChain, rI0, rI, rU, tAsg, gName, tDrop, tAug, ipI, tIf, tCall, tCallS, tLst, tTup, tBM, tBM0, rAppend, rExtend, rPop, rReverse, tyV, rIxL, rIxT, rIxS, rIsB, rNotB, L2.start, List.map_cons, List.map_nil, List.length_cons, List.length_nil, List.replicate, List.cons_append, List.nil_append, List.append_nil, List.getElem?_cons_zero, List.getElem?_cons_succ, List.set_cons_zero, List.set_cons_succ, Nat.reduceAdd, Nat.reduceSub, Option.some.injEq, exists_eq_left', exists_eq_left, V.int.injEq, V.bl.injEq, V.str.injEq, V.ref.injEq, List.cons.injEq, and_true, true_and, and_assoc, reduceCtorEq, false_and, exists_false, or_false, false_or, exists_and_left, exists_const, scal, Int.reduceLT, Int.reduceLE, Int.reduceSub, Int.reduceAdd, Int.reduceNeg, if_true, if_false]
    have okl : okLine ln = true → ∀ w ∈ spw ln, w.length ≤ 500 ∧ ∀ c ∈ w.cps.toList, c < 1000 := fun h w hw => by
      have h1 := (spw_len ln).2 w hw
      rw [okLine_eq, List.all_eq_true] at h
      have h2 := h w hw
      unfold okWd at h2
      rw [Bool.and_eq_true, List.all_eq_true] at h2
      refine ⟨by omega, fun c hc => ?_⟩
      have h3 := h2.2 c hc
      unfold plC at h3
      simp at h3
      omega
    have sl := (spw_len ln).1
    refine ⟨ln, rfl, by omega, fun o H6 s6 => ?_, fun o p H6 s6 e6 => ?_⟩
    · refine sh_non.rd fun z hz => ⟨ln, rfl, by omega, fun _ H7 s7 => hz _ _ ⟨rfl, iteF' (by simp) ((s4.trans s6).trans s7)⟩, fun o2 => by rw [o] at o2; cases o2⟩
    · refine sh_list e6 (by omega) (okl o) ⟨ln, rfl, by omega, fun o2 => (by rw [o] at o2; cases o2), fun _ p2 H7 s7 e7 => sh_list e7 (by omega) (okl o) ⟨rfl, iteF' (by simp) ((s4.trans s6).trans s7)⟩⟩
  rintro σ H5 ⟨rfl, s5⟩
  refine ⟨fun σ H' => ∃ lg : Str, σ = [some (.ref a), some (.str ch), some (.ref L), some (.str ln), some (.str lg), none, none, none, none, none, none, none, none] ∧ lg.length ≤ 100 ∧ Same H H', ?_, ?_⟩
  · simp only [tSeq, tIfS, tOr, tAnd, tB, tTest, tCB, tCons, tVar, tC, tNil, tNot, tNotV, tRet, tRetN, tNext, tBreak, tOrV, tAndV, tOp, tUn, rEq, rNe, tChain, rI0, rI, rU, tAsg, gName, tDrop, tAug, ipI, tIf, tCall, tCallS, tLst, tTup, tBM, tBM0, rAppend, rExtend, rPop, rReverse, tyV, rIxL, rIxT, rIxS, rIsB, rNotB, L2.start, List.map_cons, List.map_nil, List.length_cons, List.length_nil, List.replicate, List.cons_append, List.nil_append, List.append_nil, List.getElem?_cons_zero, List.getElem?_cons_succ, List.set_cons_zero, List.set_cons_succ, Nat.reduceAdd, Nat.reduceSub, Option.some.injEq, exists_eq_left', exists_eq_left, V.int.injEq, V.bl.injEq, V.str.injEq, V.ref.injEq, List.cons.injEq, and_true, true_and, and_assoc, reduceCtorEq, false_and, exists_false, or_false, false_or, exists_and_left, exists_const, scal, Int.reduceLT, Int.reduceLE, Int.reduceSub, Int.reduceAdd, Int.reduceNeg, if_true, if_false]
    simp only [tM1]
    refine ⟨⟨_, rfl⟩, ?_⟩
    refine FK.lc_lst ?_
    simp only [tSeq, tIfS, tOr, tAnd, tB, tTest, tCB, tCons, tVar, tC, tNil, tNot, tNotV, tRet, tRetN, tNext, tBreak, tOrV, tAndV, tOp, tUn, rEq, rNe, tChain, rI0, rI, rU, tAsg, gName, tDrop, tAug, ipI, tIf, tCall, tCallS, tLst, tTup, tBM, tBM0, rAppend, rExtend, rPop, rReverse, tyV, rIxL, rIxT, rIxS, rIsB, rNotB, L2.start, List.map_cons, List.map_nil, List.length_cons, List.length_nil, List.replicate, List.cons_append, List.nil_append, List.append_nil, List.getElem?_cons_zero, List.getElem?_cons_succ, List.set_cons_zero, List.set_cons_succ, Nat.reduceAdd, Nat.reduceSub, Option.some.injEq, exists_eq_left', exists_eq_left, V.int.injEq, V.bl.injEq, V.str.injEq, V.ref.injEq, List.cons.injEq, and_true, true_and, and_assoc, reduceCtorEq, false_and, exists_false, or_false, false_or, exists_and_left, exists_const, scal, Int.reduceLT, Int.reduceLE, Int.reduceSub, Int.reduceAdd, Int.reduceNeg, if_true, if_false]
    refine spCell_i 3 (s5.seq sq) fun i => spCell_i 4 (s5.seq sq) fun j => ?_
    have h31 : 0 ≤ j % 15 ∧ j % 15 < 15 := ⟨Int.emod_nonneg _ (by decide), Int.emod_lt_of_pos _ (by decide)⟩
    refine ⟨j, rfl, i, (j % 15).toNat, 97, by rw [Int.toNat_of_nonneg h31.1]; rfl, by omega, by decide, by decide, fun L2' zs2 H6 hL2 s6 eL6 lz2 hz2 => ⟨L2', rfl, ⟨_, SqL.of eL6⟩, ?_⟩⟩
    refine rd_text (fun _ => True) (L := L2') (H1 := H6) (fun R r => r) eL6 (by omega) (fun _ => rfl) (fun v H' R s' r hv => ?_) fun D cs H' s' hD lc hcs => ?_
    · simp only [tSeq, tIfS, tOr, tAnd, tB, tTest, tCB, tCons, tVar, tC, tNil, tNot, tNotV, tRet, tRetN, tNext, tBreak, tOrV, tAndV, tOp, tUn, rEq, rNe, tChain, rI0, rI, rU, tAsg, gName, tDrop, tAug, ipI, tIf, tCall, tCallS, tLst, tTup, tBM, tBM0, rAppend, rExtend, rPop, rReverse, tyV, rIxL, rIxT, rIxS, rIsB, rNotB, L2.start, List.map_cons, List.map_nil, List.length_cons, List.length_nil, List.replicate, List.cons_append, List.nil_append, List.append_nil, List.getElem?_cons_zero, List.getElem?_cons_succ, List.set_cons_zero, List.set_cons_succ, Nat.reduceAdd, Nat.reduceSub, Option.some.injEq, exists_eq_left', exists_eq_left, V.int.injEq, V.bl.injEq, V.str.injEq, V.ref.injEq, List.cons.injEq, and_true, true_and, and_assoc, reduceCtorEq, false_and, exists_false, or_false, false_or, exists_and_left, exists_const, scal, Int.reduceLT, Int.reduceLE, Int.reduceSub, Int.reduceAdd, Int.reduceNeg, if_true, if_false, wipe]
      obtain ⟨c, hc⟩ := at_sg (cs := ("abcz" : Str).cps.toList) (m := v % 4) (Int.emod_nonneg _ (by decide)) (by rw [show (("abcz" : Str).cps.toList.length : Int) = 4 by decide +kernel]; exact Int.emod_lt_of_pos v (by decide))
      exact ⟨by decide +kernel, c, hc, r c trivial⟩
    · refine ⟨D, rfl, _, .inl (SqL.of hD), ?_, ?_⟩
      · rw [sum_sg, List.length_map]
        have h2 : cs.length * ("" : Str).length = 0 := Nat.mul_zero _
        omega
      · rw [join_signs]
        exact ⟨by show cs.toArray.size ≤ 100; rw [List.size_toArray]; omega, (s5.trans s6).trans s'⟩
  rintro σ H6 ⟨lg, rfl, llg, s6⟩
  refine ⟨fun σ H' => ∃ (F : Addr) (fs : List Int), σ = [some (.ref a), some (.str ch), some (.ref L), some (.str ln), some (.str lg), some (.ref F), none, none, none, none, none, none, none] ∧ H' F = some (.lst (fs.map V.int)) ∧ fs.length ≤ 3 ∧ Same H H', ?_, ?_⟩
  · simp only [tSeq, tIfS, tOr, tAnd, tB, tTest, tCB, tCons, tVar, tC, tNil, tNot, tNotV, tRet, tRetN, tNext, tBreak, tOrV, tAndV, tOp, tUn, rEq, rNe, tChain, rI0, rI, rU, tAsg, gName, tDrop, tAug, ipI, tIf, tCall, tCallS, tLst, tTup, tBM, tBM0, rAppend, rExtend, rPop, rReverse, tyV, rIxL, rIxT, rIxS, rIsB, rNotB, L2.start, List.map_cons, List.map_nil, List.length_cons, List.length_nil, List.replicate, List.cons_append, List.nil_append, List.append_nil, List.getElem?_cons_zero, List.getElem?_cons_succ, List.set_cons_zero, List.set_cons_succ, Nat.reduceAdd, Nat.reduceSub, Option.some.injEq, exists_eq_left', exists_eq_left, V.int.injEq, V.bl.injEq, V.str.injEq, V.ref.injEq, List.cons.injEq, and_true, true_and, and_assoc, reduceCtorEq, false_and, exists_false, or_false, false_or, exists_and_left, exists_const, scal, Int.reduceLT, Int.reduceLE, Int.reduceSub, Int.reduceAdd, Int.reduceNeg, if_true, if_false]
    refine spCell_i 5 (s6.seq sq) fun i => spCell_i 4 (s6.seq sq) fun j => ?_
    have h31 : 0 ≤ j % 4 ∧ j % 4 < 4 := ⟨Int.emod_nonneg _ (by decide), Int.emod_lt_of_pos _ (by decide)⟩
    refine ⟨j, rfl, i, (j % 4).toNat, 97, by rw [Int.toNat_of_nonneg h31.1]; rfl, by omega, by decide, by decide, fun L zs H' hL s' eL lz hz => ⟨L, rfl, zs, eL, by omega, s6.trans s'⟩⟩
  rintro σ H7 ⟨F, fs, rfl, eF7, lf, s7⟩
  refine ⟨fun σ H' => ∃ dg : Str, σ = [some (.ref a), some (.str ch), some (.ref L), some (.str ln), some (.str lg), some (.ref F), some (.str dg), none, none, none, none, none, none] ∧ dg.length ≤ 100 ∧ Same H H', ?_, ?_⟩
  · simp only [tSeq, tIfS, tOr, tAnd, tB, tTest, tCB, tCons, tVar, tC, tNil, tNot, tNotV, tRet, tRetN, tNext, tBreak, tOrV, tAndV, tOp, tUn, rEq, rNe, tChain, rI0, rI, rU, tAsg, gName, tDrop, tAug, ipI, tIf, tCall, tCallS, tLst, tTup, tBM, tBM0, rAppend, rExtend, rPop, rReverse, tyV, rIxL, rIxT, rIxS, rIsB, rNotB, L2.start, List.map_cons, List.map_nil, List.length_cons, List.length_nil, List.replicate, List.cons_append, List.nil_append, List.append_nil, List.getElem?_cons_zero, List.getElem?_cons_succ, List.set_cons_zero, List.set_cons_succ, Nat.reduceAdd, Nat.reduceSub, Option.some.injEq, exists_eq_left', exists_eq_left, V.int.injEq, V.bl.injEq, V.str.injEq, V.ref.injEq, List.cons.injEq, and_true, true_and, and_assoc, reduceCtorEq, false_and, exists_false, or_false, false_or, exists_and_left, exists_const, scal, Int.reduceLT, Int.reduceLE, Int.reduceSub, Int.reduceAdd, Int.reduceNeg, if_true, if_false]
    simp only [tM1]
    refine ⟨⟨_, rfl⟩, ?_⟩
    refine rd_text (fun _ => True) (L := F) (H1 := H7) (fun R r => ⟨_, rfl, F, rfl, ⟨_, SqL.of eF7⟩, r⟩) eF7 (by omega) (fun _ => rfl) (fun v H' R s' r hv => ?_) fun D cs H' s' hD lc hcs => ?_
    · simp only [tSeq, tIfS, tOr, tAnd, tB, tTest, tCB, tCons, tVar, tC, tNil, tNot, tNotV, tRet, tRetN, tNext, tBreak, tOrV, tAndV, tOp, tUn, rEq, rNe, tChain, rI0, rI, rU, tAsg, gName, tDrop, tAug, ipI, tIf, tCall, tCallS, tLst, tTup, tBM, tBM0, rAppend, rExtend, rPop, rReverse, tyV, rIxL, rIxT, rIxS, rIsB, rNotB, L2.start, List.map_cons, List.map_nil, List.length_cons, List.length_nil, List.replicate, List.cons_append, List.nil_append, List.append_nil, List.getElem?_cons_zero, List.getElem?_cons_succ, List.set_cons_zero, List.set_cons_succ, Nat.reduceAdd, Nat.reduceSub, Option.some.injEq, exists_eq_left', exists_eq_left, V.int.injEq, V.bl.injEq, V.str.injEq, V.ref.injEq, List.cons.injEq, and_true, true_and, and_assoc, reduceCtorEq, false_and, exists_false, or_false, false_or, exists_and_left, exists_const, scal, Int.reduceLT, Int.reduceLE, Int.reduceSub, Int.reduceAdd, Int.reduceNeg, if_true, if_false, wipe]
      obtain ⟨c, hc⟩ := at_sg (cs := ("0123456789" : Str).cps.toList) (m := v % 10) (Int.emod_nonneg _ (by decide)) (by rw [show (("0123456789" : Str).cps.toList.length : Int) = 10 by decide +kernel]; exact Int.emod_lt_of_pos v (by decide))
      exact ⟨by decide +kernel, c, hc, r c trivial⟩
    · refine ⟨"", rfl, D, rfl, _, .inl (SqL.of hD), ?_, ?_⟩
      · rw [sum_sg, List.length_map]
        have h2 : cs.length * ("" : Str).length = 0 := Nat.mul_zero _
        omega
      · rw [join_signs]
        exact ⟨_, rfl, by show cs.toArray.size ≤ 100; rw [List.size_toArray]; omega, s7.trans s'⟩
  rintro σ H8 ⟨dg, rfl, ldg, s8⟩
  refine ⟨fun σ H' => ∃ (M : Addr) (ws : List Str), σ = [some (.ref a), some (.str ch), some (.ref L), some (.str ln), some (.str lg), some (.ref F), some (.str dg), some (.ref M), none, none, none, none, none] ∧ H' M = some (.lst (ws.map V.str)) ∧ (∀ w ∈ ws, w.length ≤ 1000) ∧ Same H H', ?_, ?_⟩
  · simp only [tSeq, tIfS, tOr, tAnd, tB, tTest, tCB, tCons, tVar, tC, tNil, tNot, tNotV, tRet, tRetN, tNext, tBreak, tOrV, tAndV, tOp, tUn, rEq, rNe, tChain, rI0, rI, rU, tAsg, gName, tDrop, tAug, ipI, tIf, tCall, tCallS, tLst, tTup, tBM, tBM0, rAppend, rExtend, rPop, rReverse, tyV, rIxL, rIxT, rIxS, rIsB, rNotB, L2.start, List.map_cons, List.map_nil, List.length_cons, List.length_nil, List.replicate, List.cons_append, List.nil_append, List.append_nil, List.getElem?_cons_zero, List.getElem?_cons_succ, List.set_cons_zero, List.set_cons_succ, Nat.reduceAdd, Nat.reduceSub, Option.some.injEq, exists_eq_left', exists_eq_left, V.int.injEq, V.bl.injEq, V.str.injEq, V.ref.injEq, List.cons.injEq, and_true, true_and, and_assoc, reduceCtorEq, false_and, exists_false, or_false, false_or, exists_and_left, exists_const, scal, Int.reduceLT, Int.reduceLE, Int.reduceSub, Int.reduceAdd, Int.reduceNeg, if_true, if_false]
    simp only [tSeq, tIfS, tOr, tAnd, tB, tTest, tCB, tCons, tVar, tC, tNil, tNot, tNotV, tRet, tRetN, tNext, tBreak, tOrV, tAndV, tOp, tUn, rEq, rNe, tChain, rI0, rI, rU, tAsg, gName, tDrop, tAug, ipI, tIf, tCall, tCallS, tLst, tTup, tBM, tBM0, rAppend, rExtend, rPop, rReverse, tyV, rIxL, rIxT, rIxS, rIsB, rNotB, L2.start, List.map_cons, List.map_nil, List.length_cons, List.length_nil, List.replicate, List.cons_append, List.nil_append, List.append_nil, List.getElem?_cons_zero, List.getElem?_cons_succ, List.set_cons_zero, List.set_cons_succ, Nat.reduceAdd, Nat.reduceSub, Option.some.injEq, exists_eq_left', exists_eq_left, V.int.injEq, V.bl.injEq, V.str.injEq, V.ref.injEq, List.cons.injEq, and_true, true_and, and_assoc, reduceCtorEq, false_and, exists_false, or_false, false_or, exists_and_left, exists_const, scal, Int.reduceLT, Int.reduceLE, Int.reduceSub, Int.reduceAdd, Int.reduceNeg, if_true, if_false, tM1, rNewStrs]
    have hlen := spw_len ln
    refine ⟨⟨_, rfl⟩, by decide +kernel, Nat.le_trans (show ln.length + 2 ≤ 2000 by omega) (by decide), fun p hp => ?_⟩
    have la : ∀ a b : Str, (a ++ b).length = a.length + b.length := fun a b => by
      show (a.cps ++ b.cps).size = _
      rw [Array.size_append]
      rfl
    have z0 : ("0" : Str).length = 1 := by decide +kernel
    have z1 : ("-" : Str).length = 1 := by decide +kernel
    refine ⟨Nat.le_trans (show ("0" : Str).length + dg.length ≤ 2000 by omega) (by decide), Nat.le_trans (show ("-" : Str).length + dg.length ≤ 2000 by omega) (by decide), by decide, fun p2 hp2 => ?_⟩
    refine ⟨p, p2, _, _, rfl, rfl, FK.same_new hp2 _ _ upd_same, upd_same, ?_, fun p3 hp3 => ?_⟩
    · simp only [List.length_map, List.length_cons, List.length_nil]
      exact Nat.le_trans (show (spw ln).length + 12 ≤ 2000 by omega) (by decide)
    refine ⟨p3, rfl, spw ln ++ [lg, dg, "0" ++ dg, "-" ++ dg, "+1", "", "-", "a1", "aA", "99", "100", "00"], by rw [upd_same, List.map_append]; rfl, fun w hw => ?_, ((s8.trans (FK.same_new hp)).trans (FK.same_new hp2)).trans (FK.same_new hp3)⟩
    rcases List.mem_append.mp hw with h | h
    · have := hlen.2 w h
      omega
    · simp only [List.mem_cons, List.not_mem_nil, or_false] at h
      rcases h with rfl | rfl | rfl | rfl | rfl | rfl | rfl | rfl | rfl | rfl | rfl | rfl
      · omega
      · omega
      · rw [la]; omega
      · rw [la]; omega
      all_goals decide +kernel
  rintro σ H9 ⟨M, ws, rfl, eM9, hws, s9⟩
  refine ⟨fun σ H' => ∃ v8 : Option V, σ = [some (.ref a), some (.str ch), some (.ref L), some (.str ln), some (.str lg), some (.ref F), some (.str dg), some (.ref M), v8, none, none, none, none] ∧ Same H H', ?_, ?_⟩
  · simp only [tSeq, tIfS, tOr, tAnd, tB, tTest, tCB, tCons, tVar, tC, tNil, tNot, tNotV, tRet, tRetN, tNext, tBreak, tOrV, tAndV, tOp, tUn, rEq, rNe, tChain, rI0, rI, rU, tAsg, gName, tDrop, tAug, ipI, tIf, tCall, tCallS, tLst, tTup, tBM, tBM0, rAppend, rExtend, rPop, rReverse, tyV, rIxL, rIxT, rIxS, rIsB, rNotB, L2.start, List.map_cons, List.map_nil, List.length_cons, List.length_nil, List.replicate, List.cons_append, List.nil_append, List.append_nil, List.getElem?_cons_zero, List.getElem?_cons_succ, List.set_cons_zero, List.set_cons_succ, Nat.reduceAdd, Nat.reduceSub, Option.some.injEq, exists_eq_left', exists_eq_left, V.int.injEq, V.bl.injEq, V.str.injEq, V.ref.injEq, List.cons.injEq, and_true, true_and, and_assoc, reduceCtorEq, false_and, exists_false, or_false, false_or, exists_and_left, exists_const, scal, Int.reduceLT, Int.reduceLE, Int.reduceSub, Int.reduceAdd, Int.reduceNeg, if_true, if_false]
    refine FK.rd_for (J := Itl K M) (H1 := H9) (fun R r => ⟨_, rfl, M, rfl, ⟨_, SqL.of eM9⟩, r⟩) (walk_list (xs := ws.map V.str)) (fun k σ H' => ∃ v8 : Option V, σ = [some (.ref a), some (.str ch), some (.ref L), some (.str ln), some (.str lg), some (.ref F), some (.str dg), some (.ref M), v8, none, none, none, none] ∧ Same H9 H') ⟨none, rfl, Same.refl _⟩ (fun _ _ _ _ ⟨_, _, s'⟩ => SqL.of (s' _ _ eM9)) ?_ (fun σ H' ⟨v8, e, s'⟩ => ⟨v8, e, s9.trans s'⟩)
    rintro k x' σ Ha Hb hk ⟨v8, rfl, sa⟩ ⟨rfl, hx⟩
    rw [List.getElem?_map] at hx
    cases e : ws[k]? with
    | none => rw [e] at hx; cases hx
    | some y =>
      rw [e] at hx
      cases hx
      have ly := hws y (List.mem_of_getElem? e)
      have ly2 : y.length < sizeLine := Nat.lt_of_le_of_lt ly (by decide)
      simp only [tSeq, tIfS, tOr, tAnd, tB, tTest, tCB, tCons, tVar, tC, tNil, tNot, tNotV, tRet, tRetN, tNext, tBreak, tOrV, tAndV, tOp, tUn, rEq, rNe, tChain, rI0, rI, rU, tAsg, gName, tDrop, tAug, ipI, tIf, tCall, tCallS, tLst, tTup, tBM, tBM0, rAppend, rExtend, rPop, rReverse, tyV, rIxL, rIxT, rIxS, rIsB, rNotB, L2.start, List.map_cons, List.map_nil, List.length_cons, List.length_nil, List.replicate, List.cons_append, List.nil_append, List.append_nil, List.getElem?_cons_zero, List.getElem?_cons_succ, List.set_cons_zero, List.set_cons_succ, Nat.reduceAdd, Nat.reduceSub, Option.some.injEq, exists_eq_left', exists_eq_left, V.int.injEq, V.bl.injEq, V.str.injEq, V.ref.injEq, List.cons.injEq, and_true, true_and, and_assoc, reduceCtorEq, false_and, exists_false, or_false, false_or, exists_and_left, exists_const, scal, Int.reduceLT, Int.reduceLE, Int.reduceSub, Int.reduceAdd, Int.reduceNeg, if_true, if_false]
      refine ⟨y, rfl, ly2, fun Hc sc => (sh_bl _).rd fun z hz => ⟨y, rfl, ly2, fun Hd sd => hz _ _ ⟨rfl, iteF' (by simp) ?_⟩⟩⟩
      have sd2 := (sa.trans sc).trans sd
      refine ⟨y, rfl, fun e1 He se => sh_non.rd fun z2 hz2 => ⟨y, rfl, fun _ Hf sf => hz2 _ _ ⟨rfl, iteF' (by simp) ((sd2.trans se).trans sf)⟩, fun k1 h1 h2 => ?_⟩, fun k1 h1 h2 He se => (sh_num h1).rd fun z2 hz2 => ⟨y, rfl, fun e1 => ?_, fun k2 h3 h4 Hf sf => ?_⟩⟩
      · rw [h2] at e1
        rw [isNum_of ⟨k1, h1⟩] at e1
        cases e1
      · rw [h2] at e1
        rw [isNum_of ⟨k1, h1⟩] at e1
        cases e1
      · obtain rfl := numS_inj h1 h3 (h2.symm.trans h4)
        exact hz2 _ _ ⟨rfl, iteF' (by simp) ((sd2.trans se).trans sf)⟩
  rintro σ H10 ⟨v8, rfl, s10⟩
  refine ⟨fun σ H' => ∃ sm : Str, σ = [some (.ref a), some (.str ch), some (.ref L), some (.str ln), some (.str lg), some (.ref F), some (.str dg), some (.ref M), v8, some (.str sm), none, none, none] ∧ okWord sm 60 = true ∧ sm.length ≤ 12 ∧ Same H H', ?_, ?_⟩
  · simp only [tSeq, tIfS, tOr, tAnd, tB, tTest, tCB, tCons, tVar, tC, tNil, tNot, tNotV, tRet, tRetN, tNext, tBreak, tOrV, tAndV, tOp, tUn, rEq, rNe, tChain, rI0, rI, rU, tAsg, gName, tDrop, tAug, ipI, tIf, tCall, tCallS, tLst, tTup, tBM, tBM0, rAppend, rExtend, rPop, rReverse, tyV, rIxL, rIxT, rIxS, rIsB, rNotB, L2.start, List.map_cons, List.map_nil, List.length_cons, List.length_nil, List.replicate, List.cons_append, List.nil_append, List.append_nil, List.getElem?_cons_zero, List.getElem?_cons_succ, List.set_cons_zero, List.set_cons_succ, Nat.reduceAdd, Nat.reduceSub, Option.some.injEq, exists_eq_left', exists_eq_left, V.int.injEq, V.bl.injEq, V.str.injEq, V.ref.injEq, List.cons.injEq, and_true, true_and, and_assoc, reduceCtorEq, false_and, exists_false, or_false, false_or, exists_and_left, exists_const, scal, Int.reduceLT, Int.reduceLE, Int.reduceSub, Int.reduceAdd, Int.reduceNeg, if_true, if_false]
    simp only [tM1]
    refine ⟨⟨_, rfl⟩, ?_⟩
    refine FK.lc_lst ?_
    simp only [tSeq, tIfS, tOr, tAnd, tB, tTest, tCB, tCons, tVar, tC, tNil, tNot, tNotV, tRet, tRetN, tNext, tBreak, tOrV, tAndV, tOp, tUn, rEq, rNe, tChain, rI0, rI, rU, tAsg, gName, tDrop, tAug, ipI, tIf, tCall, tCallS, tLst, tTup, tBM, tBM0, rAppend, rExtend, rPop, rReverse, tyV, rIxL, rIxT, rIxS, rIsB, rNotB, L2.start, List.map_cons, List.map_nil, List.length_cons, List.length_nil, List.replicate, List.cons_append, List.nil_append, List.append_nil, List.getElem?_cons_zero, List.getElem?_cons_succ, List.set_cons_zero, List.set_cons_succ, Nat.reduceAdd, Nat.reduceSub, Option.some.injEq, exists_eq_left', exists_eq_left, V.int.injEq, V.bl.injEq, V.str.injEq, V.ref.injEq, List.cons.injEq, and_true, true_and, and_assoc, reduceCtorEq, false_and, exists_false, or_false, false_or, exists_and_left, exists_const, scal, Int.reduceLT, Int.reduceLE, Int.reduceSub, Int.reduceAdd, Int.reduceNeg, if_true, if_false]
    refine spCell_i 6 (s10.seq sq) fun i => spCell_i 7 (s10.seq sq) fun j => ?_
    have h31 : 0 ≤ j % 13 ∧ j % 13 < 13 := ⟨Int.emod_nonneg _ (by decide), Int.emod_lt_of_pos _ (by decide)⟩
    refine ⟨j, rfl, i, (j % 13).toNat, 97, by rw [Int.toNat_of_nonneg h31.1]; rfl, by omega, by decide, by decide, fun L2' zs2 H6 hL2 s6 eL6 lz2 hz2 => ⟨L2', rfl, ⟨_, SqL.of eL6⟩, ?_⟩⟩
    refine rd_text (fun c => c = 48 ∨ c = 49 ∨ c = 50) (L := L2') (H1 := H6) (fun R r => r) eL6 (by omega) (fun _ => rfl) (fun v H' R s' r hv => ?_) fun D cs H' s' hD lc hcs => ?_
    · simp only [tSeq, tIfS, tOr, tAnd, tB, tTest, tCB, tCons, tVar, tC, tNil, tNot, tNotV, tRet, tRetN, tNext, tBreak, tOrV, tAndV, tOp, tUn, rEq, rNe, tChain, rI0, rI, rU, tAsg, gName, tDrop, tAug, ipI, tIf, tCall, tCallS, tLst, tTup, tBM, tBM0, rAppend, rExtend, rPop, rReverse, tyV, rIxL, rIxT, rIxS, rIsB, rNotB, L2.start, List.map_cons, List.map_nil, List.length_cons, List.length_nil, List.replicate, List.cons_append, List.nil_append, List.append_nil, List.getElem?_cons_zero, List.getElem?_cons_succ, List.set_cons_zero, List.set_cons_succ, Nat.reduceAdd, Nat.reduceSub, Option.some.injEq, exists_eq_left', exists_eq_left, V.int.injEq, V.bl.injEq, V.str.injEq, V.ref.injEq, List.cons.injEq, and_true, true_and, and_assoc, reduceCtorEq, false_and, exists_false, or_false, false_or, exists_and_left, exists_const, scal, Int.reduceLT, Int.reduceLE, Int.reduceSub, Int.reduceAdd, Int.reduceNeg, if_true, if_false, wipe]
      obtain ⟨c, hc⟩ := at_sg (cs := ("012" : Str).cps.toList) (m := v % 3) (Int.emod_nonneg _ (by decide)) (by rw [show (("012" : Str).cps.toList.length : Int) = 3 by decide +kernel]; exact Int.emod_lt_of_pos v (by decide))
      refine ⟨by decide +kernel, c, hc, r c ?_⟩
      have hm : c ∈ ("012" : Str).cps.toList := by
        obtain ⟨jj, _, h2⟩ := Option.bind_eq_some_iff.mp hc
        exact List.mem_of_getElem? h2
      rw [show ("012" : Str).cps.toList = [48, 49, 50] from rfl] at hm
      simpa using hm
    · refine ⟨D, rfl, _, .inl (SqL.of hD), ?_, ?_⟩
      · rw [sum_sg, List.length_map]
        have h2 : cs.length * ("" : Str).length = 0 := Nat.mul_zero _
        omega
      · rw [join_signs]
        have lc2 : (⟨cs.toArray⟩ : Str).length = cs.length := by show cs.toArray.size = _; rw [List.size_toArray]
        refine ⟨?_, by omega, (s10.trans s6).trans s'⟩
        unfold okWord
        rw [lc2, Bool.and_eq_true, decide_eq_true_iff, List.all_eq_true]
        refine ⟨by omega, fun c hc => ?_⟩
        rw [← let_in, decide_eq_true_iff, show ("012" : Str).cps.toList = [48, 49, 50] from rfl]
        have := hcs c (by simpa using hc)
        simpa using this
  rintro σ H11 ⟨sm, rfl, osm, lsm, s11⟩
  refine ⟨fun σ H' => ∃ v10 v11 : Option V, σ = [some (.ref a), some (.str ch), some (.ref L), some (.str ln), some (.str lg), some (.ref F), some (.str dg), some (.ref M), v8, some (.str sm), v10, v11, none] ∧ Same H H', ?_, ?_⟩
  · simp only [tSeq, tIfS, tOr, tAnd, tB, tTest, tCB, tCons, tVar, tC, tNil, tNot, tNotV, tRet, tRetN, tNext, tBreak, tOrV, tAndV, tOp, tUn, rEq, rNe, tChain, rI0, rI, rU, tAsg, gName, tDrop, tAug, ipI, tIf, tCall, tCallS, tLst, tTup, tBM, tBM0, rAppend, rExtend, rPop, rReverse, tyV, rIxL, rIxT, rIxS, rIsB, rNotB, L2.start, List.map_cons, List.map_nil, List.length_cons, List.length_nil, List.replicate, List.cons_append, List.nil_append, List.append_nil, List.getElem?_cons_zero, List.getElem?_cons_succ, List.set_cons_zero, List.set_cons_succ, Nat.reduceAdd, Nat.reduceSub, Option.some.injEq, exists_eq_left', exists_eq_left, V.int.injEq, V.bl.injEq, V.str.injEq, V.ref.injEq, List.cons.injEq, and_true, true_and, and_assoc, reduceCtorEq, false_and, exists_false, or_false, false_or, exists_and_left, exists_const, scal, Int.reduceLT, Int.reduceLE, Int.reduceSub, Int.reduceAdd, Int.reduceNeg, if_true, if_false]
    refine FK.for_lst ?_
    simp only [tSeq, tIfS, tOr, tAnd, tB, tTest, tCB, tCons, tVar, tC, tNil, tNot, tNotV, tRet, tRetN, tNext, tBreak, tOrV, tAndV, tOp, tUn, rEq, rNe, tChain, rI0, rI, rU, tAsg, gName, tDrop, tAug, ipI, tIf, tCall, tCallS, tLst, tTup, tBM, tBM0, rAppend, rExtend, rPop, rReverse, tyV, rIxL, rIxT, rIxS, rIsB, rNotB, L2.start, List.map_cons, List.map_nil, List.length_cons, List.length_nil, List.replicate, List.cons_append, List.nil_append, List.append_nil, List.getElem?_cons_zero, List.getElem?_cons_succ, List.set_cons_zero, List.set_cons_succ, Nat.reduceAdd, Nat.reduceSub, Option.some.injEq, exists_eq_left', exists_eq_left, V.int.injEq, V.bl.injEq, V.str.injEq, V.ref.injEq, List.cons.injEq, and_true, true_and, and_assoc, reduceCtorEq, false_and, exists_false, or_false, false_or, exists_and_left, exists_const, scal, Int.reduceLT, Int.reduceLE, Int.reduceSub, Int.reduceAdd, Int.reduceNeg, if_true, if_false, FK.rRepS]
    have z0 : ("0" : Str).length = 1 := by decide +kernel
    have z3 : ("3" : Str).length = 1 := by decide +kernel
    have z4 : ("-" : Str).length = 1 := by decide +kernel
    have z5 : (" " : Str).length = 1 := by decide +kernel
    have la : ∀ a b : Str, (a ++ b).length = a.length + b.length := fun a b => by
      show (a.cps ++ b.cps).size = _
      rw [Array.size_append]
      rfl
    have sz : ∀ n : Nat, n ≤ 1000 → n ≤ sizeLine := fun n h => Nat.le_trans h (by decide)
    refine ⟨sz _ (by omega), sz _ (by omega), 60, rfl, sz _ (by omega), by decide, 61, rfl, sz _ (by omega), by decide, sz _ (by omega), by decide, fun p hp => ⟨⟨_, SqL.of upd_same⟩, ?_⟩⟩
    generalize hts : [sm, sm ++ "3", sm ++ "-", "", "-", FK.repS "0" 60, FK.repS "0" 61, ln, sm ++ " "] = ts
    have ets : [V.str sm, V.str (sm ++ "3"), V.str (sm ++ "-"), V.str "", V.str "-", V.str (FK.repS "0" 60), V.str (FK.repS "0" 61), V.str ln, V.str (sm ++ " ")] = ts.map V.str := by rw [← hts]; rfl
    have lts : ∀ t ∈ ts, t.length < sizeLine := fun t ht => by
      rw [← hts] at ht
      simp only [List.mem_cons, List.not_mem_nil, or_false] at ht
      refine Nat.lt_of_le_of_lt (show t.length ≤ 1000 from ?_) (by decide)
      rcases ht with rfl | rfl | rfl | rfl | rfl | rfl | rfl | rfl | rfl
      · omega
      · rw [la]; omega
      · rw [la]; omega
      · decide +kernel
      · decide +kernel
      · decide +kernel
      · decide +kernel
      · omega
      · rw [la]; omega
    rw [ets]
    have sp := s11.trans (FK.same_new (o := HO.lst (ts.map V.str)) hp)
    refine FK.rd_for (J := Itl K p) (H1 := upd H11 p (.lst (ts.map V.str))) (fun R r => r) (walk_list (xs := ts.map V.str)) (fun k σ H' => ∃ v10 v11 : Option V, σ = [some (.ref a), some (.str ch), some (.ref L), some (.str ln), some (.str lg), some (.ref F), some (.str dg), some (.ref M), v8, some (.str sm), v10, v11, none] ∧ Same (upd H11 p (.lst (ts.map V.str))) H') ⟨none, none, rfl, Same.refl _⟩ (fun _ _ _ _ ⟨_, _, _, s'⟩ => SqL.of (s' _ _ upd_same)) ?_ (fun σ H' ⟨v10, v11, e, s'⟩ => ⟨v10, v11, e, sp.trans s'⟩)
    rintro k x' σ Ha Hb hk ⟨v10, v11, rfl, sa⟩ ⟨rfl, hx⟩
    rw [List.getElem?_map] at hx
    cases e : ts[k]? with
    | none => rw [e] at hx; cases hx
    | some y =>
      rw [e] at hx
      cases hx
      have ly := lts y (List.mem_of_getElem? e)
      simp only [tSeq, tIfS, tOr, tAnd, tB, tTest, tCB, tCons, tVar, tC, tNil, tNot, tNotV, tRet, tRetN, tNext, tBreak, tOrV, tAndV, tOp, tUn, rEq, rNe, tChain, rI0, rI, rU, tAsg, gName, tDrop, tAug, ipI, tIf, tCall, tCallS, tLst, tTup, tBM, tBM0, rAppend, rExtend, rPop, rReverse, tyV, rIxL, rIxT, rIxS, rIsB, rNotB, L2.start, List.map_cons, List.map_nil, List.length_cons, List.length_nil, List.replicate, List.cons_append, List.nil_append, List.append_nil, List.getElem?_cons_zero, List.getElem?_cons_succ, List.set_cons_zero, List.set_cons_succ, Nat.reduceAdd, Nat.reduceSub, Option.some.injEq, exists_eq_left', exists_eq_left, V.int.injEq, V.bl.injEq, V.str.injEq, V.ref.injEq, List.cons.injEq, and_true, true_and, and_assoc, reduceCtorEq, false_and, exists_false, or_false, false_or, exists_and_left, exists_const, scal, Int.reduceLT, Int.reduceLE, Int.reduceSub, Int.reduceAdd, Int.reduceNeg, if_true, if_false]
      refine FK.rd_for (J := Itr 0 2) (H1 := Hb) (fun R r => by simp only [tSeq, tIfS, tOr, tAnd, tB, tTest, tCB, tCons, tVar, tC, tNil, tNot, tNotV, tRet, tRetN, tNext, tBreak, tOrV, tAndV, tOp, tUn, rEq, rNe, tChain, rI0, rI, rU, tAsg, gName, tDrop, tAug, ipI, tIf, tCall, tCallS, tLst, tTup, tBM, tBM0, rAppend, rExtend, rPop, rReverse, tyV, rIxL, rIxT, rIxS, rIsB, rNotB, L2.start, List.map_cons, List.map_nil, List.length_cons, List.length_nil, List.replicate, List.cons_append, List.nil_append, List.append_nil, List.getElem?_cons_zero, List.getElem?_cons_succ, List.set_cons_zero, List.set_cons_succ, Nat.reduceAdd, Nat.reduceSub, Option.some.injEq, exists_eq_left', exists_eq_left, V.int.injEq, V.bl.injEq, V.str.injEq, V.ref.injEq, List.cons.injEq, and_true, true_and, and_assoc, reduceCtorEq, false_and, exists_false, or_false, false_or, exists_and_left, exists_const, scal, Int.reduceLT, Int.reduceLE, Int.reduceSub, Int.reduceAdd, Int.reduceNeg, if_true, if_false, iRng1]; exact ⟨by decide, by decide, r⟩) walk_range (fun k σ H' => ∃ v11 : Option V, σ = [some (.ref a), some (.str ch), some (.ref L), some (.str ln), some (.str lg), some (.ref F), some (.str dg), some (.ref M), v8, some (.str sm), some (.str y), v11, none] ∧ Same (upd H11 p (.lst (ts.map V.str))) H') ⟨v11, rfl, sa⟩ (fun _ _ _ _ _ => trivial) ?_ (fun σ H' ⟨v11, e, s'⟩ => ⟨_, v11, e, s'⟩)
      rintro k x' σ Hc Hd hk ⟨v11, rfl, sc⟩ ⟨rfl, rfl⟩
      simp only [tSeq, tIfS, tOr, tAnd, tB, tTest, tCB, tCons, tVar, tC, tNil, tNot, tNotV, tRet, tRetN, tNext, tBreak, tOrV, tAndV, tOp, tUn, rEq, rNe, tChain, rI0, rI, rU, tAsg, gName, tDrop, tAug, ipI, tIf, tCall, tCallS, tLst, tTup, tBM, tBM0, rAppend, rExtend, rPop, rReverse, tyV, rIxL, rIxT, rIxS, rIsB, rNotB, L2.start, List.map_cons, List.map_nil, List.length_cons, List.length_nil, List.replicate, List.cons_append, List.nil_append, List.append_nil, List.getElem?_cons_zero, List.getElem?_cons_succ, List.set_cons_zero, List.set_cons_succ, Nat.reduceAdd, Nat.reduceSub, Option.some.injEq, exists_eq_left', exists_eq_left, V.int.injEq, V.bl.injEq, V.str.injEq, V.ref.injEq, List.cons.injEq, and_true, true_and, and_assoc, reduceCtorEq, false_and, exists_false, or_false, false_or, exists_and_left, exists_const, scal, Int.reduceLT, Int.reduceLE, Int.reduceSub, Int.reduceAdd, Int.reduceNeg, if_true, if_false]
      exact ⟨_, y, rfl, ly, fun He se => (sh_told _ y).rd fun z hz => ⟨_, y, rfl, ly, fun Hf sf => hz _ _ ⟨rfl, iteF' (by simp) ((sc.trans se).trans sf)⟩⟩⟩
  rintro σ H12 ⟨v10, v11, rfl, s12⟩
  simp only [tSeq, tIfS, tOr, tAnd, tB, tTest, tCB, tCons, tVar, tC, tNil, tNot, tNotV, tRet, tRetN, tNext, tBreak, tOrV, tAndV, tOp, tUn, rEq, rNe, tChain, rI0, rI, rU, tAsg, gName, tDrop, tAug, ipI, tIf, tCall, tCallS, tLst, tTup, tBM, tBM0, rAppend, rExtend, rPop, rReverse, tyV, rIxL, rIxT, rIxS, rIsB, rNotB, L2.start, List.map_cons, List.map_nil, List.length_cons, List.length_nil, List.replicate, List.cons_append, List.nil_append, List.append_nil, List.getElem?_cons_zero, List.getElem?_cons_succ, List.set_cons_zero, List.set_cons_succ, Nat.reduceAdd, Nat.reduceSub, Option.some.injEq, exists_eq_left', exists_eq_left, V.int.injEq, V.bl.injEq, V.str.injEq, V.ref.injEq, List.cons.injEq, and_true, true_and, and_assoc, reduceCtorEq, false_and, exists_false, or_false, false_or, exists_and_left, exists_const, scal, Int.reduceLT, Int.reduceLE, Int.reduceSub, Int.reduceAdd, Int.reduceNeg, if_true, if_false]
  have ls : sm.length < sizeLine := Nat.lt_of_le_of_lt lsm (by decide)
  refine ⟨sm, rfl, ls, (fun e => by rw [osm] at e; cases e), fun _ H13 s13 => ?_⟩
  by_cases c : sm = ""
  · rw [if_pos c]
    exact ⟨"-", rfl, by decide, (fun h => by rcases h with h | ⟨h, _⟩; exact absurd h (by decide); exact absurd rfl h), (fun _ H14 s14 => ⟨rfl, by rw [c]; simp⟩), fun h => absurd rfl h⟩
  · rw [if_neg c]
    have c2 : sm ≠ "-" := fun z => by
      rw [z] at osm
      exact absurd osm (by decide +kernel)
    exact ⟨sm, rfl, ls, (fun h => by rcases h with h | ⟨_, h⟩; exact absurd h c; rw [osm] at h; cases h), (fun h => absurd h c2), fun _ _ _ H14 s14 => ⟨rfl, by simp⟩⟩

end
end K89

namespace K89
open PySem PySem.Spec PyProof.Rows L2
theorem law_holds {P : Program} {w : World} {K : PySem.W.Frag} {mg : Str → Option Value} {h : Heap} {fa : Addr} (inK : K.In h) (T : ∃ cx : Xs, Txt K mg cx) (g : mg "law" = some (.ref fa)) (base : Heap) (s : Shared) (H : Hp) (a : Addr) (ns : List Int) (hl : ns.length ≤ 63) (hb : ∀ z ∈ ns, Builtin.Int.intBits z ≤ 1048576)
    (e0 : Env0 P w K mg base callerA [] s H) (sq : SqL K H a (ns.map V.int)) : codeAny (model P w) callerA (.call (.ref fa) ⟨[.ref a], []⟩) (CR CX0 [] P w H s (fun v _ => v = .bl true) E0) s := by
  obtain ⟨cx, T⟩ := T
  exact ok_law T g ⟨rfl, by decide, by decide⟩ e0 sq hl
end K89
open PySem PySem.W PyProof.Rows
set_option maxHeartbeats 0 in
theorem PySem.Challenge.cw_foldfloor_k89_words_of_lines_holds : PySem.Challenge.rw_foldfloor_k89_words_of_lines.Holds := by
  w_on; o_law; k_head; (case hw => w_witness2)
  k_fill
  refine FK.walk_law (l := PySem.Challenge.rw_foldfloor_k89_words_of_lines) (n := 63) rfl (by decide) rfl (fun w h Y => PySem.W.kIn_of Y) ?F
  intro w mg fa h KX G hmg
  refine K89.law_holds KX ?T hmg
  case T =>
    refine' K89.mk_txt {
      d_is_letter := FK.at_mk KX G ?q1_a ?q1_l ?q1_c ?q1_k (fun _ _ _ _ _ _ us hl => match us, hl with | [_], _ => rfl),
      d_is_word := FK.at_mk KX G ?q2_a ?q2_l ?q2_c ?q2_k (fun _ _ _ _ _ _ us hl => match us, hl with | [_, _], _ => rfl),
      d_check_long_word := FK.at_mk KX G ?q3_a ?q3_l ?q3_c ?q3_k (fun _ _ _ _ _ _ us hl => match us, hl with | [_, _], _ => rfl),
      d_check_word := FK.at_mk KX G ?q4_a ?q4_l ?q4_c ?q4_k (fun _ _ _ _ _ _ us hl => match us, hl with | [_], _ => rfl),
      d_is_plain := FK.at_mk KX G ?q5_a ?q5_l ?q5_c ?q5_k (fun _ _ _ _ _ _ us hl => match us, hl with | [_], _ => rfl),
      d_words_of := FK.at_mk KX G ?q6_a ?q6_l ?q6_c ?q6_k (fun _ _ _ _ _ _ us hl => match us, hl with | [_], _ => rfl),
      d_is_name := FK.at_mk KX G ?q7_a ?q7_l ?q7_c ?q7_k (fun _ _ _ _ _ _ us hl => match us, hl with | [_], _ => rfl),
      d_number_in := FK.at_mk KX G ?q8_a ?q8_l ?q8_c ?q8_k (fun _ _ _ _ _ _ us hl => match us, hl with | [_], _ => rfl),
      d_text_of := FK.at_mk KX G ?q9_a ?q9_l ?q9_c ?q9_k (fun _ _ _ _ _ _ us hl => match us, hl with | [_], _ => rfl),
      d_word_in := FK.at_mk KX G ?q10_a ?q10_l ?q10_c ?q10_k (fun _ _ _ _ _ _ us hl => match us, hl with | [_], _ => rfl),
      d_law_cell := FK.at_mk KX G ?q11_a ?q11_l ?q11_c ?q11_k (fun _ _ _ _ _ _ us hl => match us, hl with | [_, _], _ => rfl),
      d_law_values := FK.at_mk KX G ?q12_a ?q12_l ?q12_c ?q12_k (fun _ _ _ _ _ _ us hl => match us, hl with | [_, _, _], _ => rfl),
      d_law_signs := FK.at_mk KX G ?q13_a ?q13_l ?q13_c ?q13_k (fun _ _ _ _ _ _ us hl => match us, hl with | [], _ => rfl),
      d_law_words := FK.at_mk KX G ?q14_a ?q14_l ?q14_c ?q14_k (fun _ _ _ _ _ _ us hl => match us, hl with | [_], _ => rfl),
      d_law_is_name := FK.at_mk KX G ?q15_a ?q15_l ?q15_c ?q15_k (fun _ _ _ _ _ _ us hl => match us, hl with | [_], _ => rfl),
      d_law_number := FK.at_mk KX G ?q16_a ?q16_l ?q16_c ?q16_k (fun _ _ _ _ _ _ us hl => match us, hl with | [_], _ => rfl),
      d_law_told := FK.at_mk KX G ?q17_a ?q17_l ?q17_c ?q17_k (fun _ _ _ _ _ _ us hl => match us, hl with | [_, _], _ => rfl),
      d_law_due := FK.at_mk KX G ?q18_a ?q18_l ?q18_c ?q18_k (fun _ _ _ _ _ _ us hl => match us, hl with | [_, _], _ => rfl),
      d_law := FK.at_mk KX G ?q19_a ?q19_l ?q19_c ?q19_k (fun _ _ _ _ _ _ us hl => match us, hl with | [_], _ => rfl),
      n_all := PySem.W.mg_none_of KX G ?q20_a,
      n_int := PySem.W.mg_none_of KX G ?q21_a,
      n_isinstance := PySem.W.mg_none_of KX G ?q22_a,
      n_len := PySem.W.mg_none_of KX G ?q23_a,
      n_ord := PySem.W.mg_none_of KX G ?q24_a,
      n_range := PySem.W.mg_none_of KX G ?q25_a,
      n_repr := PySem.W.mg_none_of KX G ?q26_a,
      n_str := PySem.W.mg_none_of KX G ?q27_a,
      x_FoldError := FK.xc_mk KX G ?q28_a ?q28_k ?q28_x ?q28_b ?q28_t ?q28_c ?q28_e1 ?q28_e2 ?q28_e4 ?q28_e5 ?q28_e6 ?q28_e7 ?q28_e8,
      x_NotWord := FK.xc_mk KX G ?q29_a ?q29_k ?q29_x ?q29_b ?q29_t ?q29_c ?q29_e1 ?q29_e2 ?q29_e4 ?q29_e5 ?q29_e6 ?q29_e7 ?q29_e8,
      c_MOST_LETTERS := PySem.W.mg_of KX G ?q30_a,
      c_MOST_IN_NAME := PySem.W.mg_of KX G ?q31_a,
      c_NUMBERS := PySem.W.mg_of KX G ?q32_a,
      c_BARRED := PySem.W.mg_of KX G ?q33_a,
      c_EMPTY := PySem.W.mg_of KX G ?q34_a,
      exm_NotWord := PySem.W.exm_ref ?q35_a ?q35_b ?q35_c ?q35_d,
      kit_NotWord := FK.kit_mk ?q36_rfl ?q36_a ?q36_b ?q36_c }
    (case q1_a => k_is)
    (case q1_l => k_is)
    (case q1_c => k_is)
    (case q1_k => k_is)
    (case q2_a => k_is)
    (case q2_l => k_is)
    (case q2_c => k_is)
    (case q2_k => k_is)
    (case q3_a => k_is)
    (case q3_l => k_is)
    (case q3_c => k_is)
    (case q3_k => k_is)
    (case q4_a => k_is)
    (case q4_l => k_is)
    (case q4_c => k_is)
    (case q4_k => k_is)
    (case q5_a => k_is)
    (case q5_l => k_is)
    (case q5_c => k_is)
    (case q5_k => k_is)
    (case q6_a => k_is)
    (case q6_l => k_is)
    (case q6_c => k_is)
    (case q6_k => k_is)
    (case q7_a => k_is)
    (case q7_l => k_is)
    (case q7_c => k_is)
    (case q7_k => k_is)
    (case q8_a => k_is)
    (case q8_l => k_is)
    (case q8_c => k_is)
    (case q8_k => k_is)
    (case q9_a => k_is)
    (case q9_l => k_is)
    (case q9_c => k_is)
    (case q9_k => k_is)
    (case q10_a => k_is)
    (case q10_l => k_is)
    (case q10_c => k_is)
    (case q10_k => k_is)
    (case q11_a => k_is)
    (case q11_l => k_is)
    (case q11_c => k_is)
    (case q11_k => k_is)
    (case q12_a => k_is)
    (case q12_l => k_is)
    (case q12_c => k_is)
    (case q12_k => k_is)
    (case q13_a => k_is)
    (case q13_l => k_is)
    (case q13_c => k_is)
    (case q13_k => k_is)
    (case q14_a => k_is)
    (case q14_l => k_is)
    (case q14_c => k_is)
    (case q14_k => k_is)
    (case q15_a => k_is)
    (case q15_l => k_is)
    (case q15_c => k_is)
    (case q15_k => k_is)
    (case q16_a => k_is)
    (case q16_l => k_is)
    (case q16_c => k_is)
    (case q16_k => k_is)
    (case q17_a => k_is)
    (case q17_l => k_is)
    (case q17_c => k_is)
    (case q17_k => k_is)
    (case q18_a => k_is)
    (case q18_l => k_is)
    (case q18_c => k_is)
    (case q18_k => k_is)
    (case q19_a => k_is)
    (case q19_l => k_is)
    (case q19_c => k_is)
    (case q19_k => k_is)
    (case q20_a => (try dsimp only); k_is)
    (case q21_a => (try dsimp only); k_is)
    (case q22_a => (try dsimp only); k_is)
    (case q23_a => (try dsimp only); k_is)
    (case q24_a => (try dsimp only); k_is)
    (case q25_a => (try dsimp only); k_is)
    (case q26_a => (try dsimp only); k_is)
    (case q27_a => (try dsimp only); k_is)
    (case q28_a => (try dsimp only); k_is)
    (case q28_k => (try dsimp only); k_is)
    (case q28_x => (try dsimp only); k_exc)
    (case q28_b => (try dsimp only); k_is)
    (case q28_t => (try dsimp only); k_is)
    (case q28_c => (try dsimp only); k_is)
    (case q28_e1 => (try dsimp only); k_is)
    (case q28_e2 => (try dsimp only); k_is)
    (case q28_e4 => (try dsimp only); k_is)
    (case q28_e5 => (try dsimp only); k_is)
    (case q28_e6 => (try dsimp only); k_is)
    (case q28_e7 => (try dsimp only); k_is)
    (case q28_e8 => (try dsimp only); k_is)
    (case q29_a => (try dsimp only); k_is)
    (case q29_k => (try dsimp only); k_is)
    (case q29_x => (try dsimp only); k_exc)
    (case q29_b => (try dsimp only); k_is)
    (case q29_t => (try dsimp only); k_is)
    (case q29_c => (try dsimp only); k_is)
    (case q29_e1 => (try dsimp only); k_is)
    (case q29_e2 => (try dsimp only); k_is)
    (case q29_e4 => (try dsimp only); k_is)
    (case q29_e5 => (try dsimp only); k_is)
    (case q29_e6 => (try dsimp only); k_is)
    (case q29_e7 => (try dsimp only); k_is)
    (case q29_e8 => (try dsimp only); k_is)
    (case q30_a => (try dsimp only); k_is)
    (case q31_a => (try dsimp only); k_is)
    (case q32_a => (try dsimp only); k_is)
    (case q33_a => (try dsimp only); k_is)
    (case q34_a => (try dsimp only); k_is)
    (case q35_a => (try dsimp only); k_is)
    (case q35_b => (try dsimp only); k_is)
    (case q35_c => (try dsimp only); k_is)
    (case q35_d => (try dsimp only); k_is)
    (case q36_rfl => dsimp only; decide)
    (case q36_a => (try dsimp only); k_is)
    (case q36_b => (try dsimp only); k_is)
    (case q36_c => (try dsimp only); k_is)
#print axioms PySem.Challenge.cw_foldfloor_k89_words_of_lines_holds

