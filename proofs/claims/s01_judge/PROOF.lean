import PyProof.Rows.All
import Wide.All
import OpenK.AllK
import Wide.FinOn
import PyProof.EqAt
import PyProof.EqKinds
import PyProof.TupleCall
import KE.KExcInit
import HandS.Exc
import HandS.ExcSuper
import HandS.ExcInit
import HandS.ForSpec
import HandS.TryMany
import HandS.Dict
import HandS.Iter
import HandS.WordsDict
import Open.SpecLaws
import KE.OsGo
import PySem.Challenge.RW_studtube_s01_judge
set_option Elab.async false
set_option linter.all false
set_option maxRecDepth 100000
set_option maxHeartbeats 4000000
/-! The program's own errors: classes over Exception, one below another; __init__ of the upper one is called by name, then fields are set. -/
namespace PySem
namespace Jx
open PySem.W PySem.Calls PyProof.Rows PySem.HandSPX Builtin Builtin.ObjectAttr
abbrev exT : List Value := [.type "Exception", .type "BaseException", .type "object"]
structure CT (K : Frag) (C : Addr) : Prop where
  cls : ∃ nm q N bs bm sn sub ab col dd k0 k1 k2 k3 k5,
    K.lookup C = some (excClassObj nm q C N bs bm true sn sub ab col dd k0 k1 k2 k3 k5 "Exception.__new__") ∧ excTail exT bm = true
  sa : findIn K (.ref C) "__setattr__" = some (some (.builtin "object.__setattr__"))
  ga : findIn K (.ref C) "__getattribute__" = some (some (.builtin "BaseException.__getattribute__"))
  gg : findIn K (.ref C) "__getattr__" = some none
  nN : findIn K (.ref C) "number" = some none
  kC : keepIn K (.ref C) = true
  exC : subIn K (.ref C) (.type "BaseException") = some true
  tyC : typeIn K (.ref C) = some (.type "type")
  hdC : hasDictIn K C = true
section
variable {K : Frag} {C : Addr}
theorem CT.cd (T : CT K C) : ∃ cd : ClassData, clsIn K C = some cd ∧ cd.hasDict = true := by
  obtain ⟨nm, q, N, bs, bm, sn, sub, ab, col, dd, k0, k1, k2, k3, k5, hC, hbm⟩ := T.cls
  have e : (clsIn K C).map (·.hasDict) = some true := by
    unfold clsIn
    rw [hC] <;> rfl
  cases q : clsIn K C with
  | none => rw [q] at e; cases e
  | some cd => rw [q] at e; exact ⟨cd, rfl, Option.some.inj e⟩
theorem CT.over (T : CT K C) : excOver K C exT = true := by
  obtain ⟨nm, q, N, bs, bm, sn, sub, ab, col, dd, k0, k1, k2, k3, k5, hC, hbm⟩ := T.cls
  unfold excOver clsIn
  rw [hC]
  show ((C == C) && excTail exT bm) = true
  rw [hbm, Bool.and_true]
  exact beq_self_eq_true C
theorem taker {f : Str} (h : findIn K (.ref C) f = some none) : takerIn K C f = some none := by
  unfold takerIn
  rw [h] <;> rfl
end
/-- what is left of an error at x when a field was set -/
structure FEnd (h h' : Heap) (x C dx t0 : Addr) (m : Str → Option Value) : Prop where
  keep : ∀ b o, b ≠ x → h.get? b = some o → h'.get? b = some o
  obj : h'.get? x = some { cls := .ref C, dict := some dx, data := .fields #[.ref t0, .none, .none, .none, .bool false, .none] }
  dbig : h.objs.size ≤ dx
  dne : dx ≠ x
  ns : h'.Ns1 dx m
section
variable {prog : Program} {w : World} {A : Around} {E : Value → Shared → Prop} {s : Shared} {K : Frag} {C x t0 : Addr} {f : Str} {v : Value} {Q : Unit → Shared → Prop}
/-- the first field -/
theorem set_first (T : CT K C) (X : K.In s.heap) (hx : s.heap.get? x = some (excO C t0)) (hf : findIn K (.ref C) f = some none)
    (hq : ∀ h' tk dx, FEnd s.heap h' x C dx t0 (fun y => if y = f then some v else none) → Q () { s with heap := h', toks := tk }) :
    wpAny (model prog w) A (setAttr (.ref x) f v) Q E s := by
  obtain ⟨cd, hcd, hhd⟩ := T.cd
  obtain ⟨hp, g, d, tk, os⟩ := s
  have I : InstAt hp x (excO C t0) C none := ⟨hx, rfl, rfl, trivial⟩
  refine set_plain X I T.sa (osa_openX F.store_Exception X I T.over (taker hf) fun b => ?_)
  have hcls : Looks (model prog w) hp (classData C) cd := looks_clsIn X hcd
  have hxs : x ≠ hp.objs.size := Nat.ne_of_lt (Heap.lt_size hx)
  dsimp only
  unfold storeInOwnDict ownDictForStores
  repeat (first
    | with_reducible refine HandSPX.store_in_new ?mt ?gn
    | with_reducible refine wpAny_loadPart_at hx ?_
    | (with_reducible refine hcls.at ?_; rw [hhd])
    | wp_step
    | dsimp only)
  case mt =>
    refine ⟨_, #[], _, (Heap.get?_update_ne _ _ _ _ hxs.symm).trans (Heap.get?_push_at rfl rfl), rfl, ?_, fun _ => rfl⟩
    intro e he
    exact absurd he (by simp)
  case gn =>
    intro h' tk' hn' hs
    have hx1 := Heap.get?_push_of_some (h := hp) { cls := .type "dict", data := .dict #[] } hx
    refine hq h' tk' hp.objs.size ⟨fun b o hb ho => ?_, ?_, Nat.le_refl _, hxs.symm, hn'⟩
    · have e1 := hs.2 b (Nat.ne_of_lt (Heap.lt_size ho))
      rw [e1, Heap.get?_update_ne _ _ _ _ hb]
      exact Heap.get?_push_of_some _ ho
    · rw [hs.2 x hxs]
      exact Heap.get?_update_self _ hx1 rfl
/-- a further field -/
theorem set_more {dx : Addr} {m0 : Str → Option Value} {nl : List Str} {fv : Array Value} (T : CT K C) (X : K.In s.heap)
    (hx : s.heap.get? x = some { cls := .ref C, dict := some dx, data := .fields fv }) (hns : s.heap.Ns1 dx m0) (hw : Within m0 nl) (hz : nl.length ≤ 1000) (hf : findIn K (.ref C) f = some none)
    (hq : ∀ h' tk, (∀ b o, b ≠ dx → s.heap.get? b = some o → h'.get? b = some o) → h'.Ns1 dx (fun y => if y = f then some v else m0 y) → Q () { s with heap := h', toks := tk }) :
    wpAny (model prog w) A (setAttr (.ref x) f v) Q E s := by
  obtain ⟨cd, hcd, hhd⟩ := T.cd
  obtain ⟨hp, g, d, tk, os⟩ := s
  obtain ⟨oD, _, _, hoD, _, _⟩ := hns.count hw
  have I : InstAt hp x { cls := .ref C, dict := some dx, data := .fields fv } C (some oD) := ⟨hx, rfl, rfl, hoD⟩
  refine set_plain X I T.sa (osa_openX F.store_Exception X I T.over (taker hf) fun b => ?_)
  have hcls : Looks (model prog w) hp (classData C) cd := looks_clsIn X hcd
  dsimp only
  unfold storeInOwnDict ownDictForStores
  repeat (first
    | with_reducible refine OEX.store_in_old hns hw hz ?gn
    | with_reducible refine wpAny_loadPart_at hx ?_
    | (with_reducible refine hcls.at ?_; rw [hhd])
    | wp_step
    | dsimp only)
  case gn =>
    intro h' tk' hn' hs
    exact hq h' tk' (fun b o hb ho => by rw [hs.2 b hb]; exact ho) hn'
end
/-! ### the text of the defs -/
def rA (p1 p2 : Pos) : Arguments := { posonlyargs := [], args := [{ arg := "self", annotation := none, pos := p1 }, { arg := "number", annotation := none, pos := p2 }], vararg := none, kwonlyargs := [], kw_defaults := [], kwarg := none, defaults := [] }
def stB (f y : Str) (q1 q2 q3 q4 : Pos) : Stmt := .Assign [.Attribute (.Name "self" q1) f q2] (.Name y q3) q4
def rS : Scope := { kind := .function, names := [(PySem.Str.ofString "self", .local), (PySem.Str.ofString "number", .local)], isGenerator := false, isCoroutine := false, more := [] }
/-- Refused.__init__(self, -n) -/
def cS (n : Int) (k : Nat) (p1 p2 p3 p4 p5 p6 p7 : Pos) : Stmt := .Expr (.Call (.Attribute (.Name "Refused" p1) "__init__" p2) [.Name "self" p3, .UnaryOp .USub (.Constant (.int n) k p4) p5] [] p6) p7
def nA (p1 : Pos) : Arguments := { posonlyargs := [], args := [{ arg := "self", annotation := none, pos := p1 }], vararg := none, kwonlyargs := [], kw_defaults := [], kwarg := none, defaults := [] }
def nS : Scope := { kind := .function, names := [(PySem.Str.ofString "self", .local), (PySem.Str.ofString "Refused", .globalImplicit)], isGenerator := false, isCoroutine := false, more := [] }
def fA (p1 p2 : Pos) : Arguments := { posonlyargs := [], args := [{ arg := "self", annotation := none, pos := p1 }, { arg := "fault", annotation := none, pos := p2 }], vararg := none, kwonlyargs := [], kw_defaults := [], kwarg := none, defaults := [] }
def fS : Scope := { kind := .function, names := [(PySem.Str.ofString "self", .local), (PySem.Str.ofString "fault", .local), (PySem.Str.ofString "Refused", .globalImplicit)], isGenerator := false, isCoroutine := false, more := [] }
def wA (p1 p2 p3 : Pos) : Arguments := { posonlyargs := [], args := [{ arg := "self", annotation := none, pos := p1 }, { arg := "point", annotation := none, pos := p2 }, { arg := "where", annotation := none, pos := p3 }], vararg := none, kwonlyargs := [], kw_defaults := [], kwarg := none, defaults := [] }
def wS : Scope := { kind := .function, names := [(PySem.Str.ofString "self", .local), (PySem.Str.ofString "point", .local), (PySem.Str.ofString "where", .local), (PySem.Str.ofString "Refused", .globalImplicit)], isGenerator := false, isCoroutine := false, more := [] }

/-- what the written part says of a def of these -/
def FnIn (K : Frag) (f : Addr) (qual : Str) (a : Arguments) (b : List Stmt) (sc : Scope) : Prop :=
  ∃ (oc : Value) (od : Option Addr) (kV doc pm : Value) (an : Option Addr) (cdv ct : Value) (osl : Array (Option Value)),
    K.lookup f = some ⟨oc, od, .func (fnOf "__init__" qual a b sc .none kV doc pm an cdv ct), osl⟩ ∧ codeIn K cdv qual = true
/-- Refused, at CR, its __init__ at fR -/
structure RT (K : Frag) (mg : Str → Option Value) (CR fR : Addr) : Prop where
  gR : mg "Refused" = some (.ref CR)
  rd : readsIn K CR (.type "type") = true
  ga : specialIn K (.ref CR) "__getattribute__" = some (some (.builtin "type.__getattribute__"))
  ini : findCls K (.ref CR) (.type "type") "__init__" = some (.val (.ref fR))
  kp : keepIn K (.ref fR) = true
  fn : ∃ p1 p2 q1 q2 q3 q4, FnIn K fR "Refused.__init__" (rA p1 p2) [stB "number" "number" q1 q2 q3 q4] rS
section
variable {prog : Program} {w : World} {A : Around} {E : Value → Shared → Prop} {R : Result → Shared → Prop} {s : Shared} {K : Frag} {mg : Str → Option Value} {C CR fR fI : Addr}
theorem rd_local {M : Model} {name : Str} {scope : Scope} {L a : Addr} {cd : Value} {m : Str → Option Value} {x : Str} {pos : Pos} {v : Value} {Q : Value → Shared → Prop}
    (hn : s.heap.Ns L m) (hv : m x = some v) (h : Q v s) (hk : scope.kind = .function := by rfl) (hl : (envOfC name scope L a cd).kindOf x = some .local := by rfl) (hd : (x == ("__debug__" : Str)) = false := by decide) :
    wpAny M A (eval (.Name x pos) (envOfC name scope L a cd)) Q E s := wpAny_Name (wpAny_loadName_local hk hl hn hv h) hd
theorem out_of {h : Heap} {x : Addr} {o : Obj} (X : K.In h) (hx : K.lookup x = some o) : h.get? x = some o := X _ _ hx
/-- Refused.__init__ -/
theorem ref_init (T : CT K C) (TR : RT K mg CR fR) {x t0 : Addr} {v : Value} (X : K.In s.heap) (hlim : s.heap.NoLimit) (hx : s.heap.get? x = some (excO C t0)) (hroom : A.depth < recursionLimit)
    (hq : ∀ h' tk dx, FEnd s.heap h' x C dx t0 (fun y => if y = "number" then some v else none) → R (.ok (.ret .none)) { s with heap := h', toks := tk }) :
    codeAny (model prog w) A (.call (.ref fR) ⟨[.ref x, v], []⟩) R s := by
  obtain ⟨p1, p2, q1, q2, q3, q4, oc, od, kV, doc, pm, an, cdv, ct, osl, ho, hcd⟩ := TR.fn
  refine Att.call_fn (binds := [("self", .ref x), ("number", v)]) X hlim ho hcd hroom (BindsTo.of_eq (by first | rfl | with_unfolding_all rfl)) (by first | rfl | decide | with_unfolding_all rfl) (fun s1 IC => ?_) rfl rfl rfl
  obtain ⟨h1, tk1, rfl⟩ := IC.toInCall.same
  have k : ∀ b o, s.heap.get? b = some o → h1.get? b = some o := IC.toInCall.keep
  have hn := IC.toInCall.ns
  have X1 : K.In h1 := X.keeps k
  show wpAny _ _ (execs _ _) _ _ _
  refine wpAny_execs_cons (plainObj_wpAny_Assign_Attribute ?_)
  refine rd_local (v := v) hn (by first | rfl | with_unfolding_all rfl | kernel_rfl) (rd_local (v := .ref x) hn (by first | rfl | with_unfolding_all rfl | kernel_rfl) ?_)
  refine set_first T X1 (k _ _ hx) T.nN fun h3 tk3 dx e => ?_
  show wpAny _ _ (execs _ _) _ _ _
  have z : s.heap.objs.size < h1.objs.size := hn.lt
  refine wpAny_execs_nil (hq h3 tk3 dx ⟨fun b o hb q => e.keep b o hb (k b o q), e.obj, ?_, e.dne, e.ns⟩)
  exact Nat.le_of_lt (Nat.lt_of_lt_of_le z e.dbig)
theorem call_eq {env : Env} {n : Int} {nk : Nat} {p1 p2 p3 p4 p5 p6 : Pos} (h : (p2.endLine == p6.line) = true) :
    eval (.Call (.Attribute (.Name "Refused" p1) "__init__" p2) [.Name "self" p3, .UnaryOp .USub (.Constant (.int n) nk p4) p5] [] p6) env = (do
      let ov ← eval (.Name "Refused" p1) env
      standAt p2.atName
      let (f, first) ← holding [ov] (getMethod ov "__init__" (do return (← importBound (.Name "Refused" p1) env).getD true))
      callWith p6 f first (backTo p6 (starEach [.Name "self" p3, .UnaryOp .USub (.Constant (.int n) nk p4) p5] env)) (backToKw p6 (keywordEach [] env))) := by
  rw [arm_eval_Call]
  have e : ∀ b : Bool, methodCallPos b (.Name "Refused" p1) env p2 p6 = pure p6 := fun b => by
    unfold methodCallPos
    rw [h, Bool.or_true, if_pos rfl]
  unfold methodCall
  rw [e]
  rfl
/-- the statement that calls it -/
theorem call_ref (T : CT K C) (TR : RT K mg CR fR) {x t0 L a : Addr} {n : Int} {nk : Nat} {name : Str} {scope : Scope} {cd : Value} {m : Str → Option Value} {p1 p2 p3 p4 p5 p6 p7 : Pos} {Q : Flow → Shared → Prop}
    (X : K.In s.heap) (hlim : s.heap.NoLimit) (G : s.heap.Ns mainGlobals mg) (hx : s.heap.get? x = some (excO C t0)) (hroom : A.depth < recursionLimit) (hc : (p2.endLine == p6.line) = true) (hn : s.heap.Ns L m) (hm : m "self" = some (.ref x))
    (hq : ∀ h' tk tn dx, FEnd s.heap h' x C dx t0 (fun (y : Str) => if y = "number" then some (Value.int (-n) tn) else none) → Q .next { s with heap := h', toks := tk })
    (hk : scope.kind = .function := by rfl) (hl : (envOfC name scope L a cd).kindOf "self" = some .local := by rfl) (hg : (envOfC name scope L a cd).kindOf "Refused" = some .globalImplicit := by rfl)
    (hgl : (envOfC name scope L a cd).globals = mainGlobals := by rfl) (hi : interactive (envOfC name scope L a cd) = false := by rfl) :
    wpAny (model prog w) A (exec (cS n nk p1 p2 p3 p4 p5 p6 p7) (envOfC name scope L a cd)) Q E s := by
  unfold cS
  refine wpAny_Expr_any ?_ hi
  refine methodCall_KW (Name_function_global hk hg (loadGlobal_global (by rw [hgl]; exact G) TR.gR ?_)) (call_eq hc)
  refine method_cls X TR.ga (cls_value X TR.rd TR.ini (by first | rfl | decide) ?_)
  refine callWith_K X TR.kp ?_
  show wpAny _ _ (spliced [(false, _), (false, _)]) _ _ _
  refine Calls.spliced_cons (rd_local (v := .ref x) hn hm ?_ hk hl)
  refine Calls.spliced_cons (UnaryOp_ (wpAny_Constant_int (P.neg_int (Calls.spliced_nil ?_))))
  refine ⟨X, wpAny_call (ref_init (s := { s with toks := s.toks + 1 + 1 + 1 }) T TR X hlim hx hroom fun h' tk dx e => ?_)⟩
  exact hq h' tk _ dx e
end
theorem FEnd.more {h h3 h' : Heap} {x C dx t0 : Addr} {m m' : Str → Option Value} (e : FEnd h h3 x C dx t0 m) (k : ∀ b o, b ≠ dx → h3.get? b = some o → h'.get? b = some o) (n : h'.Ns1 dx m') : FEnd h h' x C dx t0 m' :=
  ⟨fun b o hb q => k b o (Nat.ne_of_lt (Nat.lt_of_lt_of_le (Heap.lt_size q) e.dbig)) (e.keep b o hb q), k _ _ (Ne.symm e.dne) e.obj, e.dbig, e.dne, n⟩
theorem FEnd.back {h h1 h' : Heap} {x C dx t0 : Addr} {m : Str → Option Value} (e : FEnd h1 h' x C dx t0 m) (k : ∀ b o, h.get? b = some o → h1.get? b = some o) (z : h.objs.size ≤ h1.objs.size) : FEnd h h' x C dx t0 m :=
  ⟨fun b o hb q => e.keep b o hb (k b o q), e.obj, Nat.le_trans z e.dbig, e.dne, e.ns⟩
theorem in_but {K : Frag} {h h' : Heap} {x : Addr} (X : K.In h) (hx : K.lookup x = none) (k : ∀ b o, b ≠ x → h.get? b = some o → h'.get? b = some o) : K.In h' := fun a o e =>
  k a o (fun z => by rw [z, hx] at e; cases e) (X a o e)
/-- how the __init__ of C, at fI, goes with these arguments: P tells the fields -/
def Ini (K : Frag) (mg : Str → Option Value) (C fI : Addr) (us : List Value) (P : (Str → Option Value) → Prop) : Prop :=
  ∀ (prog : Program) (w : World) (A : Around) (R : Result → Shared → Prop) (s : Shared) (x t0 : Addr), K.In s.heap → s.heap.NoLimit → s.heap.Ns mainGlobals mg →
    s.heap.get? x = some (excO C t0) → K.lookup x = none → A.depth + 1 < recursionLimit → (∀ h' tk dx m, FEnd s.heap h' x C dx t0 m → P m → R (.ok (.ret .none)) { s with heap := h', toks := tk }) →
    codeAny (model prog w) A (.call (.ref fI) ⟨.ref x :: us, []⟩) R s
section
variable {K : Frag} {mg : Str → Option Value} {C CR fR fI : Addr} {qual : Str} {n : Int}
/-- def __init__(self): Refused.__init__(self, -n) -/
theorem ini_n (T : CT K C) (TR : RT K mg CR fR) (hf : ∃ p0 nk p1 p2 p3 p4 p5 p6 p7, (p2.endLine == p6.line) = true ∧ FnIn K fI qual (nA p0) [cS n nk p1 p2 p3 p4 p5 p6 p7] nS) :
    Ini K mg C fI [] (fun m => ∃ tn, m = fun (y : Str) => if y = "number" then some (Value.int (-n) tn) else none) := by
  intro prog w A R s x t0 X hlim G hx hnx hroom hq
  obtain ⟨p0, nk, p1, p2, p3, p4, p5, p6, p7, hln, oc, od, kV, doc, pm, an, cdv, ct, osl, ho, hcd⟩ := hf
  refine Att.call_fn (binds := [("self", .ref x)]) X hlim ho hcd (Nat.lt_of_succ_lt hroom) (BindsTo.of_eq (by first | rfl | with_unfolding_all rfl)) (by first | rfl | decide | with_unfolding_all rfl) (fun s1 IC => ?_) rfl rfl rfl
  obtain ⟨h1, tk1, rfl⟩ := IC.toInCall.same
  have k : ∀ b o, s.heap.get? b = some o → h1.get? b = some o := IC.toInCall.keep
  have hn := IC.toInCall.ns
  have z : s.heap.objs.size < h1.objs.size := hn.lt
  show wpAny _ _ (execs _ _) _ _ _
  refine wpAny_execs_cons ?_
  refine call_ref (s := { s with heap := h1, toks := tk1 }) T TR (X.keeps k) (hlim.keeps k) (G.keeps k) (k _ _ hx) hroom hln hn (by first | rfl | with_unfolding_all rfl | kernel_rfl) fun h3 tk3 tn dx e => ?_
  show wpAny _ _ (execs _ _) _ _ _
  exact wpAny_execs_nil (hq h3 tk3 dx _ (e.back k (Nat.le_of_lt z)) ⟨tn, rfl⟩)
/-- def __init__(self, fault): Refused.__init__(self, -n); self.fault = fault -/
theorem ini_f (T : CT K C) (TR : RT K mg CR fR) (nF : findIn K (.ref C) "fault" = some none)
    (hf : ∃ p0 p0' nk p1 p2 p3 p4 p5 p6 p7 q1 q2 q3 q4, (p2.endLine == p6.line) = true ∧ FnIn K fI qual (fA p0 p0') [cS n nk p1 p2 p3 p4 p5 p6 p7, stB "fault" "fault" q1 q2 q3 q4] fS) {v : Value} :
    Ini K mg C fI [v] (fun m => ∃ tn, m = fun (y : Str) => if y = "fault" then some v else if y = "number" then some (Value.int (-n) tn) else none) := by
  intro prog w A R s x t0 X hlim G hx hnx hroom hq
  obtain ⟨p0, p0', nk, p1, p2, p3, p4, p5, p6, p7, q1, q2, q3, q4, hln, oc, od, kV, doc, pm, an, cdv, ct, osl, ho, hcd⟩ := hf
  refine Att.call_fn (binds := [("self", .ref x), ("fault", v)]) X hlim ho hcd (Nat.lt_of_succ_lt hroom) (BindsTo.of_eq (by first | rfl | with_unfolding_all rfl)) (by first | rfl | decide | with_unfolding_all rfl) (fun s1 IC => ?_) rfl rfl rfl
  obtain ⟨h1, tk1, rfl⟩ := IC.toInCall.same
  have k : ∀ b o, s.heap.get? b = some o → h1.get? b = some o := IC.toInCall.keep
  have hn := IC.toInCall.ns
  have X1 : K.In h1 := X.keeps k
  have z : s.heap.objs.size < h1.objs.size := hn.lt
  have hxL : x ≠ s.heap.objs.size := Nat.ne_of_lt (Heap.lt_size hx)
  show wpAny _ _ (execs _ _) _ _ _
  refine wpAny_execs_cons ?_
  refine call_ref (s := { s with heap := h1, toks := tk1 }) T TR X1 (hlim.keeps k) (G.keeps k) (k _ _ hx) hroom hln hn (by first | rfl | with_unfolding_all rfl | kernel_rfl) fun h3 tk3 tn dx e => ?_
  have hn3 := hn.at (h' := h3) fun q hq => e.keep _ q (Ne.symm hxL) hq
  have X3 : K.In h3 := in_but X1 hnx e.keep
  show wpAny _ _ (execs _ _) _ _ _
  refine wpAny_execs_cons (plainObj_wpAny_Assign_Attribute ?_)
  refine rd_local (s := { s with heap := h3, toks := tk3 }) (v := v) hn3 (by first | rfl | with_unfolding_all rfl | kernel_rfl) (rd_local (v := .ref x) hn3 (by first | rfl | with_unfolding_all rfl | kernel_rfl) ?_)
  refine set_more (s := { s with heap := h3, toks := tk3 }) T X3 e.obj e.ns (Within.cons "number" _ Within.nil) (by decide) nF fun h4 tk4 k4 n4 => ?_
  show wpAny _ _ (execs _ _) _ _ _
  exact wpAny_execs_nil (hq h4 tk4 dx _ ((e.more k4 n4).back k (Nat.le_of_lt z)) ⟨tn, rfl⟩)
/-- def __init__(self, point, where): Refused.__init__(self, -n); self.point = point; self.where = where -/
theorem ini_w (T : CT K C) (TR : RT K mg CR fR) (nP : findIn K (.ref C) "point" = some none) (nW : findIn K (.ref C) "where" = some none)
    (hf : ∃ p0 p0' p0'' nk p1 p2 p3 p4 p5 p6 p7 q1 q2 q3 q4 r1 r2 r3 r4, (p2.endLine == p6.line) = true ∧ FnIn K fI qual (wA p0 p0' p0'') [cS n nk p1 p2 p3 p4 p5 p6 p7, stB "point" "point" q1 q2 q3 q4, stB "where" "where" r1 r2 r3 r4] wS) {v u : Value} :
    Ini K mg C fI [v, u] (fun m => ∃ tn, m = fun (y : Str) => if y = "where" then some u else if y = "point" then some v else if y = "number" then some (Value.int (-n) tn) else none) := by
  intro prog w A R s x t0 X hlim G hx hnx hroom hq
  obtain ⟨p0, p0', p0'', nk, p1, p2, p3, p4, p5, p6, p7, q1, q2, q3, q4, r1, r2, r3, r4, hln, oc, od, kV, doc, pm, an, cdv, ct, osl, ho, hcd⟩ := hf
  refine Att.call_fn (binds := [("self", .ref x), ("point", v), ("where", u)]) X hlim ho hcd (Nat.lt_of_succ_lt hroom) (BindsTo.of_eq (by first | rfl | with_unfolding_all rfl)) (by first | rfl | decide | with_unfolding_all rfl) (fun s1 IC => ?_) rfl rfl rfl
  obtain ⟨h1, tk1, rfl⟩ := IC.toInCall.same
  have k : ∀ b o, s.heap.get? b = some o → h1.get? b = some o := IC.toInCall.keep
  have hn := IC.toInCall.ns
  have X1 : K.In h1 := X.keeps k
  have z : s.heap.objs.size < h1.objs.size := hn.lt
  have hxL : x ≠ s.heap.objs.size := Nat.ne_of_lt (Heap.lt_size hx)
  show wpAny _ _ (execs _ _) _ _ _
  refine wpAny_execs_cons ?_
  refine call_ref (s := { s with heap := h1, toks := tk1 }) T TR X1 (hlim.keeps k) (G.keeps k) (k _ _ hx) hroom hln hn (by first | rfl | with_unfolding_all rfl | kernel_rfl) fun h3 tk3 tn dx e => ?_
  have hn3 := hn.at (h' := h3) fun q hq => e.keep _ q (Ne.symm hxL) hq
  have X3 : K.In h3 := in_but X1 hnx e.keep
  have hnd : K.lookup dx = none := by
    cases q : K.lookup dx with
    | none => rfl
    | some o => exact absurd (Heap.lt_size (X1 _ _ q)) (Nat.not_lt.mpr e.dbig)
  show wpAny _ _ (execs _ _) _ _ _
  refine wpAny_execs_cons (plainObj_wpAny_Assign_Attribute ?_)
  refine rd_local (s := { s with heap := h3, toks := tk3 }) (v := v) hn3 (by first | rfl | with_unfolding_all rfl | kernel_rfl) (rd_local (v := .ref x) hn3 (by first | rfl | with_unfolding_all rfl | kernel_rfl) ?_)
  refine set_more (s := { s with heap := h3, toks := tk3 }) T X3 e.obj e.ns (Within.cons "number" _ Within.nil) (by decide) nP fun h4 tk4 k4 n4 => ?_
  have e4 := e.more k4 n4
  have hn4 := hn3.at (h' := h4) fun q hq => k4 _ q (Nat.ne_of_lt (Nat.lt_of_lt_of_le z e.dbig)) hq
  have X4 : K.In h4 := in_but X3 hnd k4
  show wpAny _ _ (execs _ _) _ _ _
  refine wpAny_execs_cons (plainObj_wpAny_Assign_Attribute ?_)
  refine rd_local (s := { s with heap := h4, toks := tk4 }) (v := u) hn4 (by first | rfl | with_unfolding_all rfl | kernel_rfl) (rd_local (v := .ref x) hn4 (by first | rfl | with_unfolding_all rfl | kernel_rfl) ?_)
  refine set_more (s := { s with heap := h4, toks := tk4 }) T X4 e4.obj n4 (Within.cons "point" _ (Within.cons "number" _ Within.nil)) (by decide) nW fun h5 tk5 k5 n5 => ?_
  show wpAny _ _ (execs _ _) _ _ _
  exact wpAny_execs_nil (hq h5 tk5 dx _ ((e4.more k5 n5).back k (Nat.le_of_lt z)) ⟨tn, rfl⟩)
end
/-- a made error -/
structure Made (h h' : Heap) (e C d : Addr) (m : Str → Option Value) : Prop where
  keep : ∀ b o, h.get? b = some o → h'.get? b = some o
  new : h.objs.size ≤ e
  obj : ∃ oe vs, h'.get? e = some oe ∧ oe.cls = .ref C ∧ oe.dict = some d ∧ oe.data = .fields vs ∧ vs[1]? = some .none
  dbig : h.objs.size ≤ d
  dne : d ≠ e
  ns : h'.Ns1 d m
theorem made {prog : Program} {w : World} {A : Around} {R : Result → Shared → Prop} {s : Shared} {K : Frag} {mg : Str → Option Value} {C fI : Addr} {us : List Value} {P : (Str → Option Value) → Prop}
    (T : CT K C) (iC : findIn K (.ref C) "__init__" = some (some (.ref fI))) (tI : typeIn K (.ref fI) = some (.type "function")) (J : Ini K mg C fI us P) (hz : us.length ≤ sizeLine)
    (X : K.In s.heap) (hlim : s.heap.NoLimit) (G : s.heap.Ns mainGlobals mg) (hroom : A.depth + 2 < recursionLimit)
    (hq : ∀ h' tk e d m, Made s.heap h' e C d m → P m → R (.ok (.ret (.ref e))) { s with heap := h', toks := tk }) : codeAny (model prog w) A (.call (.ref C) ⟨us, []⟩) R s := by
  obtain ⟨nm, q, N, bs, bm, sn, sub, ab, col, dd, k0, k1, k2, k3, k5, hC, hbm⟩ := T.cls
  obtain ⟨hp, g, dr, tk, os⟩ := s
  have k : ∀ b o, hp.get? b = some o → ((hp.push (kdv_tup us)).push (excO C hp.objs.size)).get? b = some o := fun b o e => Heap.get?_push_of_some _ (Heap.get?_push_of_some _ e)
  have hget : ((hp.push (kdv_tup us)).push (excO C hp.objs.size)).get? (hp.objs.size + 1) = some (excO C hp.objs.size) := by heap_get
  have hnx : K.lookup (hp.objs.size + 1) = none := by
    cases e : K.lookup (hp.objs.size + 1) with
    | none => rfl
    | some o => exact absurd (Nat.lt_of_succ_lt (Heap.lt_size (X _ _ e))) (Nat.lt_irrefl _)
  refine call_own F.excBase_Exception (fun Y => excTail_contains Y bm hbm) (X _ _ hC) (looks_findIn X iC) (fun self => bind_fn X self tI) hz ?_
  refine J prog w _ _ ⟨(hp.push (kdv_tup us)).push (excO C hp.objs.size), g, dr, tk, os⟩ (hp.objs.size + 1) hp.objs.size (X.keeps k) (hlim.keeps k) (G.keeps k) hget hnx ?_ fun h' tk' dx m e p => ?_
  · show A.depth + 1 + 1 < recursionLimit
    exact hroom
  · have z : hp.objs.size + 1 + 1 ≤ dx := by
      have z1 := e.dbig
      rw [Heap.size_push, Heap.size_push] at z1
      exact z1
    refine ⟨rfl, hq h' tk' (hp.objs.size + 1) dx m ⟨fun b o q => ?_, Nat.le_succ _, ⟨_, _, e.obj, rfl, rfl, rfl, rfl⟩, Nat.le_trans (Nat.le_trans (Nat.le_succ _) (Nat.le_succ _)) z, e.dne, e.ns⟩ p⟩
    exact e.keep b o (Nat.ne_of_lt (Nat.lt_succ_of_lt (Heap.lt_size q))) (k b o q)
end Jx
end PySem
set_option Elab.async false
set_option linter.all false
set_option maxRecDepth 100000
set_option maxHeartbeats 4000000
namespace PySem
namespace Jx
open PySem.W PySem.Calls PyProof.Rows PySem.HandSPX
theorem Ini.imp {K : Frag} {mg : Str → Option Value} {C fI : Addr} {us : List Value} {P P' : (Str → Option Value) → Prop} (J : Ini K mg C fI us P) (h : ∀ m, P m → P' m) : Ini K mg C fI us P' :=
  fun prog w A R s x t0 X hl G hx hn hr hq => J prog w A R s x t0 X hl G hx hn hr fun h' tk dx m e p => hq h' tk dx m e (h m p)
end Jx
end PySem
namespace L2
open PySem PySem.Spec PyProof.Rows PySem.Jx
/-- what the written part says of an error's class: k arguments, g the fields that they make -/
structure ErrT (K : PySem.W.Frag) (mg : Str → Option Value) (C fI : Addr) (k : Nat) (g : List V → List (Str × V)) : Prop where
  ct : CT K C
  iC : PySem.W.findIn K (.ref C) "__init__" = some (some (.ref fI))
  tI : PySem.W.typeIn K (.ref fI) = some (.type "function")
  te : PySem.W.exmOne K (.ref C) (.ref C) = some true
  run : ∀ vs us, Vals vs us → vs.length = k → Ini K mg C fI us (fun m => ∀ f, RelO ((g vs).lookup f) (m f))
def tMkE (C : Addr) (k : Nat) (g : List V → List (Str × V)) (ta : TA) : St → Hp → XK → Prop := fun σ H Q => ta σ H fun vs H1 => vs.length = k ∧ k ≤ 10 ∧ ∀ d, H1 d = none → Q (.ref C) (some d) (upd H1 d (.xd (g vs)))
section
variable {X : Cx} {C fI : Addr} {k : Nat} {g : List V → List (Str × V)}
/-- the class is called: a new error, its dict tracked -/
theorem mk_err {pins : List (Addr × Obj)} {σ : St} {H1 : Hp} {s1 : Shared} {Q : XK} {vs : List V} {us : List Value} (T : ErrT X.K X.mg C fI k g) (hd : X.A.depth + 5 < recursionLimit) (I1 : Inv X pins σ H1 s1)
    (r1 : Vals vs us) (hl : vs.length = k) (hk : k ≤ 10) (q1 : ∀ d, H1 d = none → Q (.ref C) (some d) (upd H1 d (.xd (g vs)))) :
    wpAny (model X.prog X.w) X.A (call (.ref C) us) (MkP X pins σ Q) X.xe s1 := by
  have hlim := I1.nolimit
  have G := I1.mod.glob.keeps I1.bk
  have hz : us.length ≤ sizeLine := by
    rw [← Paired.length r1, hl, sizeLine_eq]
    omega
  obtain ⟨hp, gs, dr, tk, os⟩ := s1
  refine wpAny_call (made T.ct T.iC T.tI (T.run vs us r1 hl) hz I1.kIn hlim G (by omega) fun h' tk' e d m M rel => ?_)
  show MkP X pins σ Q (.ref e) ⟨h', gs, dr, tk', os⟩
  obtain ⟨oe, fv, hoe, hc, hd, hdat, h1⟩ := M.obj
  have hns := M.ns
  obtain ⟨G', g1, g2⟩ := restrict h' fun b => decide (b ≠ e)
  have gk : ∀ b, b ≠ e → G'.get? b = h'.get? b := fun b hb => g1 b (decide_eq_true hb)
  have ge : G'.get? e = none := g2 e (by simp)
  have old : ∀ b o, hp.get? b = some o → G'.get? b = some o := fun b o q => (gk b (Nat.ne_of_lt (Nat.lt_of_lt_of_le (Heap.lt_size q) M.new))).trans (M.keep b o q)
  have ob : ObjOk X.prog X.w (upd H1 d (.xd (g vs))) G' d (.xd (g vs)) := ⟨m, hns.at (fun o q => (gk d M.dne).trans q), rel⟩
  have J := I1.laid (t' := tk') old M.dbig ob
  refine ⟨e, oe, fv, ⟨G', gs, dr, tk', os⟩, _, .ref C, some d, rfl, J, fun b o q => ?_, ge, hoe, ⟨hc, hd⟩, hdat, h1, ?_, rfl, I1.bare, raises_own T.ct.exC T.ct.tyC, q1 d (I1.hok.fresh M.dbig)⟩
  · by_cases hb : b = e
    · have q' : G'.get? b = some o := q
      rw [hb, ge] at q'; cases q'
    · exact (gk b hb).symm.trans q
  · rw [upd_ne (Ne.symm M.dne)]
    exact I1.hok.fresh M.new
theorem pmk_err {a : Expr} {as : List Expr} {ta : TA} {x : Str} {p pos : Pos} {j : Nat} (T : ErrT X.K X.mg C fI k g) (hm : X.mg x = some (.ref C)) (hr : Room j X.A) (ha : PA X (a :: as) ta) (hg : Gl X x := by rfl) (hdb : (x == ("__debug__" : Str)) = false := by decide)
    (he : starEach (a :: as) X.env = (false, eval a X.env) :: starEach as X.env := by rfl) (hpl : (backTo pos (starEach as X.env)).any (·.1) = false := by rfl) :
    PMk X (.Call (.Name x p) (a :: as) [] pos) (tMkE C k g ta) := by
  intro pins s σ H Q I h
  refine wpAny_Call_Name_kw (ld_glob I hg hm ?_ hdb)
  refine PySem.W.callWith_K (h₀ := X.base) I.ok.mod.kin T.ct.kC (thn (ha.run pos pins s σ H _ I h) fun us s1 ⟨vs, H1, I1, r1, hl, hk, q1⟩ => ?_) he hpl
  exact ⟨I1.kIn, mk_err T (by have := hr.dp; omega) I1 r1 hl hk q1⟩
theorem pmk_err0 {x : Str} {p pos : Pos} {j : Nat} (T : ErrT X.K X.mg C fI 0 g) (hm : X.mg x = some (.ref C)) (hr : Room j X.A) (hg : Gl X x := by rfl) (hdb : (x == ("__debug__" : Str)) = false := by decide) :
    PMk X (.Call (.Name x p) [] [] pos) (tMkE C 0 g tNil) := by
  intro pins s σ H Q I h
  obtain ⟨hl, hk, q1⟩ := h
  refine wpAny_Call_Name_kw (ld_glob I hg hm ?_ hdb)
  exact PySem.W.callWith_K0 I.kIn T.ct.kC (mk_err (us := []) T (by have := hr.dp; omega) I .nil rfl (by omega) q1)
/-- raise C(e, ..) -/
theorem ps_raise_err {W : WX} {e : Expr} {t : St → Hp → XK → Prop} {pos2 : Pos} (hc : X.calm = true) (tk : Takes X W) (h : PMk X e t) :
    PS X (.Raise (some e) none pos2) (fun _ σ H => t σ H fun cls d H' => W cls d σ H') := ps_raise hc tk h
/-- e.f, e the error that the suite holds (at a; its class cls, its dict d) -/
def tErrF (K : PySem.W.Frag) (f : Str) (a : Addr) (cls : Value) (d : Option Addr) (te : TE) : TE := fun σ H Q => te σ H fun x H1 => x = .ref a ∧ ∃ (C dd : Addr) (fs : List (Str × V)) (v : V), cls = .ref C ∧ CT K C ∧ PySem.W.findIn K (.ref C) f = some none ∧
  d = some dd ∧ H1 dd = some (.xd fs) ∧ fs.lookup f = some v ∧ Q v H1
theorem pe_errF {f : Str} {a : Addr} {oe : Obj} {cls : Value} {d : Option Addr} {pn : List (Addr × Obj)} {e : Expr} {te : TE} {pos : Pos} (hz : Zc cls d oe) (hf : ∃ vs, oe.data = .fields vs) (he : PE (X.suite a ((a, oe) :: pn)) e te)
    (hb : attributeBase e f X.env (eval e X.env) = eval e X.env := by rfl) : PE (X.suite a ((a, oe) :: pn)) (.Attribute e f pos) (tErrF X.K f a cls d te) := by
  refine ⟨fun pins s σ H Q I h => ?_⟩
  refine attr_of hb (thn (he.run pins s σ H _ I h) fun u s1 hh => ?_)
  obtain ⟨x, H1, I1, rx, ex, C, dd, fs, v, ec, T, nf, ed, ea, l, q⟩ := hh
  subst ex
  obtain rfl : u = Value.ref a := rx
  subst ec
  subst ed
  obtain ⟨ha, _⟩ := I1.pin (a, oe) (List.mem_append_left _ List.mem_cons_self)
  obtain ⟨vs, hd⟩ := hf
  have hx : ObjOk X.prog X.w H1 s1.heap dd (.xd fs) := I1.hok dd _ ea
  obtain ⟨mA, hns, hr⟩ := hx
  obtain ⟨od, ho, hl⟩ := lookIn_ns hns
  obtain ⟨u, hu, ru⟩ := RelO.some_of (v := v) (o := mA f) (by rw [← l]; exact hr f)
  have J : PySem.W.InstAt s1.heap a oe C (some od) := ⟨ha, hz.1, by unfold PySem.W.notCls; rw [hd] <;> rfl, by rw [hz.2]; exact ho⟩
  exact HandSPX.exc_get I1.kIn J T.ga T.gg T.exC (PySem.W.findObj_own T.hdC nf rfl (by rw [hl, hu])) (handed_of ru) ⟨v, H1, I1.tok _, ru, q⟩
end
/-! ### the classes of this program -/
theorem err_n {K : PySem.W.Frag} {mg : Str → Option Value} {C CR fR fI : Addr} {qual : Str} {n : Int} (T : CT K C) (TR : RT K mg CR fR) (iC : PySem.W.findIn K (.ref C) "__init__" = some (some (.ref fI))) (tI : PySem.W.typeIn K (.ref fI) = some (.type "function")) (te : PySem.W.exmOne K (.ref C) (.ref C) = some true)
    (hf : ∃ p0 nk p1 p2 p3 p4 p5 p6 p7, (p2.endLine == p6.line) = true ∧ FnIn K fI qual (nA p0) [cS n nk p1 p2 p3 p4 p5 p6 p7] nS) : ErrT K mg C fI 0 (fun _ => [("number", .int (-n))]) :=
  ⟨T, iC, tI, te, fun vs us r hl => by
    cases r with
    | cons _ _ => cases hl
    | nil =>
      refine (ini_n T TR hf).imp fun m ⟨tn, e⟩ f => ?_
      subst e
      exact relO_put (y := .int (-n)) (u := .int (-n) tn) (fs := []) (mA := fun _ => none) ⟨tn, rfl⟩ (fun _ => True.intro) f⟩
theorem err_f {K : PySem.W.Frag} {mg : Str → Option Value} {C CR fR fI : Addr} {qual : Str} {n : Int} (T : CT K C) (TR : RT K mg CR fR) (nF : PySem.W.findIn K (.ref C) "fault" = some none) (iC : PySem.W.findIn K (.ref C) "__init__" = some (some (.ref fI))) (tI : PySem.W.typeIn K (.ref fI) = some (.type "function")) (te : PySem.W.exmOne K (.ref C) (.ref C) = some true)
    (hf : ∃ p0 p0' nk p1 p2 p3 p4 p5 p6 p7 q1 q2 q3 q4, (p2.endLine == p6.line) = true ∧ FnIn K fI qual (fA p0 p0') [cS n nk p1 p2 p3 p4 p5 p6 p7, stB "fault" "fault" q1 q2 q3 q4] fS) :
    ErrT K mg C fI 1 (fun vs => [("fault", vs.getD 0 .non), ("number", .int (-n))]) :=
  ⟨T, iC, tI, te, fun vs us r hl => by
    cases r with
    | nil => cases hl
    | cons r1 r =>
      cases r with
      | cons _ _ => cases hl
      | nil =>
        refine (ini_f T TR nF hf).imp fun m ⟨tn, e⟩ f => ?_
        subst e
        exact relO_put (fs := [("number", V.int (-n))]) (mA := fun (y : Str) => if y = "number" then some (Value.int (-n) tn) else none) r1 (relO_put (y := .int (-n)) (u := .int (-n) tn) (fs := []) (mA := fun _ => none) ⟨tn, rfl⟩ (fun _ => True.intro)) f⟩
theorem err_w {K : PySem.W.Frag} {mg : Str → Option Value} {C CR fR fI : Addr} {qual : Str} {n : Int} (T : CT K C) (TR : RT K mg CR fR) (nP : PySem.W.findIn K (.ref C) "point" = some none) (nW : PySem.W.findIn K (.ref C) "where" = some none) (iC : PySem.W.findIn K (.ref C) "__init__" = some (some (.ref fI))) (tI : PySem.W.typeIn K (.ref fI) = some (.type "function")) (te : PySem.W.exmOne K (.ref C) (.ref C) = some true)
    (hf : ∃ p0 p0' p0'' nk p1 p2 p3 p4 p5 p6 p7 q1 q2 q3 q4 r1 r2 r3 r4, (p2.endLine == p6.line) = true ∧ FnIn K fI qual (wA p0 p0' p0'') [cS n nk p1 p2 p3 p4 p5 p6 p7, stB "point" "point" q1 q2 q3 q4, stB "where" "where" r1 r2 r3 r4] wS) :
    ErrT K mg C fI 2 (fun vs => [("where", vs.getD 1 .non), ("point", vs.getD 0 .non), ("number", .int (-n))]) :=
  ⟨T, iC, tI, te, fun vs us r hl => by
    cases r with
    | nil => cases hl
    | cons r1 r =>
      cases r with
      | nil => cases hl
      | cons r2 r =>
        cases r with
        | cons _ _ => cases hl
        | nil =>
          refine (ini_w T TR nP nW hf).imp fun m ⟨tn, e⟩ f => ?_
          subst e
          refine relO_put (fs := [("point", _), ("number", V.int (-n))]) (mA := fun (y : Str) => if y = "point" then some _ else if y = "number" then some (Value.int (-n) tn) else none) r2 ?_ f
          exact relO_put (fs := [("number", V.int (-n))]) (mA := fun (y : Str) => if y = "number" then some (Value.int (-n) tn) else none) r1 (relO_put (y := .int (-n)) (u := .int (-n) tn) (fs := []) (mA := fun _ => none) ⟨tn, rfl⟩ (fun _ => True.intro))⟩
end L2
set_option Elab.async false
set_option linter.all false
set_option maxRecDepth 100000
set_option maxHeartbeats 4000000
namespace L2
open PySem PySem.Spec PyProof.Rows PySem.Jx
/-! ### try: body, except c1 as n: .., except c2 as n: .. (slot i is n's) -/
abbrev Suite := Addr → Value → Option Addr → TS
abbrev unset (i : Nat) (D : Ends) : Ends := { nx := fun σ' H' => D.nx (σ'.set i none) H', rt := D.rt, bk := fun σ' H' => D.bk (σ'.set i none) H', ct := fun σ' H' => D.ct (σ'.set i none) H' }
def wEach (K : PySem.W.Frag) (i : Nat) (Wout : WX) (D : Ends) : List (Value × Suite) → WX
  | [] => Wout
  | (c, ts) :: r => fun cls d σ H => ∃ b, PySem.W.exmOne K cls c = some b ∧ (b = true → ∀ a, H a = none → ts a cls d (unset i D) (σ.set i (some (.ref a))) H) ∧ (b = false → wEach K i Wout D r cls d σ H)
inductive HdsAs (X : Cx) (n : Str) : List ExceptHandler → List (Value × Suite) → Prop
  | nil : HdsAs X n [] []
  | cons {x : Str} {c : Value} {ts : Suite} {b0 : Stmt} {su : List Stmt} {np pq : Pos} {hs : List ExceptHandler} {l : List (Value × Suite)} (hc : Names X x c)
      (hsu : ∀ (a : Addr) (oe : Obj) (cls : Value) (d : Option Addr) (pn : List (Addr × Obj)), Zc cls d oe → (∃ vs, oe.data = .fields vs) → PSs (X.suite a ((a, oe) :: pn)) (b0 :: su) (ts a cls d)) (r : HdsAs X n hs l) :
      HdsAs X n (.ExceptHandler (some (.Name x np)) (some n) (b0 :: su) pq :: hs) ((c, ts) :: l)
section
variable {X : Cx} {n : Str} {i : Nat} {body : List Stmt} {e0 : ExceptHandler} {es : List ExceptHandler} {l : List (Value × Suite)} {pos : Pos} {tb : WX → TS} {Wout : WX}
/-- the clauses, asked one after the other, of an error that is back on the ground -/
theorem clauses (hst : X.stack = X.env :: X.outer) (hfm : X.env.frame = some X.env.locals) (hN : X.N.Nodup) (hi : X.N[i]? = some n) (hln : X.env.kindOf n = some .local) (tk : Takes X Wout)
    {pins : List (Addr × Obj)} {σ : St} {H : Hp} {sI s3 : Shared} {a : Addr} {B : Heap} {cls : Value} {d : Option Addr} {D : Ends} (J : Inv X pins σ H sI)
    (nb : ∀ b o, sI.heap.get? b = some o → b ∉ frs X.stack → B.get? b = some o) (up : sI.heap.UpToSlots s3.heap) (fl : HandSPX.FlyingZ B (X.env :: X.outer) a (Zc cls d) s3.heap) (na : H a = none) (os : s3.os = sI.os) (ag : AllBare s3.gens) :
    ∀ {hs : List ExceptHandler} {l : List (Value × Suite)}, HdsAs X n hs l → wEach X.K i Wout D l cls d σ H → wpAny (model X.prog X.w) X.A (handleBy (.ref a) X.env hs) (SP X pins D) X.xe s3 := by
  have kOk := J.ok
  have J3 : Inv X pins σ H s3 := J.landed nb fl.1 up os ag
  obtain ⟨oe3, vs3, he3, hz3, hd3⟩ := fl.there
  have away : a ∉ frs (X.env :: X.outer) := fun hm => by
    obtain ⟨_, o2, e2, hnf⟩ := fl.2.2.1.mem hm
    rw [he3] at e2
    cases e2
    exact hnf _ hd3
  have nL : a ≠ X.env.locals := fun z => away (List.mem_filterMap.mpr ⟨X.env, List.mem_cons_self .., by rw [hfm, z]⟩)
  have nF : a ∉ X.fs := fun hm => by
    obtain ⟨e1, m1, q1⟩ := List.mem_filterMap.mp hm
    exact away (List.mem_filterMap.mpr ⟨e1, List.mem_cons_of_mem _ m1, q1⟩)
  have S3 := J3.suite he3 hd3 na nL nF
  intro hs l hk
  induction hk with
  | nil =>
    intro wo
    refine wpAny_handleBy_nil ?_
    obtain ⟨_, _, _, oe, vs, T, oT, ts2, he, hz, hd, h1, hr⟩ := id fl
    unfold PySem.passOn
    refine wpAny_bind (wpAny_field he hd h1 ?_)
    rw [if_neg (show ¬ ((Value.ref T == Value.none) = true) by simp)]
    have last : wpAny (model X.prog X.w) X.A (setFlight (.ref a) X.env.frame) (fun _ s4 => wpAny (model X.prog X.w) X.A (throw (.ref a) : Sem Flow) (SP X pins D) X.xe s4) X.xe s3 := by
      rw [hfm]
      refine HandSPX.setFlight_upZ fl fun h4 hh4 up4 => wpAny_throw (tk _ _ ?_)
      refine ⟨a, B, sI, pins, σ, H, cls, d, rfl, J, nb, up.trans up4, ?_, na, os, ag, wo⟩
      rw [hst]
      exact .inr (.inr hh4)
    first
      | exact wpAny_bind (wpAny_pure (wpAny_bind last))
      | exact wpAny_bind last
  | @cons x c ts b0 su np pq hs2 l2 hc hsu r ih =>
    intro wo
    obtain ⟨b, hb1, yes, nope⟩ := wo
    have LT : PySem.W.Looks (model X.prog X.w) s3.heap (typeOf (.ref a)) cls := fun A1 Q1 E1 s1 k q => wpAny_typeOf_ref (k _ _ he3) (by rw [hz3.1]; exact q)
    have LM := PySem.W.exm_one (M := model X.prog X.w) J3.kIn LT hb1
    refine wpAny_handleBy_cons (codeAny_handlers_test ?_) (by intro z; cases z)
    have named : ∀ {Q : Value → Shared → Prop} {E : Value → Shared → Prop}, Q c s3 → wpAny (model X.prog X.w) (X.A.mark (some (.ref a))) (eval (.Name x np) X.env) Q E s3 := fun {Q E} q => by
      obtain ⟨hg, hdb, hm | ⟨hm, hv, hnn⟩⟩ := hc
      · exact ld_glob (X := X.suite a ((a, oe3) :: (X.pn ++ pins))) S3 hg hm q hdb
      · exact ld_blt (X := X.suite a ((a, oe3) :: (X.pn ++ pins))) S3 hg hm hv q hnn hdb
    refine named (LM.here ?_)
    cases b with
    | false =>
      show wpAny _ X.A (handleBy (.ref a) X.env hs2) _ _ _
      exact ih (nope rfl)
    | true =>
      refine codeAny_handlers_suite_as ?_
      refine HandSPX.lands_againZ fl fun h4 fl4 up4 => ?_
      have J4 : Inv X pins σ H { s3 with heap := h4 } := J.landed nb fl4.1 (up.trans up4) os ag
      obtain ⟨oe4, vs4, he4, hz4, hd4⟩ := fl4.there
      have S4 := J4.suite he4 hd4 na nL nF
      refine store_ok (X := X.suite a ((a, oe4) :: (X.pn ++ pins))) (v := .ref a) S4 hN hi (.inl hln) rfl (fun s5 S5 => ?_) (.inr hln)
      refine wpAny_mono ((hsu a oe4 cls d (X.pn ++ pins) hz4 ⟨_, hd4⟩).run [] s5 _ H _ S5 (yes rfl a na)) (fun f s6 sp => ?_) (fun _ _ z => False.elim z)
      have off : ∀ {σ6 : St} {H6 : Hp} {Q : Shared → Prop}, Inv (X.suite a ((a, oe4) :: (X.pn ++ pins))) [] σ6 H6 s6 → (∀ s7, Inv X pins (σ6.set i none) H6 s7 → Q s7) →
          wpAny (model X.prog X.w) X.A (do bindName X.env n .none; unbindBehindTheSuite X.env n pq) (fun _ s7 => Q s7) X.xe s6 := fun S6 hq => gone_ok (S6.unsuite kOk) hN hi hln hq
      cases f with
      | ret u =>
        obtain ⟨v6, σ6, H6, S6, r6, q6⟩ := sp
        exact off S6 fun s7 J7 => ⟨_, _, _, J7, r6, q6⟩
      | next =>
        obtain ⟨σ6, H6, S6, q6⟩ := sp
        exact off S6 fun s7 J7 => ⟨_, _, J7, q6⟩
      | brk =>
        obtain ⟨σ6, H6, S6, q6⟩ := sp
        exact off S6 fun s7 J7 => ⟨_, _, J7, q6⟩
      | cont =>
        obtain ⟨σ6, H6, S6, q6⟩ := sp
        exact off S6 fun s7 J7 => ⟨_, _, J7, q6⟩
theorem ps_try_each (hst : X.stack = X.env :: X.outer) (hfm : X.env.frame = some X.env.locals) (hN : X.N.Nodup) (hi : X.N[i]? = some n) (hln : X.env.kindOf n = some .local) (tk : Takes X Wout)
    (hb : ∀ (W : WX) (pn : List (Addr × Obj)) (xe : Value → Shared → Prop), Takes (X.tr pn xe) W → PassesOwn (model X.prog X.w) X.A X.env xe → PSs (X.tr pn xe) body (tb W))
    (hh : HdsAs X n (e0 :: es) l) : PS X (.Try body (e0 :: es) [] [] pos) (fun D σ H => tb (wEach X.K i Wout D l) D σ H) := by
  refine ⟨fun pins0 s0 σ0 H0 D0 I0 w0 => ?_⟩
  have kOk := I0.ok
  have hF : X.A.frames = some (X.env :: X.outer) := by rw [kOk.frames, hst]
  refine wpAny_Try_except ?_
  refine wpAny_mono ((hb (wEach X.K i Wout D0 l) (X.pn ++ pins0) (fun e s1 => wpAny (model X.prog X.w) X.A (noteFrame e X.env) (fun _ s2 => wpAny (model X.prog X.w) X.A (setFlight e none) (fun _ s3 =>
    wpAny (model X.prog X.w) X.A (handleBy e X.env (e0 :: es)) (SP X pins0 D0) X.xe s3) X.xe s2) X.xe s1) (fun u s' xx => ?_) PassesOwn.looking).run [] s0 σ0 H0 D0 (I0.toTry _) w0) (fun f s1 sp => ?_) (fun _ _ z => z)
  · obtain ⟨a, B, sI, pinsA, σA, HA, cls, d, rfl, JA, nb, up, sky, na, os, ag, wo⟩ := xx
    have skyA : Sky B (X.env :: X.outer) a (Zc cls d) X.env.locals s'.heap := by rw [← hst]; exact sky
    show wpAny (model X.prog X.w) X.A (noteFrame (.ref a) X.env) _ _ _
    refine Sky.land Zc.steady hF hfm skyA fun h3 fl3 up3 => ?_
    exact clauses (s3 := { s' with heap := h3 }) hst hfm hN hi hln tk (JA.ofTry kOk) nb (up.trans up3) fl3 na os ag hh wo
  · cases f with
    | ret u =>
      obtain ⟨v, σ', H', J', r, q⟩ := sp
      exact ⟨v, σ', H', J'.ofTry kOk, r, q⟩
    | next =>
      obtain ⟨σ', H', J', q⟩ := sp
      exact wpAny_execs_nil ⟨σ', H', J'.ofTry kOk, q⟩
    | brk =>
      obtain ⟨σ', H', J', q⟩ := sp
      exact ⟨σ', H', J'.ofTry kOk, q⟩
    | cont =>
      obtain ⟨σ', H', J', q⟩ := sp
      exact ⟨σ', H', J'.ofTry kOk, q⟩
end
end L2
set_option linter.all false
namespace RdM
open BrPart BrRead
abbrev at_ (B : Bytes) (p : Nat) : Nat × Bytes := (p, B.drop p)
section
variable {α β γ : Type} {m : Rd α} {k : α → Rd β} {s s' : Nat × Bytes} {x : α} {f : Nat}
theorem bind_ok (h : m s = .ok (x, s')) : (m >>= k) s = k x s' := by
  show Except.bind (m s) (fun a => k a.1 a.2) = _
  rw [h]
  rfl
theorem bind_er (h : m s = .error f) : (m >>= k) s = .error f := by
  show Except.bind (m s) (fun a => k a.1 a.2) = _
  rw [h]
  rfl
theorem pure_at : (pure x : Rd α) s = .ok (x, s) := rfl
end
variable {B : Bytes} {p : Nat}
theorem peek_at : peek (at_ B p) = .ok (B[p]?, at_ B p) := by
  show Except.ok ((B.drop p).head?, at_ B p) = _
  rw [List.head?_drop]
theorem skip_at : skip (at_ B p) = .ok ((), at_ B (p + 1)) := by
  show Except.ok ((), (p + 1, (B.drop p).drop 1)) = _
  rw [List.drop_drop]
theorem stray_at {α : Type} : (stray : Rd α) (at_ B p) = .error p := rfl
theorem byte_yes {c : UInt8} (h : B[p]? = some c) : byte_ c (at_ B p) = .ok ((), at_ B (p + 1)) := by
  unfold byte_
  rw [bind_ok peek_at, if_pos h]
  exact skip_at
theorem byte_no {c : UInt8} (h : ¬ B[p]? = some c) : byte_ c (at_ B p) = .error p := by
  unfold byte_
  rw [bind_ok peek_at, if_neg h]
  rfl
theorem bytes_cons {c : UInt8} {r : Bytes} : bytes_ (c :: r) = (byte_ c >>= fun _ => bytes_ r) := rfl
theorem bytes_one {c : UInt8} : bytes_ [c] = byte_ c := by
  show (byte_ c >>= fun _ => pure ()) = byte_ c
  simp
/-! ### what Python sees -/
def nb (B : Bytes) (p : Nat) : Int := match B[p]? with
  | some c => (c.toNat : Int)
  | none => 256
theorem nb_some {c : UInt8} (h : B[p]? = some c) : nb B p = (c.toNat : Int) := by
  unfold nb
  rw [h]
theorem nb_none (h : B[p]? = none) : nb B p = 256 := by
  unfold nb
  rw [h]
theorem nb_end : nb B B.length = 256 := nb_none (by simp)
theorem nb_cases : (∃ c, B[p]? = some c ∧ nb B p = (c.toNat : Int) ∧ p < B.length) ∨ (B[p]? = none ∧ nb B p = 256) := by
  cases h : B[p]? with
  | none => exact .inr ⟨rfl, nb_none h⟩
  | some c => exact .inl ⟨c, rfl, nb_some h, (List.getElem?_eq_some_iff.mp h).1⟩
theorem u8_lt (c : UInt8) : c.toNat < 256 := c.toNat_lt
/-- the next byte is this one -/
theorem nb_is {c : UInt8} : nb B p = (c.toNat : Int) ↔ B[p]? = some c := by
  constructor
  · intro h
    rcases nb_cases (B := B) (p := p) with ⟨d, hd, e, _⟩ | ⟨hd, e⟩
    · rw [e] at h
      have h2 : d.toNat = c.toNat := by omega
      rw [hd, UInt8.toNat_inj.mp h2]
    · rw [e] at h
      have := u8_lt c
      omega
  · exact nb_some
/-! ### names -/
def letter (b : Int) : Bool := decide (97 ≤ b) && decide (b ≤ 122)
def digit (b : Int) : Bool := decide (48 ≤ b) && decide (b ≤ 57)
def fitsN (b i : Int) : Bool := letter b || (decide (i > 0) && digit b)
theorem letter_low (c : UInt8) : letter (c.toNat : Int) = isLow c := by
  unfold letter isLow
  congr 1 <;> exact decide_eq_decide.mpr (by omega)
theorem digit_is (c : UInt8) : digit (c.toNat : Int) = isDigit c := by
  unfold digit isDigit
  congr 1 <;> exact decide_eq_decide.mpr (by omega)
theorem letter_end : letter 256 = false := rfl
theorem digit_end : digit 256 = false := rfl
theorem fits_end (i : Int) : fitsN 256 i = false := by
  unfold fitsN
  rw [letter_end, digit_end, Bool.and_false]
  rfl
abbrev lowDig (c : UInt8) : Bool := isLow c || isDigit c
theorem while_yes {f : UInt8 → Bool} {n : Nat} {c : UInt8} (h : B[p]? = some c) (hf : f c = true) : while_ f (n + 1) (at_ B p) = ((while_ f n >>= fun r => pure (c :: r)) : Rd Bytes) (at_ B (p + 1)) := by
  rw [while_, bind_ok peek_at, h]
  show (if f c = true then (_ : Rd Bytes) else (_ : Rd Bytes)) _ = _
  rw [if_pos hf, bind_ok skip_at]
theorem while_no {f : UInt8 → Bool} {n : Nat} (h : ∀ c, B[p]? = some c → f c = false) : while_ f n (at_ B p) = .ok ([], at_ B p) := by
  cases n with
  | zero => rfl
  | succ n =>
    rw [while_, bind_ok peek_at]
    cases e : B[p]? with
    | none => rfl
    | some c =>
      show (if f c = true then (_ : Rd Bytes) else (_ : Rd Bytes)) _ = _
      rw [if_neg (by rw [h c e]; exact Bool.false_ne_true)]
      rfl
/-- the bytes from p up to q -/
def cut (B : Bytes) (p q : Nat) : Bytes := (B.drop p).take (q - p)
theorem cut_nil : cut B p p = [] := by
  unfold cut
  rw [Nat.sub_self, List.take_zero]
theorem cut_more {q : Nat} {c : UInt8} (hpq : p ≤ q) (h : B[q]? = some c) : cut B p (q + 1) = cut B p q ++ [c] := by
  unfold cut
  have e : q + 1 - p = (q - p) + 1 := by omega
  have h2 : (B.drop p)[q - p]? = some c := by
    rw [List.getElem?_drop]
    have : p + (q - p) = q := by omega
    rw [this, h]
  rw [e, List.take_add_one, h2]
  rfl
structure NameAt (B : Bytes) (p q : Nat) : Prop where
  lo : p ≤ q
  hi : q ≤ p + 8
  len : q ≤ B.length
  told : p < q → name_ (at_ B p) = ((while_ lowDig (8 - (q - p)) >>= fun r => pure (cut B p q ++ r)) : Rd Bytes) (at_ B q)
theorem NameAt.start (h : p ≤ B.length) : NameAt B p p := ⟨Nat.le_refl _, by omega, h, fun z => absurd z (Nat.lt_irrefl _)⟩
theorem NameAt.step {q : Nat} (N : NameAt B p q) (h8 : q - p < 8) (hf : fitsN (nb B q) ((q : Int) - p) = true) : NameAt B p (q + 1) := by
  obtain ⟨h1, h2, h3, h4⟩ := N
  rcases nb_cases (B := B) (p := q) with ⟨c, hc, e, hl⟩ | ⟨_, e⟩
  · refine ⟨by omega, by omega, by omega, fun _ => ?_⟩
    rw [e] at hf
    unfold fitsN at hf
    rw [letter_low, digit_is] at hf
    by_cases hpq : p < q
    · have hd : decide ((q : Int) - p > 0) = true := decide_eq_true (by omega)
      rw [hd, Bool.true_and] at hf
      rw [h4 hpq]
      have e8 : 8 - (q - p) = (8 - (q + 1 - p)) + 1 := by omega
      rw [e8]
      show ((while_ lowDig (8 - (q + 1 - p) + 1) >>= fun r => pure (cut B p q ++ r)) : Rd Bytes) (at_ B q) = _
      have w := while_yes (n := 8 - (q + 1 - p)) hc (f := lowDig) hf
      have w2 : ∀ (s : Nat × Bytes), ((while_ lowDig (8 - (q + 1 - p)) >>= fun r => pure (cut B p (q + 1) ++ r)) : Rd Bytes) s = (((while_ lowDig (8 - (q + 1 - p)) >>= fun r => pure (c :: r)) >>= fun r => pure (cut B p q ++ r)) : Rd Bytes) s := by
        intro s
        rw [bind_assoc]
        simp only [pure_bind]
        rw [cut_more h1 hc]
        simp [List.append_assoc]
      rw [w2]
      cases hw : ((while_ lowDig (8 - (q + 1 - p)) >>= fun r => pure (c :: r)) : Rd Bytes) (at_ B (q + 1)) with
      | error f => rw [bind_er hw, bind_er (w.trans hw)]
      | ok y =>
        obtain ⟨y, s⟩ := y
        rw [bind_ok hw, bind_ok (w.trans hw)]
    · have : q = p := by omega
      subst this
      have hd : decide ((q : Int) - q > 0) = false := decide_eq_false (by omega)
      rw [hd, Bool.false_and, Bool.or_false] at hf
      unfold name_
      rw [bind_ok peek_at, hc]
      show (if isLow c = true then (_ : Rd Bytes) else (_ : Rd Bytes)) _ = _
      rw [if_pos hf, bind_ok skip_at]
      have e7 : 8 - (q + 1 - q) = 7 := by omega
      rw [e7, cut_more (Nat.le_refl _) hc, cut_nil]
      rfl
  · rw [e, fits_end] at hf
    cases hf
theorem NameAt.stop {q : Nat} (N : NameAt B p q) (h : q - p = 8 ∨ fitsN (nb B q) ((q : Int) - p) = false) (hpq : p < q) : name_ (at_ B p) = .ok (cut B p q, at_ B q) := by
  rw [N.told hpq]
  have w : while_ lowDig (8 - (q - p)) (at_ B q) = .ok ([], at_ B q) := by
    rcases h with h | h
    · rw [h]
      rfl
    · refine while_no fun c hc => ?_
      rw [nb_some hc] at h
      unfold fitsN at h
      rw [letter_low, digit_is] at h
      have hd : decide ((q : Int) - p > 0) = true := decide_eq_true (by omega)
      rw [hd, Bool.true_and] at h
      exact h
  rw [bind_ok w, List.append_nil]
  rfl
theorem NameAt.none (h : fitsN (nb B p) ((p : Int) - p) = false) : name_ (at_ B p) = .error p := by
  unfold name_
  rw [bind_ok peek_at]
  cases e : B[p]? with
  | none => rfl
  | some c =>
    rw [nb_some e] at h
    unfold fitsN at h
    have hd : decide ((p : Int) - p > 0) = false := decide_eq_false (by omega)
    rw [letter_low, hd, Bool.false_and, Bool.or_false] at h
    show (if isLow c = true then (_ : Rd Bytes) else (_ : Rd Bytes)) _ = _
    rw [if_neg (by rw [h]; exact Bool.false_ne_true)]
    rfl
/-! ### numbers -/
theorem leads {hi n : Nat} (hn : 0 < n) : leadsTo 1 hi n = decide (n ≤ hi) := by
  unfold leadsTo
  rw [if_neg (by omega)]
  by_cases h : n ≤ hi
  · rw [decide_eq_true h, List.any_eq_true]
    refine ⟨0, by simp, ?_⟩
    simp only [Nat.pow_zero, Nat.mul_one, Bool.and_eq_true, decide_eq_true_eq]
    omega
  · rw [decide_eq_false h]
    rw [← Bool.not_eq_true, List.any_eq_true]
    rintro ⟨k, _, hk⟩
    simp only [Bool.and_eq_true, decide_eq_true_eq] at hk
    have h10 : 1 ≤ 10 ^ k := Nat.pos_of_ne_zero (by simp)
    have : n * 1 ≤ n * 10 ^ k := Nat.mul_le_mul_left n h10
    omega
theorem leads0 {hi : Nat} : leadsTo 1 hi 0 = false := rfl
/-- what was read so far -/
def so (v : Nat) : Option Nat := if v = 0 then none else some v
theorem so_getD (v : Nat) : (so v).getD 0 = v := by
  unfold so
  split
  · rename_i h; rw [h]; rfl
  · rfl
theorem so_ne (v : Nat) : so v ≠ some 0 := by
  unfold so
  split
  · exact fun z => nomatch z
  · rename_i h
    exact fun z => h (Option.some.inj z)
theorem digits_yes {hi fu v q : Nat} {c : UInt8} (h : B[q]? = some c) (hd : isDigit c = true) (h1 : 1 ≤ 10 * v + (c.toNat - 48)) (h2 : 10 * v + (c.toNat - 48) ≤ hi) :
    digits 1 hi (fu + 1) (so v) (at_ B q) = digits 1 hi fu (so (10 * v + (c.toNat - 48))) (at_ B (q + 1)) := by
  rw [digits.eq_def]
  dsimp only
  rw [bind_ok peek_at, h]
  have e : ((some c : Option UInt8).bind fun (c : UInt8) => if isDigit c = false ∨ so v = some 0 then (none : Option Nat) else let n := 10 * (so v).getD 0 + (c.toNat - 48)
      if leadsTo 1 hi n = true then some n else none) = some (10 * v + (c.toNat - 48)) := by
    show (if isDigit c = false ∨ so v = some 0 then (none : Option Nat) else _) = _
    rw [if_neg (fun z => z.elim (fun z => by rw [hd] at z; cases z) (so_ne v)), so_getD]
    show (if leadsTo 1 hi (10 * v + (c.toNat - 48)) = true then _ else _) = _
    rw [leads (by omega), if_pos (decide_eq_true h2)]
  rw [e]
  show ((skip >>= fun _ => digits 1 hi fu (some (10 * v + (c.toNat - 48)))) : Rd Nat) (at_ B q) = _
  rw [bind_ok skip_at]
  have e2 : so (10 * v + (c.toNat - 48)) = some (10 * v + (c.toNat - 48)) := if_neg (by omega)
  rw [e2]
theorem digits_no {hi fu v q : Nat} (hv : v ≤ hi) (h : ∀ c, B[q]? = some c → isDigit c = true → ¬ (1 ≤ 10 * v + (c.toNat - 48) ∧ 10 * v + (c.toNat - 48) ≤ hi)) :
    digits 1 hi (fu + 1) (so v) (at_ B q) = if 0 < v then .ok (v, at_ B q) else .error q := by
  rw [digits.eq_def]
  dsimp only
  rw [bind_ok peek_at]
  have e : ((B[q]?).bind fun (c : UInt8) => if isDigit c = false ∨ so v = some 0 then (none : Option Nat) else let n := 10 * (so v).getD 0 + (c.toNat - 48)
      if leadsTo 1 hi n = true then some n else none) = none := by
    cases hq : B[q]? with
    | none => rfl
    | some c =>
      show (if isDigit c = false ∨ so v = some 0 then (none : Option Nat) else _) = _
      cases hd : isDigit c with
      | false => rw [if_pos (.inl rfl)]
      | true =>
        rw [if_neg (fun z => z.elim (fun z => by cases z) (so_ne v)), so_getD]
        show (if leadsTo 1 hi (10 * v + (c.toNat - 48)) = true then _ else _) = _
        have hn := h c hq hd
        by_cases h0 : 10 * v + (c.toNat - 48) = 0
        · rw [h0, leads0, if_neg Bool.false_ne_true]
        · rw [leads (by omega), if_neg (by simp only [decide_eq_true_eq]; omega)]
  rw [e]
  dsimp only
  unfold so
  by_cases h0 : v = 0
  · subst h0
    rw [if_pos rfl, if_neg (by omega)]
    rfl
  · rw [if_neg h0, if_pos (by omega)]
    show (if 1 ≤ v ∧ v ≤ hi then (_ : Rd Nat) else (_ : Rd Nat)) _ = _
    rw [if_pos ⟨by omega, hv⟩]
    rfl
structure NumAt (hi : Nat) (B : Bytes) (p q v : Nat) : Prop where
  lo : p ≤ q
  len : q ≤ B.length
  le : v ≤ hi
  zero : v = 0 ↔ q = p
  big : p < q → 10 ^ (q - p - 1) ≤ v
  told : num 1 hi (at_ B p) = digits 1 hi (20 - (q - p)) (so v) (at_ B q)
theorem NumAt.start {hi : Nat} (h : p ≤ B.length) : NumAt hi B p p 0 := ⟨Nat.le_refl _, h, Nat.zero_le _, by simp, fun z => absurd z (Nat.lt_irrefl _), by rw [Nat.sub_self]; rfl⟩
theorem NumAt.few {hi q v : Nat} (N : NumAt hi B p q v) (hh : hi ≤ 9999) : q - p ≤ 4 := by
  refine Decidable.byContradiction fun hc => ?_
  have h1 := N.big (by omega)
  have h2 : 10 ^ 4 ≤ 10 ^ (q - p - 1) := Nat.pow_le_pow_right (by omega) (by omega)
  have h3 := N.le
  omega
theorem NumAt.step {hi q v w : Nat} (N : NumAt hi B p q v) (hh : hi ≤ 9999) (hd : digit (nb B q) = true) (hw : (w : Int) = v * 10 + nb B q - 48) (h1 : 1 ≤ w) (h2 : w ≤ hi) : NumAt hi B p (q + 1) w := by
  have h4 := N.few hh
  rcases nb_cases (B := B) (p := q) with ⟨c, hc, e, hl⟩ | ⟨_, e⟩
  · rw [e, digit_is] at hd
    rw [e] at hw
    have hdd := hd
    unfold isDigit at hdd
    rw [Bool.and_eq_true, decide_eq_true_eq, decide_eq_true_eq] at hdd
    have ew : w = 10 * v + (c.toNat - 48) := by omega
    subst ew
    refine ⟨by have := N.lo; omega, by omega, h2, ⟨fun z => by omega, fun z => by have := N.lo; omega⟩, fun _ => ?_, ?_⟩
    · by_cases hq : p < q
      · have hb := N.big hq
        have e1 : q + 1 - p - 1 = (q - p - 1) + 1 := by omega
        rw [e1, Nat.pow_succ]
        omega
      · have e1 : q + 1 - p - 1 = 0 := by have := N.lo; omega
        rw [e1, Nat.pow_zero]
        omega
    · rw [N.told]
      have e1 : 20 - (q - p) = (20 - (q + 1 - p)) + 1 := by have := N.lo; omega
      rw [e1]
      exact digits_yes hc hd h1 h2
  · rw [e, digit_end] at hd
    cases hd
theorem NumAt.stop {hi q v : Nat} (N : NumAt hi B p q v) (hh : hi ≤ 9999) (h : digit (nb B q) = true → ¬ (1 ≤ v * 10 + nb B q - 48 ∧ v * 10 + nb B q - 48 ≤ (hi : Int))) :
    num 1 hi (at_ B p) = if 0 < v then .ok (v, at_ B q) else .error q := by
  have h4 := N.few hh
  rw [N.told]
  have e1 : 20 - (q - p) = (19 - (q - p)) + 1 := by omega
  rw [e1]
  refine digits_no N.le fun c hc hd => ?_
  have e := nb_some hc
  rw [e, digit_is] at h
  have hn := h hd
  unfold isDigit at hd
  rw [Bool.and_eq_true, decide_eq_true_eq, decide_eq_true_eq] at hd
  omega
/-! ### places -/
theorem place_yes {pl : Place} (h : (B[p]?).bind placeOf = some pl) : place_ (at_ B p) = .ok (pl, at_ B (p + 1)) := by
  unfold place_
  rw [bind_ok peek_at, h]
  show ((skip >>= fun _ => pure pl) : Rd Place) (at_ B p) = _
  rw [bind_ok skip_at]
  rfl
theorem place_no (h : (B[p]?).bind placeOf = none) : place_ (at_ B p) = .error p := by
  unfold place_
  rw [bind_ok peek_at, h]
  rfl
theorem placeOf_byte (pl : Place) : placeOf pl.byte = some pl := by
  cases pl with
  | none => rfl
  | cell s t => cases s <;> cases t <;> rfl
theorem byte_placeOf {c : UInt8} {pl : Place} (h : placeOf c = some pl) : pl.byte = c := by
  unfold placeOf at h
  repeat' split at h
  all_goals first
    | (cases h; done)
    | (rename_i hc; cases h; subst hc; rfl)
    | (rename_i hc _; cases h; subst hc; rfl)
/-- a sign as Python sees it -/
def sign (b : Int) : Bool := b == 46 || b == 35 || b == 115 || b == 116 || b == 98
theorem sign_yes (h : sign (nb B p) = true) : ∃ pl : Place, (B[p]?).bind placeOf = some pl ∧ nb B p = (pl.byte.toNat : Int) ∧ p < B.length := by
  rcases nb_cases (B := B) (p := p) with ⟨c, hc, e, hl⟩ | ⟨_, e⟩
  · rw [e] at h
    have : c = 46 ∨ c = 35 ∨ c = 115 ∨ c = 116 ∨ c = 98 := by
      unfold sign at h
      simp only [Bool.or_eq_true, beq_iff_eq] at h
      rcases h with (((h | h) | h) | h) | h
      · exact .inl (UInt8.toNat_inj.mp (by show c.toNat = 46; omega))
      · exact .inr (.inl (UInt8.toNat_inj.mp (by show c.toNat = 35; omega)))
      · exact .inr (.inr (.inl (UInt8.toNat_inj.mp (by show c.toNat = 115; omega))))
      · exact .inr (.inr (.inr (.inl (UInt8.toNat_inj.mp (by show c.toNat = 116; omega)))))
      · exact .inr (.inr (.inr (.inr (UInt8.toNat_inj.mp (by show c.toNat = 98; omega)))))
    rw [hc, e]
    rcases this with h | h | h | h | h <;> subst h
    · exact ⟨.none, rfl, rfl, hl⟩
    · exact ⟨.cell false false, rfl, rfl, hl⟩
    · exact ⟨.cell true false, rfl, rfl, hl⟩
    · exact ⟨.cell false true, rfl, rfl, hl⟩
    · exact ⟨.cell true true, rfl, rfl, hl⟩
  · rw [e] at h
    cases h
theorem sign_no (h : sign (nb B p) = false) : (B[p]?).bind placeOf = none := by
  cases e : (B[p]?).bind placeOf with
  | none => rfl
  | some pl =>
    obtain ⟨c, hc, hp⟩ := Option.bind_eq_some_iff.mp e
    have hb := byte_placeOf hp
    rw [nb_some hc, ← hb] at h
    exfalso
    cases pl with
    | none => exact absurd h (by decide)
    | cell s t => cases s <;> cases t <;> exact absurd h (by decide)
/-! ### rows -/
/-- n rows are to come, L is read -/
def rowsM (w n : Nat) (L : List Place) : Rd (List Place) := do
  let l ← times n (row_ w)
  return L ++ l.flatten
/-- j places of a row are to come, then n rows -/
def rowM (w j n : Nat) (L : List Place) : Rd (List Place) := do
  let l ← times j place_
  byte_ 10
  rowsM w n (L ++ l)
theorem rows_zero {w : Nat} {L : List Place} : rowsM w 0 L = pure L := by
  unfold rowsM
  simp [times]
theorem rows_succ {w n : Nat} {L : List Place} : rowsM w (n + 1) L = rowM w w n L := by
  unfold rowsM rowM rowsM
  rw [times]
  unfold row_
  simp only [bind_assoc, pure_bind, List.flatten_cons, List.append_assoc]
theorem row_succ {w j n : Nat} {L : List Place} : rowM w (j + 1) n L = (place_ >>= fun x => rowM w j n (L ++ [x])) := by
  unfold rowM
  rw [times]
  simp only [bind_assoc, pure_bind, List.append_assoc, List.singleton_append]
theorem row_zero {w n : Nat} {L : List Place} : rowM w 0 n L = (byte_ 10 >>= fun _ => rowsM w n L) := by
  unfold rowM
  rw [times]
  simp only [pure_bind, List.append_nil]
/-! ### a part -/
theorem part_eq : part_ = (bytes_ (ascii "part ") >>= fun _ => name_ >>= fun n => bytes_ [32] >>= fun _ => num 1 16 >>= fun w => bytes_ [32] >>= fun _ => num 1 16 >>= fun d => bytes_ [32] >>= fun _ => num 1 18 >>= fun h =>
    bytes_ [32] >>= fun _ => num 1 9999 >>= fun g => bytes_ [10] >>= fun _ => rowsM w (d * h) [] >>= fun l => pure ⟨n, w, d, h, g, l⟩) := by
  unfold part_ numAfter rowsM
  simp only [bytes_one, bind_assoc, pure_bind, List.nil_append]
/-- parts to come, so many at most, ps are read -/
def restM (n : Nat) (ps : List Part) : Rd Catalogue := do
  let l ← toEnd part_ n
  return ps ++ l
theorem rest_end {n : Nat} {ps : List Part} (h : B.length ≤ p) : restM n ps (at_ B p) = .ok (ps, at_ B p) := by
  have e : B[p]? = none := by simp [h]
  have e2 : toEnd part_ n (at_ B p) = .ok ([], at_ B p) := by
    cases n with
    | zero =>
      rw [toEnd, bind_ok peek_at, e]
      rfl
    | succ n =>
      rw [toEnd, bind_ok peek_at, e]
      rfl
  unfold restM
  rw [bind_ok e2, List.append_nil]
  rfl
theorem rest_more {n : Nat} {ps : List Part} (h : p < B.length) : restM (n + 1) ps (at_ B p) = ((part_ >>= fun x => restM n (ps ++ [x])) : Rd Catalogue) (at_ B p) := by
  have e : (B[p]?).isSome = true := by simp [h]
  unfold restM
  rw [toEnd]
  simp only [bind_assoc]
  rw [bind_ok peek_at, if_pos e]
  simp only [bind_assoc, pure_bind, List.append_assoc, List.singleton_append]
theorem rest_full {ps : List Part} (h : p < B.length) : restM 0 ps (at_ B p) = .error p := by
  have e : (B[p]?).isSome = true := by simp [h]
  unfold restM
  rw [toEnd]
  simp only [bind_assoc]
  rw [bind_ok peek_at, if_pos e]
  rfl
theorem readC_eq : readC B = ((part_ >>= fun x => restM 63 [x]) (at_ B 0)).map (·.1) := by
  unfold readC readAll restM
  simp only [List.singleton_append]
  rfl
end RdM
set_option Elab.async false
set_option linter.all false
set_option maxRecDepth 100000
set_option maxHeartbeats 4000000
namespace St
/-- the i-th statement of the program -/
def topS (i : Nat) : PySem.Stmt := PySem.Challenge.pw_studtube_s01_judge.main.body.getD i (.Pass ⟨0, 0, 0, 0⟩)
abbrev s_is_digit : PySem.Stmt := topS 3
abbrev s_is_letter : PySem.Stmt := topS 4
abbrev s_fits_name : PySem.Stmt := topS 5
abbrev s_Refused_init : PySem.Stmt := L2.inClass (topS 7) 0
abbrev s_TooLong_init : PySem.Stmt := L2.inClass (topS 8) 0
abbrev s_NoCatalogue_init : PySem.Stmt := L2.inClass (topS 9) 0
abbrev s_signs_in_order : PySem.Stmt := topS 16
abbrev s_is_sign : PySem.Stmt := topS 17
abbrev s_Part_init : PySem.Stmt := L2.inClass (topS 18) 0
abbrev s_Part_places_with_stud : PySem.Stmt := L2.inClass (topS 18) 1
abbrev s_Part_places_with_tube : PySem.Stmt := L2.inClass (topS 18) 2
abbrev s_Part_has_place : PySem.Stmt := L2.inClass (topS 18) 3
abbrev s_Part_sign_at : PySem.Stmt := L2.inClass (topS 18) 4
abbrev s_Reader_init : PySem.Stmt := L2.inClass (topS 26) 0
abbrev s_Reader_next_byte : PySem.Stmt := L2.inClass (topS 26) 1
abbrev s_Reader_fail_unless : PySem.Stmt := L2.inClass (topS 26) 2
abbrev s_Reader_need : PySem.Stmt := L2.inClass (topS 26) 3
abbrev s_Reader_read_name : PySem.Stmt := L2.inClass (topS 26) 4
abbrev s_Reader_read_number : PySem.Stmt := L2.inClass (topS 26) 5
abbrev s_Reader_read_sign : PySem.Stmt := L2.inClass (topS 26) 6
abbrev s_Reader_read_cells : PySem.Stmt := L2.inClass (topS 26) 7
abbrev s_Reader_read_part : PySem.Stmt := L2.inClass (topS 26) 8
abbrev s_read_catalogue : PySem.Stmt := topS 27
abbrev s_judge : PySem.Stmt := topS 29
end St
namespace St
open PySem PySem.Spec PyProof.Rows L2 PySem.Jx RdM BrPart BrRead
/-! ### the heap -/
/-- all stands but what is at r -/
def But (r : Addr) (H H' : Hp) : Prop := ∀ b o, H b = some o → b ≠ r → H' b = some o
theorem But.refl {r : Addr} {H : Hp} : But r H H := fun _ _ e _ => e
theorem But.trans {r : Addr} {H H1 H2 : Hp} (a : But r H H1) (b : But r H1 H2) : But r H H2 := fun c o e n => b c o (a c o e n) n
theorem But.of {r : Addr} {H H' : Hp} (a : Same H H') : But r H H' := fun b o e _ => a b o e
theorem same_new {H : Hp} {p : Addr} {o : HO} (hp : H p = none) : Same H (upd H p o) := fun b u e => by
  rw [upd_ne (ne_of_none e hp)]
  exact e
theorem but_upd {r : Addr} {H : Hp} {o : HO} : But r H (upd H r o) := fun b u e n => by
  rw [upd_ne n]
  exact e
theorem But.seq {K : PySem.W.Frag} {r a : Addr} {H H' : Hp} {xs : List V} {C d : Addr} {fs : List (Str × V)} (e : But r H H') (hr : H r = some (.ins C d fs)) (h : SqL K H a xs) : SqL K H' a xs := by
  rcases h with (h | ⟨o, h⟩) | h
  · exact .inl (.inl (e _ _ h (ne_of h hr (by intro z; cases z))))
  · exact .inl (.inr ⟨o, e _ _ h (ne_of h hr (by intro z; cases z))⟩)
  · exact .inr h
/-- the bytes as the program has them -/
def bytesV (B : Bytes) : List V := B.map fun c => V.int (c.toNat : Int)
theorem bytesV_len (B : Bytes) : (bytesV B).length = B.length := List.length_map ..
def rF (a : Addr) (p : Nat) : List (Str × V) := [("t", .ref a), ("at", .int p)]
theorem lk_here {k : Str} {v : V} {r : List (Str × V)} : List.lookup k ((k, v) :: r) = some v := by
  have e : (k == k) = true := beq_self_eq_true k
  simp only [List.lookup, e]
theorem lk_past {k g : Str} {v : V} {r : List (Str × V)} (h : (k == g) = false) : List.lookup k ((g, v) :: r) = List.lookup k r := by
  simp only [List.lookup, h]
theorem put_here {f : Str} {v x : V} {r : List (Str × V)} : putF f v ((f, x) :: r) = (f, v) :: r := if_pos rfl
theorem put_past {f g : Str} {v x : V} {r : List (Str × V)} (h : ¬ g = f) : putF f v ((g, x) :: r) = (g, x) :: putF f v r := if_neg h
theorem rF_t (a : Addr) (p : Nat) : (rF a p).lookup ("t" : Str) = some (.ref a) := lk_here
theorem rF_at (a : Addr) (p : Nat) : (rF a p).lookup ("at" : Str) = some (.int p) := (lk_past (by decide +kernel)).trans lk_here
theorem rF_no (a : Addr) (p : Nat) {f : Str} (h1 : (f == ("t" : Str)) = false) (h2 : (f == ("at" : Str)) = false) : (rF a p).lookup f = none := (lk_past h1).trans ((lk_past h2).trans rfl)
theorem rF_put (a : Addr) (p q : Nat) : putF "at" (.int (q : Nat)) (rF a p) = rF a q := (put_past (by decide +kernel)).trans (congrArg _ put_here)
/-- the reader at r, its text at a, p bytes on -/
structure RdAt (K : PySem.W.Frag) (CR : Addr) (B : Bytes) (H : Hp) (r a : Addr) (p : Nat) : Prop where
  ob : ∃ dr, H r = some (.ins CR dr (rF a p))
  tx : SqL K H a (bytesV B)
  le : p ≤ B.length
theorem RdAt.but {K : PySem.W.Frag} {CR : Addr} {B : Bytes} {H H' : Hp} {r a : Addr} {p : Nat} (R : RdAt K CR B H r a p) (s : Same H H') : RdAt K CR B H' r a p := by
  obtain ⟨⟨dr, h⟩, t, l⟩ := R
  exact ⟨⟨dr, s _ _ h⟩, s.seq t, l⟩
theorem RdAt.moved {K : PySem.W.Frag} {CR : Addr} {B : Bytes} {H : Hp} {r a dr : Addr} {p q : Nat} (R : RdAt K CR B H r a p) (hr : H r = some (.ins CR dr (rF a p))) (hq : q ≤ B.length) : RdAt K CR B (upd H r (.ins CR dr (rF a q))) r a q :=
  ⟨⟨dr, upd_same⟩, But.seq but_upd hr R.tx, hq⟩
/-! ### what the written part says -/
structure Ad where
  (digit letter fits sgns sgn next fail need rname rnum rsign rcells rpart iR iP CR CP CN iN rcat : Addr)
/-- the def st stands at f -/
def Dn (K : PySem.W.Frag) (x qual : Str) (st : Stmt) (f : Addr) : Prop := ∃ fd, Fun K x qual st f fd
structure Txt (K : PySem.W.Frag) (mg : Str → Option Value) (a : Ad) : Prop where
  ord : mg "ord" = none
  len : mg "len" = none
  range : mg "range" = none
  cName : ∃ t, mg "LONGEST_NAME" = some (.int 8 t)
  cEnd : ∃ t, mg "TEXT_END" = some (.int 256 t)
  cWide : ∃ t, mg "MOST_WIDE" = some (.int 16 t)
  cHigh : ∃ t, mg "MOST_HIGH" = some (.int 18 t)
  cHeavy : ∃ t, mg "MOST_HEAVY" = some (.int 9999 t)
  cParts : ∃ t, mg "MOST_PARTS" = some (.int 64 t)
  cBytes : ∃ t, mg "MOST_BYTES" = some (.int 1048576 t)
  c46 : ∃ t, mg "NO_CELL" = some (.int 46 t)
  c35 : ∃ t, mg "PLAIN" = some (.int 35 t)
  c115 : ∃ t, mg "STUD" = some (.int 115 t)
  c116 : ∃ t, mg "TUBE" = some (.int 116 t)
  c98 : ∃ t, mg "BOTH" = some (.int 98 t)
  gDigit : mg "is_digit" = some (.ref a.digit)
  gLetter : mg "is_letter" = some (.ref a.letter)
  gFits : mg "fits_name" = some (.ref a.fits)
  gSigns : mg "signs_in_order" = some (.ref a.sgns)
  gSign : mg "is_sign" = some (.ref a.sgn)
  gRcat : mg "read_catalogue" = some (.ref a.rcat)
  gR : mg "Reader" = some (.ref a.CR)
  gP : mg "Part" = some (.ref a.CP)
  gN : mg "NoCatalogue" = some (.ref a.CN)
  clR : Cls K a.CR
  nT : NoAttr K a.CR "t"
  nAt : NoAttr K a.CR "at"
  mNext : Meth K a.CR "next_byte" a.next
  mFail : Meth K a.CR "fail_unless" a.fail
  mNeed : Meth K a.CR "need" a.need
  mName : Meth K a.CR "read_name" a.rname
  mNum : Meth K a.CR "read_number" a.rnum
  mSign : Meth K a.CR "read_sign" a.rsign
  mCells : Meth K a.CR "read_cells" a.rcells
  mPart : Meth K a.CR "read_part" a.rpart
  clP : Cls K a.CP
  nName : NoAttr K a.CP "name"
  nWidth : NoAttr K a.CP "width"
  nDepth : NoAttr K a.CP "depth"
  nHeight : NoAttr K a.CP "height"
  nWeight : NoAttr K a.CP "weight"
  nCells : NoAttr K a.CP "cells"
  mkR : Mk K a.CR a.iR
  mkP : Mk K a.CP a.iP
  eN : ErrT K mg a.CN a.iN 1 (fun vs => [("fault", vs.getD 0 .non), ("number", .int (-6))])
  kDigit : PySem.W.keepIn K (.ref a.digit) = true
  kLetter : PySem.W.keepIn K (.ref a.letter) = true
  kFits : PySem.W.keepIn K (.ref a.fits) = true
  kSigns : PySem.W.keepIn K (.ref a.sgns) = true
  kSign : PySem.W.keepIn K (.ref a.sgn) = true
  kRcat : PySem.W.keepIn K (.ref a.rcat) = true
  dDigit : Dn K "is_digit" "is_digit" s_is_digit a.digit
  dLetter : Dn K "is_letter" "is_letter" s_is_letter a.letter
  dFits : Dn K "fits_name" "fits_name" s_fits_name a.fits
  dSigns : Dn K "signs_in_order" "signs_in_order" s_signs_in_order a.sgns
  dSign : Dn K "is_sign" "is_sign" s_is_sign a.sgn
  dNext : Dn K "next_byte" "Reader.next_byte" s_Reader_next_byte a.next
  dFail : Dn K "fail_unless" "Reader.fail_unless" s_Reader_fail_unless a.fail
  dNeed : Dn K "need" "Reader.need" s_Reader_need a.need
  dName : Dn K "read_name" "Reader.read_name" s_Reader_read_name a.rname
  dNum : Dn K "read_number" "Reader.read_number" s_Reader_read_number a.rnum
  dRsign : Dn K "read_sign" "Reader.read_sign" s_Reader_read_sign a.rsign
  dCells : Dn K "read_cells" "Reader.read_cells" s_Reader_read_cells a.rcells
  dPart : Dn K "read_part" "Reader.read_part" s_Reader_read_part a.rpart
  dIR : Dn K "__init__" "Reader.__init__" s_Reader_init a.iR
  dIP : Dn K "__init__" "Part.__init__" s_Part_init a.iP
  dRcat : Dn K "read_catalogue" "read_catalogue" s_read_catalogue a.rcat
/-- the def at f keeps its promise -/
def Ok (P : Program) (w : World) (K : PySem.W.Frag) (mg : Str → Option Value) (base : Heap) (CX : CXT) (k : Nat) (f : Addr) (ps : List Str) (sp : Sp) : Prop := ∃ fd, FnOk P w K mg base CX k f fd ps sp ∧ Binds K fd ps []
/-- no catalogue's: f is the fault -/
def Fails (CN : Addr) (f : Nat) (E : XK) : Prop := ∀ d H', H' d = some (.xd [("fault", .int f), ("number", .int (-6))]) → E (.ref CN) (some d) H'
section
variable {P : Program} {w : World} {K : PySem.W.Frag} {mg : Str → Option Value} {base : Heap} {a : Ad}
theorem iteT' {c : Bool} {A B : Prop} (hc : c = true) (h : A) : if c = true then A else B := by
  rw [if_pos hc]
  exact h
theorem iteF' {c : Bool} {A B : Prop} (hc : c = false) (h : B) : if c = true then A else B := by
  rw [hc, if_neg Bool.false_ne_true]
  exact h
theorem hxT {X : Cx} {E : XK} (t : Takes X (fun cls d _ H => E cls d H)) : Passes (L2.CX X.prog X.w) X E := passes_call t fun _ _ _ _ h => h
/-! ### is_digit, is_letter, fits_name, is_sign -/
def spB (g : Int → Bool) : Sp := fun vs H Q _ => ∃ b : Int, vs = [.int b] ∧ Q (.bl (g b)) H
theorem scDigit : FnScope ["byte"] ["byte"] (defScope s_is_digit) := ⟨rfl, rfl, rfl, by decide +kernel, rfl, by decide +kernel, by decide +kernel⟩
theorem scLetter : FnScope ["byte"] ["byte"] (defScope s_is_letter) := ⟨rfl, rfl, rfl, by decide +kernel, rfl, by decide +kernel, by decide +kernel⟩
theorem ok_digit (T : Txt K mg a) : Ok P w K mg base CX0 1 a.digit ["byte"] (spB digit) := by
  obtain ⟨fd, F⟩ := T.dDigit
  refine ⟨fd, F.ok scDigit (fun vs H Q E h => ?_) (fun cdv A outer s H vs Q E hr h => ⟨_,
    pss_one (ps_ret (pe_chain op_le op_le (pe_callB call_ord (by rfl) T.ord (by decide +kernel) (pa_cons pe_str pa_nil)) (pv 0) (pe_callB call_ord (by rfl) T.ord (by decide +kernel) (pa_cons pe_str pa_nil)))), ?_⟩),
    F.binds fun _ _ _ _ _ _ us hl => match us, hl with | [_], _ => rfl⟩
  · obtain ⟨b, rfl, _⟩ := h
    rfl
  · obtain ⟨b, rfl, h⟩ := h
    refine ⟨_, rfl, rfl, _, rfl, _, _, rfl, rfl, _, rfl, ?_⟩
    by_cases c : (48 : Int) ≤ b
    · have e1 : digit b = decide (b ≤ 57) := by unfold digit; rw [decide_eq_true c, Bool.true_and]
      refine iteT' (decide_eq_true c) ⟨_, rfl, rfl, _, _, rfl, rfl, ?_⟩
      rw [e1] at h
      exact h
    · have e1 : digit b = false := by unfold digit; rw [decide_eq_false c, Bool.false_and]
      rw [e1] at h
      exact iteF' (decide_eq_false c) h
theorem ok_letter (T : Txt K mg a) : Ok P w K mg base CX0 1 a.letter ["byte"] (spB letter) := by
  obtain ⟨fd, F⟩ := T.dLetter
  refine ⟨fd, F.ok scLetter (fun vs H Q E h => ?_) (fun cdv A outer s H vs Q E hr h => ⟨_,
    pss_one (ps_ret (pe_chain op_le op_le (pe_callB call_ord (by rfl) T.ord (by decide +kernel) (pa_cons pe_str pa_nil)) (pv 0) (pe_callB call_ord (by rfl) T.ord (by decide +kernel) (pa_cons pe_str pa_nil)))), ?_⟩),
    F.binds fun _ _ _ _ _ _ us hl => match us, hl with | [_], _ => rfl⟩
  · obtain ⟨b, rfl, _⟩ := h
    rfl
  · obtain ⟨b, rfl, h⟩ := h
    refine ⟨_, rfl, rfl, _, rfl, _, _, rfl, rfl, _, rfl, ?_⟩
    by_cases c : (97 : Int) ≤ b
    · have e1 : letter b = decide (b ≤ 122) := by unfold letter; rw [decide_eq_true c, Bool.true_and]
      refine iteT' (decide_eq_true c) ⟨_, rfl, rfl, _, _, rfl, rfl, ?_⟩
      rw [e1] at h
      exact h
    · have e1 : letter b = false := by unfold letter; rw [decide_eq_false c, Bool.false_and]
      rw [e1] at h
      exact iteF' (decide_eq_false c) h
def spFits : Sp := fun vs H Q _ => ∃ b i : Int, vs = [.int b, .int i] ∧ Q (.bl (fitsN b i)) H
theorem scFits : FnScope ["byte", "index"] ["byte", "index"] (defScope s_fits_name) := ⟨rfl, rfl, rfl, by decide +kernel, rfl, by decide +kernel, by decide +kernel⟩
theorem ok_fits (T : Txt K mg a) : Ok P w K mg base CX0 2 a.fits ["byte", "index"] spFits := by
  obtain ⟨fd, F⟩ := T.dFits
  obtain ⟨fdL, GL, bL⟩ := ok_letter (P := P) (w := w) (base := base) T
  obtain ⟨fdD, GD, bD⟩ := ok_digit (P := P) (w := w) (base := base) T
  refine ⟨fd, F.ok scFits (fun vs H Q E h => ?_) (fun cdv A outer s H vs Q E hr h => ⟨_,
    pss_one (ps_ret (pe_or (pe_call GL hr rfl T.gLetter T.kLetter bL .nil pass0 (pa_cons (pv 0) pa_nil))
      (pe_one (pe_and (pe_cmpR op_gt (pv 1) pe_int (nomark _)) (pe_one (pe_call GD hr rfl T.gDigit T.kDigit bD .nil pass0 (pa_cons (pv 0) pa_nil))))))), ?_⟩),
    F.binds fun _ _ _ _ _ _ us hl => match us, hl with | [_, _], _ => rfl⟩
  · obtain ⟨b, i, rfl, _⟩ := h
    rfl
  · obtain ⟨b, i, rfl, h⟩ := h
    refine ⟨_, rfl, _, rfl, _, rfl, ?_⟩
    unfold fitsN at h
    cases c : letter b with
    | true =>
      rw [c, Bool.true_or] at h
      exact iteT h
    | false =>
      rw [c, Bool.false_or] at h
      refine iteF ⟨_, rfl, _, _, rfl, rfl, _, rfl, ?_⟩
      by_cases z : (0 : Int) < i
      · rw [decide_eq_true (show i > 0 from z), Bool.true_and] at h
        exact iteT' (decide_eq_true z) ⟨_, rfl, _, rfl, h⟩
      · rw [decide_eq_false (show ¬ i > 0 from z), Bool.false_and] at h
        exact iteF' (decide_eq_false z) h
def signsV : List V := [.int 46, .int 35, .int 115, .int 116, .int 98]
def spSigns : Sp := fun vs H Q _ => vs = [] ∧ ∀ p, H p = none → Q (.ref p) (upd H p (.lst signsV))
theorem scSigns : FnScope [] [] (defScope s_signs_in_order) := ⟨rfl, rfl, rfl, by decide +kernel, rfl, by decide +kernel, by decide +kernel⟩
theorem ok_signs (T : Txt K mg a) : Ok P w K mg base CX0 1 a.sgns [] spSigns := by
  obtain ⟨fd, F⟩ := T.dSigns
  obtain ⟨t1, h1⟩ := T.c46
  obtain ⟨t2, h2⟩ := T.c35
  obtain ⟨t3, h3⟩ := T.c115
  obtain ⟨t4, h4⟩ := T.c116
  obtain ⟨t5, h5⟩ := T.c98
  refine ⟨fd, F.ok scSigns (fun vs H Q E h => ?_) (fun cdv A outer s H vs Q E hr h => ⟨_,
    pss_one (ps_ret (pe_lst (pa_cons (pe_glob (v := .int 46) rfl h1 ⟨_, rfl⟩) (pa_cons (pe_glob (v := .int 35) rfl h2 ⟨_, rfl⟩) (pa_cons (pe_glob (v := .int 115) rfl h3 ⟨_, rfl⟩) (pa_cons (pe_glob (v := .int 116) rfl h4 ⟨_, rfl⟩)
      (pa_cons (pe_glob (v := .int 98) rfl h5 ⟨_, rfl⟩) pa_nil))))))), ?_⟩),
    F.binds fun _ _ _ _ _ _ us hl => match us, hl with | [], _ => rfl⟩
  · obtain ⟨rfl, _⟩ := h
    rfl
  · obtain ⟨rfl, h⟩ := h
    exact ⟨(by show 5 ≤ sizeLine; decide), fun p hp => h p hp⟩
def spSign : Sp := fun vs H Q _ => ∃ b : Int, vs = [.int b] ∧ ∀ H', Same H H' → Q (.bl (sign b)) H'
theorem scSign : FnScope ["byte"] ["byte"] (defScope s_is_sign) := ⟨rfl, rfl, rfl, by decide +kernel, rfl, by decide +kernel, by decide +kernel⟩
theorem ok_sign (T : Txt K mg a) : Ok P w K mg base CX0 2 a.sgn ["byte"] spSign := by
  obtain ⟨fd, F⟩ := T.dSign
  obtain ⟨fdG, GG, bG⟩ := ok_signs (P := P) (w := w) (base := base) T
  refine ⟨fd, F.ok scSign (fun vs H Q E h => ?_) (fun cdv A outer s H vs Q E hr h => ⟨_,
    pss_one (ps_ret (pe_cmpR op_in_seq (pv 0) (pe_call0 GG hr rfl T.gSigns T.kSigns bG .nil pass0) (by rfl))), ?_⟩),
    F.binds fun _ _ _ _ _ _ us hl => match us, hl with | [_], _ => rfl⟩
  · obtain ⟨b, rfl, _⟩ := h
    rfl
  · obtain ⟨b, rfl, h⟩ := h
    refine ⟨_, rfl, rfl, fun p hp => ⟨p, _, rfl, .inl (SqL.of upd_same), rfl, rfl, ?_⟩⟩
    have e : inV (.int b) signsV = sign b := by
      have q : ∀ i j : Int, eqV (.int i) (.int j) = (j == i) := fun i j => by
        show (i == j) = (j == i)
        by_cases z : i = j
        · rw [z]
        · rw [beq_eq_false_iff_ne.mpr z, beq_eq_false_iff_ne.mpr (Ne.symm z)]
      unfold inV sign signsV
      simp only [List.any_cons, List.any_nil, q, Bool.or_false, Bool.or_assoc]
    have h' := h _ (same_new (o := .lst signsV) hp)
    show Q (.bl (if false then _ else inV (.int b) signsV)) _
    rw [if_neg Bool.false_ne_true, e]
    exact h'
/-! ### the reader: its next byte, failing, a word -/
def Out {α : Type} (K : PySem.W.Frag) (CR CN : Addr) (B : Bytes) (r a : Addr) (p : Nat) (H : Hp) (m : Rd α) (RV : α → V → Hp → Prop) (Q : VK) (E : XK) : Prop :=
  (∀ x q, m (at_ B p) = .ok (x, at_ B q) → p ≤ q → ∀ v H', RdAt K CR B H' r a q → But r H H' → RV x v H' → Q v H') ∧ ∀ f, m (at_ B p) = .error f → Fails CN f E
theorem Out.er {α : Type} {K : PySem.W.Frag} {CR CN : Addr} {B : Bytes} {r a : Addr} {p : Nat} {H : Hp} {m : Rd α} {RV : α → V → Hp → Prop} {Q : VK} {E : XK} (o : Out K CR CN B r a p H m RV Q E) {f : Nat} (h : m (at_ B p) = .error f) : Fails CN f E := o.2 f h
def spNext (K : PySem.W.Frag) (CR : Addr) (B : Bytes) : Sp := fun vs H Q _ => ∃ r a p, vs = [.ref r] ∧ RdAt K CR B H r a p ∧ Q (.int (nb B p)) H
theorem scNext : FnScope ["self"] ["self"] (defScope s_Reader_next_byte) := ⟨rfl, rfl, rfl, by decide +kernel, rfl, by decide +kernel, by decide +kernel⟩
theorem nb_at {B : Bytes} {p : Nat} (h : p < B.length) : atI (bytesV B) (p : Int) = some (.int (nb B p)) := by
  obtain ⟨c, hc⟩ : ∃ c, B[p]? = some c := ⟨B[p], by simp [h]⟩
  rw [nb_some hc]
  unfold atI ixN
  rw [bytesV_len, if_pos (Int.natCast_nonneg p), if_pos (by omega)]
  show (bytesV B)[(p : Int).toNat]? = _
  unfold bytesV
  rw [Int.toNat_natCast, List.getElem?_map, hc]
  rfl
theorem ok_next (T : Txt K mg a) {B : Bytes} : Ok P w K mg base CX0 1 a.next ["self"] (spNext K a.CR B) := by
  obtain ⟨fd, F⟩ := T.dNext
  obtain ⟨t1, h1⟩ := T.cEnd
  refine ⟨fd, F.ok scNext (fun vs H Q E h => ?_) (fun cdv A outer s H vs Q E hr h => ⟨_,
    pss_cons (ps_if (pt_cmpR op_eq (pe_fld (pv 0) rfl) (pe_callB call_len (by rfl) T.len (by decide +kernel) (pa_cons (pe_fld (pv 0) rfl) pa_nil)) (nomark _)) (pss_one (ps_ret (pe_glob (v := .int 256) rfl h1 ⟨_, rfl⟩))) pss_nil)
      (pss_one (ps_ret (pe_ix ix_list (pe_fld (pv 0) rfl) (pe_fld (pv 0) rfl) (fun _ _ => rfl)))), ?_⟩),
    F.binds fun _ _ _ _ _ _ us hl => match us, hl with | [_], _ => rfl⟩
  · obtain ⟨r, _, p, rfl, _⟩ := h
    rfl
  · obtain ⟨r, ta, p, rfl, ⟨⟨dr, hr1⟩, tx, le⟩, h⟩ := h
    refine ⟨_, rfl, r, _, dr, _, _, rfl, hr1, T.clR, T.nAt, rF_at _ _, _, rfl, r, _, dr, _, _, rfl, hr1, T.clR, T.nT, rF_t _ _, _, _, rfl, .inl ⟨_, tx, rfl⟩, rfl, _, rfl, ?_⟩
    by_cases c : p = B.length
    · subst c
      refine iteT' (decide_eq_true (by rw [bytesV_len])) ?_
      rw [nb_end] at h
      exact h
    · refine iteF' (decide_eq_false (by rw [bytesV_len]; intro z; exact c (Int.ofNat.inj (V.int.inj z)))) ?_
      exact ⟨_, rfl, r, _, dr, _, _, rfl, hr1, T.clR, T.nT, rF_t _ _, _, rfl, r, _, dr, _, _, rfl, hr1, T.clR, T.nAt, rF_at _ _, _, _, _, _, rfl, rfl, tx, nb_at (by omega), h⟩
def spFail (K : PySem.W.Frag) (CR CN : Addr) (B : Bytes) : Sp := fun vs H Q E => ∃ r a p g, vs = [.ref r, .bl g] ∧ RdAt K CR B H r a p ∧ (g = true → Q .non H) ∧ (g = false → Fails CN p E)
theorem scFail : FnScope ["self", "good"] ["self", "good"] (defScope s_Reader_fail_unless) := ⟨rfl, rfl, rfl, by decide +kernel, rfl, by decide +kernel, by decide +kernel⟩
theorem ok_fail (T : Txt K mg a) {B : Bytes} : Ok P w K mg base (L2.CX P w) 2 a.fail ["self", "good"] (spFail K a.CR a.CN B) := by
  obtain ⟨fd, F⟩ := T.dFail
  refine ⟨fd, F.okX scFail (fun vs H Q E h => ?_) (fun cdv A outer s H vs Q E hr h => ⟨_,
    pss_one (ps_if (pt_not (pt_val (pv 1))) (pss_one (ps_raise_err rfl (takes_of rfl rfl rfl rfl) (pmk_err T.eN T.gN hr (pa_cons (pe_fld (pv 0) rfl) pa_nil)))) pss_nil), ?_⟩),
    F.binds fun _ _ _ _ _ _ us hl => match us, hl with | [_, _], _ => rfl⟩
  · obtain ⟨r, _, p, g, rfl, _⟩ := h
    rfl
  · obtain ⟨r, ta, p, g, rfl, ⟨⟨dr, hr1⟩, tx, le⟩, h1, h2⟩ := h
    refine ⟨_, rfl, g, rfl, ?_⟩
    cases g with
    | true => exact iteF (h1 rfl)
    | false =>
      refine iteT ⟨_, rfl, r, _, dr, _, _, rfl, hr1, T.clR, T.nAt, rF_at _ _, rfl, by decide, fun d hd => h2 rfl d _ upd_same⟩
theorem for_str {x : Str} {g : TG} {tb : TS} {D : Ends} {σ : L2.St} {H : Hp} (Pv : Nat → L2.St → Hp → Prop) (h0 : Pv 0 σ H)
    (hs : ∀ i c σ H, x.cps[i]? = some c → Pv i σ H → g (.str ⟨#[c]⟩) σ H fun σ2 H2 => tb { D with nx := Pv (i + 1), ct := Pv (i + 1), bk := D.nx } σ2 H2) (hd : ∀ σ H, Pv x.cps.size σ H → D.nx σ H) :
    ∃ W : Nat → Nat → L2.St → Hp → Prop, (∃ m, W 0 m σ H) ∧ ∀ i m σ H, W i m σ H →
      ((Its x).stop i H ∧ D.nx σ H) ∨ ((Its x).go i H ∧ ∃ N : L2.St → Hp → Prop, (∀ σ' H', N σ' H' → ∃ m', m' < m ∧ W (i + 1) m' σ' H') ∧ ∀ y H', (Its x).yld i H y H' → g y σ H' fun σ2 H2 => tb { D with nx := N, ct := N, bk := D.nx } σ2 H2) := by
  refine ⟨fun i m σ H => m = x.cps.size - i ∧ i ≤ x.cps.size ∧ Pv i σ H, ⟨_, rfl, Nat.zero_le _, h0⟩, ?_⟩
  rintro i m σ H ⟨rfl, hi, p⟩
  by_cases lt : i < x.cps.size
  · refine .inr ⟨lt, Pv (i + 1), fun σ' H' p' => ⟨x.cps.size - (i + 1), by omega, rfl, lt, p'⟩, fun y H' yl => ?_⟩
    obtain ⟨e, c, hc, e2⟩ := yl
    subst e e2
    exact hs i c σ _ hc p
  · have e : i = x.cps.size := by omega
    subst e
    exact .inl ⟨Nat.le_refl _, hd σ H p⟩
def spNeed (K : PySem.W.Frag) (CR CN : Addr) (B : Bytes) : Sp := fun vs H Q E => ∃ r a p wd bs, vs = [.ref r, .str wd] ∧ RdAt K CR B H r a p ∧ wd.cps.toList = bs.map (fun (c : UInt8) => c.toNat) ∧ Out K CR CN B r a p H (bytes_ bs) (fun _ v _ => v = .non) Q E
theorem scNeed : FnScope ["self", "word", "sign"] ["self", "word"] (defScope s_Reader_need) := ⟨rfl, rfl, rfl, by decide +kernel, rfl, by decide +kernel, by decide +kernel⟩
theorem ok_need (T : Txt K mg a) {B : Bytes} : Ok P w K mg base (L2.CX P w) 3 a.need ["self", "word"] (spNeed K a.CR a.CN B) := by
  obtain ⟨fd, F⟩ := T.dNeed
  obtain ⟨fdN, GN, bN⟩ := ok_next (P := P) (w := w) (base := base) (B := B) T
  obtain ⟨fdF, GF, bF⟩ := ok_fail (P := P) (w := w) (base := base) (B := B) T
  refine ⟨fd, F.okX scNeed (fun vs H Q E h => ?_) (fun cdv A outer s H vs Q E hr h => ⟨_,
    pss_one (ps_for (passes_of rfl) rfl (pi_str (pv 1)) (pg_name (i := 2) scNeed.nd rfl (Or.inl rfl))
      (pss_cons (ps_expr (pe_meth (pv 0) T.clR T.mFail GF hr bF .nil (hxT (takes_of rfl rfl rfl rfl)) (pa_cons (pe_cmpR op_eq (pe_meth0 (pv 0) T.clR T.mNext GN (hr.mono (by decide)) bN .nil pass0)
          (pe_callB call_ord (by rfl) T.ord (by decide +kernel) (pa_cons (pv 2) pa_nil)) (nomark _)) pa_nil)))
        (pss_one (ps_fldaug (pv 0) pe_int in_add)))), ?_⟩),
    F.binds fun _ _ _ _ _ _ us hl => match us, hl with | [_, _], _ => rfl⟩
  · obtain ⟨r, _, p, wd, bs, rfl, _⟩ := h
    rfl
  · obtain ⟨r, ta, p, wd, bs, rfl, R, hb, o1, o2⟩ := h
    have hlen : bs.length = wd.cps.size := by
      have := congrArg List.length hb
      simpa using this.symm
    refine ⟨_, rfl, wd, rfl, for_str (fun i σ H' => ∃ v : Option V, σ = [some (.ref r), some (.str wd), v] ∧ RdAt K a.CR B H' r ta (p + i) ∧ But r H H' ∧ bytes_ bs (at_ B p) = bytes_ (bs.drop i) (at_ B (p + i)))
      ⟨none, rfl, R, But.refl, rfl⟩ ?_ ?_⟩
    · rintro i c σ H1 hc ⟨v, rfl, R1, b1, e1⟩
      obtain ⟨d, hd, hdc⟩ : ∃ d : UInt8, bs[i]? = some d ∧ c = d.toNat := by
        have z : wd.cps.toList[i]? = some c := by simpa using hc
        rw [hb, List.getElem?_map] at z
        cases q : bs[i]? with
        | none => rw [q] at z; cases z
        | some d => rw [q] at z; exact ⟨d, rfl, (Option.some.inj z).symm⟩
      subst hdc
      have e2 : bs.drop i = d :: bs.drop (i + 1) := by
        rw [List.drop_eq_getElem?_toList_append, hd]
        rfl
      rw [e2, bytes_cons] at e1
      obtain ⟨dr, hr1⟩ := R1.ob
      refine ⟨_, rfl, r, dr, _, rfl, hr1, rF_no _ _ (by decide +kernel) (by decide +kernel), ⟨_, rfl, r, dr, _, rfl, hr1, rF_no _ _ (by decide +kernel) (by decide +kernel), r, ta, p + i, rfl, R1, _, rfl, _, rfl, rfl, rfl, ?_⟩⟩
      have iff := nb_is (B := B) (p := p + i) (c := d)
      refine ⟨r, ta, p + i, _, rfl, R1, fun g => ?_, fun g => ?_⟩
      · have g1 := V.int.inj (of_decide_eq_true g)
        have g2 : B[p + i]? = some d := iff.mp g1
        refine ⟨_, rfl, r, _, dr, _, _, rfl, hr1, T.clR, T.nAt, rF_at _ _, _, _, rfl, rfl, dr, _, hr1, (by show 2 < 1000; decide), ?_⟩
        have lt : p + i < B.length := (List.getElem?_eq_some_iff.mp g2).1
        have pe : putF "at" (.int ((p + i : Nat) + 1 : Int)) (rF ta (p + i)) = rF ta (p + (i + 1)) := rF_put ta (p + i) (p + i + 1)
        rw [pe]
        refine ⟨_, rfl, R1.moved hr1 (by omega), b1.trans but_upd, ?_⟩
        rw [e1, bind_ok (byte_yes g2)]
        rfl
      · have g1 : ¬ B[p + i]? = some d := fun z => by
          have g2 := of_decide_eq_false g
          exact g2 (congrArg V.int (iff.mpr z))
        rw [bind_er (byte_no g1)] at e1
        exact o2 _ e1
    · rintro σ H1 ⟨v, rfl, R1, b1, e1⟩
      rw [← hlen, List.drop_length] at e1
      rw [← hlen] at R1
      exact o1 () (p + bs.length) e1 (by omega) .non H1 R1 b1 rfl
/-! ### readings in short -/
section
variable {CR : Addr} {B : Bytes} {r ta : Addr} {p i : Nat} {σ : L2.St} {H : Hp} {Q : VK} {E : XK}
theorem r_at (T : Txt K mg a) (hσ : σ[i]? = some (some (.ref r))) (R : RdAt K a.CR B H r ta p) (h : Q (.int p) H) : tFld K (tVar i) "at" σ H Q := by
  obtain ⟨dr, hr1⟩ := R.ob
  exact ⟨_, hσ, r, _, dr, _, _, rfl, hr1, T.clR, T.nAt, rF_at _ _, h⟩
theorem r_t (T : Txt K mg a) (hσ : σ[i]? = some (some (.ref r))) (R : RdAt K a.CR B H r ta p) (h : Q (.ref ta) H) : tFld K (tVar i) "t" σ H Q := by
  obtain ⟨dr, hr1⟩ := R.ob
  exact ⟨_, hσ, r, _, dr, _, _, rfl, hr1, T.clR, T.nT, rF_t _ _, h⟩
theorem r_next (hσ : σ[i]? = some (some (.ref r))) (R : RdAt K CR B H r ta p) (h : Q (.int (nb B p)) H) : tMeth CR "next_byte" (spNext K CR B) [] E0 (tVar i) tNil σ H Q := by
  obtain ⟨dr, hr1⟩ := R.ob
  exact ⟨_, hσ, r, dr, _, rfl, hr1, rF_no _ _ (by decide +kernel) (by decide +kernel), r, ta, p, rfl, R, h⟩
theorem r_meth {m : Str} {sp : Sp} {t : TA} (hσ : σ[i]? = some (some (.ref r))) (R : RdAt K CR B H r ta p) (h1 : (m == ("t" : Str)) = false) (h2 : (m == ("at" : Str)) = false) (h : t σ H fun vs H2 => sp (.ref r :: (vs ++ [])) H2 Q E) : tMeth CR m sp [] E (tVar i) t σ H Q := by
  obtain ⟨dr, hr1⟩ := R.ob
  exact ⟨_, hσ, r, dr, _, rfl, hr1, rF_no _ _ h1 h2, h⟩
/-- self.at += 1 -/
theorem r_step (T : Txt K mg a) {D : Ends} (hσ : σ[i]? = some (some (.ref r))) (R : RdAt K a.CR B H r ta p) (hl : p < B.length) (h : ∀ H', RdAt K a.CR B H' r ta (p + 1) → But r H H' → D.nx σ H') :
    sFldAug K (tVar i) (tC (.int 1)) L2.rAdd "at" D σ H := by
  obtain ⟨dr, hr1⟩ := R.ob
  refine ⟨_, hσ, r, _, dr, _, _, rfl, hr1, T.clR, T.nAt, rF_at _ _, _, _, rfl, rfl, dr, _, hr1, (by show 2 < 1000; decide), ?_⟩
  have pe : putF "at" (.int ((p : Nat) + 1 : Int)) (rF ta p) = rF ta (p + 1) := rF_put ta p (p + 1)
  rw [pe]
  exact h _ (R.moved hr1 hl) but_upd
end
theorem nb_lt {B : Bytes} {q : Nat} (h : nb B q ≠ 256) : q < B.length := by
  rcases nb_cases (B := B) (p := q) with ⟨_, _, _, l⟩ | ⟨_, e⟩
  · exact l
  · exact absurd e h
theorem fits_lt {B : Bytes} {q : Nat} {i : Int} (h : fitsN (nb B q) i = true) : q < B.length := nb_lt fun e => by
  rw [e, fits_end] at h
  cases h
theorem digit_lt {B : Bytes} {q : Nat} (h : digit (nb B q) = true) : q < B.length := nb_lt fun e => by
  rw [e, digit_end] at h
  cases h
theorem cut_V {B : Bytes} {p q : Nat} (h : p ≤ q) (hq : q ≤ B.length) : cutV (bytesV B) (some (p : Int)) (some (q : Int)) = bytesV (cut B p q) := by
  unfold cutV cut
  rw [HT.sIx_nat, HT.sIx_nat, bytesV_len, Nat.min_eq_left (Nat.le_trans h hq), Nat.min_eq_left hq]
  unfold bytesV
  rw [← List.map_drop, ← List.map_take]
/-! ### read_name -/
def NameV (n : Bytes) (v : V) (H : Hp) : Prop := ∃ l, v = .ref l ∧ H l = some (.lst (bytesV n))
def spRd {α : Type} (K : PySem.W.Frag) (CR CN : Addr) (B : Bytes) (m : Rd α) (RV : α → V → Hp → Prop) : Sp := fun vs H Q E => ∃ r ta p, vs = [.ref r] ∧ RdAt K CR B H r ta p ∧ Out K CR CN B r ta p H m RV Q E
theorem scName : FnScope ["self", "start"] ["self"] (defScope s_Reader_read_name) := ⟨rfl, rfl, rfl, by decide +kernel, rfl, by decide +kernel, by decide +kernel⟩
theorem ok_name (T : Txt K mg a) {B : Bytes} : Ok P w K mg base (L2.CX P w) 3 a.rname ["self"] (spRd K a.CR a.CN B name_ NameV) := by
  obtain ⟨fd, F⟩ := T.dName
  obtain ⟨t1, h1⟩ := T.cName
  obtain ⟨fdN, GN, bN⟩ := ok_next (P := P) (w := w) (base := base) (B := B) T
  obtain ⟨fdF, GF, bF⟩ := ok_fail (P := P) (w := w) (base := base) (B := B) T
  obtain ⟨fdI, GI, bI⟩ := ok_fits (P := P) (w := w) (base := base) T
  refine ⟨fd, F.okX scName (fun vs H Q E h => ?_) (fun cdv A outer s H vs Q E hr h => ⟨_,
    pss_cons (ps_set (i := 1) scName.nd rfl (Or.inl rfl) (pe_fld (pv 0) rfl))
      (pss_cons (ps_while (passes_of rfl) (PW.pt (pw_and (pt_cmpR op_lt (pe_op op_sub (pe_fld (pv 0) rfl) (pv 1)) (pe_glob (v := .int 8) rfl h1 ⟨_, rfl⟩) (nomark _))
          (pw_and1 (pt_val (pe_call GI hr rfl T.gFits T.kFits bI .nil pass0 (pa_cons (pe_meth0 (pv 0) T.clR T.mNext GN (hr.mono (by decide)) bN .nil pass0) (pa_cons (pe_op op_sub (pe_fld (pv 0) rfl) (pv 1)) pa_nil)))))))
        (pss_one (ps_fldaug (pv 0) pe_int in_add)))
      (pss_cons (ps_expr (pe_meth (pv 0) T.clR T.mFail GF hr bF .nil (hxT (takes_of rfl rfl rfl rfl)) (pa_cons (pe_cmpR op_gt (pe_fld (pv 0) rfl) (pv 1) (nomark _)) pa_nil)))
      (pss_one (ps_ret (pe_slice sl_list (pe_fld (pv 0) rfl) (po_some (pv 1)) (po_some (pe_fld (pv 0) rfl))))))), ?_⟩),
    F.binds fun _ _ _ _ _ _ us hl => match us, hl with | [_], _ => rfl⟩
  · obtain ⟨r, _, p, rfl, _⟩ := h
    rfl
  · obtain ⟨r, ta, p, rfl, R, o1, o2⟩ := h
    obtain ⟨d0, hr0⟩ := R.ob
    refine ⟨_, rfl, r, _, d0, _, _, rfl, hr0, T.clR, T.nAt, rF_at _ _, fun m σ H' => ∃ q, m = 8 - (q - p) ∧ σ = [some (.ref r), some (.int p)] ∧ RdAt K a.CR B H' r ta q ∧ But r H H' ∧ NameAt B p q, ⟨_, p, rfl, rfl, R, But.refl, NameAt.start R.le⟩, ?_⟩
    rintro m σ H1 ⟨q, rfl, rfl, R1, b1, N⟩
    obtain ⟨dr, hr1⟩ := R1.ob
    -- behind the loop
    have fin : (q - p = 8 ∨ fitsN (nb B q) ((q : Int) - p) = false) → (tSeq (tDrop (tMeth a.CR "fail_unless" (spFail K a.CR a.CN B) [] E (tVar 0) (tCons (tOp (rI0 fun i j => .bl (decide (j < i))) (tFld K (tVar 0) "at") (tVar 1)) tNil)))
        (tRet (tSl (rSlL K) (tFld K (tVar 0) "t") (tPart (tVar 1)) (tPart (tFld K (tVar 0) "at"))))) { nx := fun _ H' => Q .non H', rt := Q } [some (.ref r), some (.int p)] H1 := fun stop => by
      refine ⟨_, rfl, r, dr, _, rfl, hr1, rF_no _ _ (by decide +kernel) (by decide +kernel), _, rfl, r, _, dr, _, _, rfl, hr1, T.clR, T.nAt, rF_at _ _, _, rfl, _, _, rfl, rfl, r, ta, q, _, rfl, R1, fun g => ?_, fun g => ?_⟩
      · have hpq : p < q := by have := of_decide_eq_true g; omega
        refine ⟨_, rfl, r, _, dr, _, _, rfl, hr1, T.clR, T.nT, rF_t _ _, _, rfl, _, rfl, _, rfl, r, _, dr, _, _, rfl, hr1, T.clR, T.nAt, rF_at _ _, _, rfl, ta, _, rfl, R1.tx, fun l hl => ?_⟩
        rw [cut_V (Nat.le_of_lt hpq) R1.le]
        exact o1 _ q (N.stop stop hpq) N.lo _ _ (R1.but (same_new hl)) (b1.trans (But.of (same_new hl))) ⟨l, rfl, upd_same⟩
      · have hpq : q = p := by have := of_decide_eq_false g; have := N.lo; omega
        subst hpq
        refine o2 q (NameAt.none ?_)
        rcases stop with z | z
        · omega
        · exact z
    refine ⟨_, rfl, r, _, dr, _, _, rfl, hr1, T.clR, T.nAt, rF_at _ _, _, rfl, _, _, rfl, rfl, _, _, rfl, rfl, _, rfl, ?_⟩
    by_cases c8 : ((q : Int) - p < 8)
    · refine iteT' (decide_eq_true c8) ⟨_, rfl, r, dr, _, rfl, hr1, rF_no _ _ (by decide +kernel) (by decide +kernel), r, ta, q, rfl, R1, _, rfl, r, _, dr, _, _, rfl, hr1, T.clR, T.nAt, rF_at _ _, _, rfl, _, _, rfl, rfl, _, _, rfl, _, rfl, ?_⟩
      cases cf : fitsN (nb B q) ((q : Int) - p) with
      | true =>
        refine iteT ⟨fun σ' H' => ∃ m', m' < 8 - (q - p) ∧ ∃ q', m' = 8 - (q' - p) ∧ σ' = [some (.ref r), some (.int p)] ∧ RdAt K a.CR B H' r ta q' ∧ But r H H' ∧ NameAt B p q', fun _ _ z => z, ?_⟩
        have lt := fits_lt cf
        have hlo := N.lo
        refine r_step T rfl R1 lt fun H2 R2 b2 => ⟨8 - (q + 1 - p), by omega, q + 1, rfl, rfl, R2, b1.trans b2, N.step (by omega) cf⟩
      | false => exact iteF (fin (.inr cf))
    · refine iteF' (decide_eq_false c8) (iteF (fin (.inl ?_)))
      have := N.lo
      have := N.hi
      omega
/-! ### read_number -/
def IntV (n : Nat) (v : V) (_ : Hp) : Prop := v = .int (n : Nat)
def spNum (K : PySem.W.Frag) (CR CN : Addr) (B : Bytes) : Sp := fun vs H Q E => ∃ r ta p hi, vs = [.ref r, .int ((hi : Nat) : Int)] ∧ hi ≤ 9999 ∧ RdAt K CR B H r ta p ∧ Out K CR CN B r ta p H (num 1 hi) IntV Q E
theorem scNum : FnScope ["self", "most", "value", "longer"] ["self", "most"] (defScope s_Reader_read_number) := ⟨rfl, rfl, rfl, by decide +kernel, rfl, by decide +kernel, by decide +kernel⟩
theorem nb_nat (B : Bytes) (q : Nat) : 0 ≤ nb B q ∧ nb B q ≤ 256 := by
  rcases nb_cases (B := B) (p := q) with ⟨c, _, e, _⟩ | ⟨_, e⟩
  · rw [e]
    have := u8_lt c
    omega
  · rw [e]
    omega
theorem ok_num (T : Txt K mg a) {B : Bytes} : Ok P w K mg base (L2.CX P w) 3 a.rnum ["self", "most"] (spNum K a.CR a.CN B) := by
  obtain ⟨fd, F⟩ := T.dNum
  obtain ⟨fdN, GN, bN⟩ := ok_next (P := P) (w := w) (base := base) (B := B) T
  obtain ⟨fdF, GF, bF⟩ := ok_fail (P := P) (w := w) (base := base) (B := B) T
  obtain ⟨fdD, GD, bD⟩ := ok_digit (P := P) (w := w) (base := base) T
  refine ⟨fd, F.okX scNum (fun vs H Q E h => ?_) (fun cdv A outer s H vs Q E hr h => ⟨_,
    pss_cons (ps_set (i := 2) scNum.nd rfl (Or.inl rfl) pe_int)
      (pss_cons (ps_while (passes_of rfl) (pt_val (pe_call GD (hr.mono (by decide)) rfl T.gDigit T.kDigit bD .nil pass0 (pa_cons (pe_meth0 (pv 0) T.clR T.mNext GN (hr.mono (by decide)) bN .nil pass0) pa_nil)))
        (pss_cons (ps_set (i := 3) scNum.nd rfl (Or.inl rfl) (pe_op op_sub (pe_op op_add (pe_op op_mul (pv 2) pe_int) (pe_meth0 (pv 0) T.clR T.mNext GN (hr.mono (by decide)) bN .nil pass0))
            (pe_callB call_ord (by rfl) T.ord (by decide +kernel) (pa_cons pe_str pa_nil))))
        (pss_cons (ps_if (PW.pt (pw_or (pt_cmpR op_lt (pv 3) pe_int (nomark _)) (pw_or1 (pt_cmpR op_gt (pv 3) (pv 1) (nomark _))))) (pss_one ps_break) pss_nil)
        (pss_cons (ps_set (i := 2) scNum.nd rfl (Or.inl rfl) (pv 3))
        (pss_one (ps_fldaug (pv 0) pe_int in_add))))))
      (pss_cons (ps_expr (pe_meth (pv 0) T.clR T.mFail GF hr bF .nil (hxT (takes_of rfl rfl rfl rfl)) (pa_cons (pe_cmpR op_gt (pv 2) pe_int (nomark _)) pa_nil)))
      (pss_one (ps_ret (pv 2))))), ?_⟩),
    F.binds fun _ _ _ _ _ _ us hl => match us, hl with | [_, _], _ => rfl⟩
  · obtain ⟨r, _, p, hi, rfl, _⟩ := h
    rfl
  · obtain ⟨r, ta, p, hi, rfl, hh, R, o1, o2⟩ := h
    refine ⟨fun m σ H' => ∃ q v x, m = 5 - (q - p) ∧ σ = [some (.ref r), some (.int ((hi : Nat) : Int)), some (.int ((v : Nat) : Int)), x] ∧ RdAt K a.CR B H' r ta q ∧ But r H H' ∧ NumAt hi B p q v,
      ⟨_, p, 0, none, rfl, rfl, R, But.refl, NumAt.start R.le⟩, ?_⟩
    rintro m σ H1 ⟨q, v, x, rfl, rfl, R1, b1, N⟩
    obtain ⟨dr, hr1⟩ := R1.ob
    have few := N.few hh
    have fin : ∀ x, (digit (nb B q) = true → ¬ (1 ≤ v * 10 + nb B q - 48 ∧ v * 10 + nb B q - 48 ≤ (hi : Int))) → (tSeq (tDrop (tMeth a.CR "fail_unless" (spFail K a.CR a.CN B) [] E (tVar 0) (tCons (tOp (rI0 fun i j => .bl (decide (j < i))) (tVar 2) (tC (.int 0))) tNil)))
        (tRet (tVar 2))) { nx := fun _ H' => Q .non H', rt := Q } [some (.ref r), some (.int ((hi : Nat) : Int)), some (.int ((v : Nat) : Int)), x] H1 := fun x stop => by
      have e := N.stop hh stop
      refine ⟨_, rfl, r, dr, _, rfl, hr1, rF_no _ _ (by decide +kernel) (by decide +kernel), _, rfl, _, _, rfl, rfl, r, ta, q, _, rfl, R1, fun g => ?_, fun g => ?_⟩
      · have hv : 0 < v := by have := of_decide_eq_true g; omega
        rw [if_pos hv] at e
        exact ⟨_, rfl, o1 v q e N.lo _ _ R1 b1 rfl⟩
      · have hv : ¬ 0 < v := by have := of_decide_eq_false g; omega
        rw [if_neg hv] at e
        exact o2 q e
    refine ⟨_, rfl, r, dr, _, rfl, hr1, rF_no _ _ (by decide +kernel) (by decide +kernel), r, ta, q, rfl, R1, _, rfl, _, rfl, ?_⟩
    cases cd : digit (nb B q) with
    | false => exact iteF (fin x fun z => by rw [cd] at z; cases z)
    | true =>
      refine iteT ⟨fun σ' H' => ∃ m', m' < 5 - (q - p) ∧ ∃ q' v' x', m' = 5 - (q' - p) ∧ σ' = [some (.ref r), some (.int ((hi : Nat) : Int)), some (.int ((v' : Nat) : Int)), x'] ∧ RdAt K a.CR B H' r ta q' ∧ But r H H' ∧ NumAt hi B p q' v', fun _ _ z => z, ?_⟩
      have hnb := nb_nat B q
      have hvle := N.le
      have lt := digit_lt cd
      refine ⟨_, rfl, _, _, rfl, rfl, .inl ⟨by omega, by omega⟩, _, rfl, r, dr, _, rfl, hr1, rF_no _ _ (by decide +kernel) (by decide +kernel), r, ta, q, rfl, R1, _, _, rfl, rfl, _, rfl, rfl, _, _, rfl, rfl, ?_⟩
      refine ⟨_, rfl, _, _, rfl, rfl, _, rfl, ?_⟩
      by_cases c1 : (v : Int) * 10 + nb B q - 48 < 1
      · refine iteT' (decide_eq_true c1) (iteT ?_)
        exact fin _ fun _ z => by omega
      · refine iteF' (decide_eq_false c1) ⟨_, rfl, _, rfl, _, _, rfl, rfl, _, rfl, ?_⟩
        by_cases c2 : (hi : Int) < (v : Int) * 10 + nb B q - 48
        · refine iteT' (decide_eq_true c2) ?_
          exact fin _ fun _ z => by omega
        · refine iteF' (decide_eq_false c2) ?_
          obtain ⟨u, hu⟩ : ∃ u : Nat, (u : Int) = (v : Int) * 10 + nb B q - 48 := ⟨((v : Int) * 10 + nb B q - 48).toNat, by omega⟩
          refine ⟨_, rfl, r_step T rfl R1 lt fun H2 R2 b2 => ?_⟩
          have hlo := N.lo
          refine ⟨5 - (q + 1 - p), by omega, q + 1, u, some (.int ((u : Nat) : Int)), rfl, ?_, R2, b1.trans b2, N.step hh cd hu (by omega) (by omega)⟩
          show [some (V.ref r), some (V.int ((hi : Nat) : Int)), some (V.int ((v : Int) * 10 + nb B q - 48)), some (V.int ((v : Int) * 10 + nb B q - 48))] = _
          rw [← hu]
/-! ### read_sign -/
def PlaceV (pl : BrPart.Place) (v : V) (_ : Hp) : Prop := v = .int (pl.byte.toNat : Int)
theorem scRsign : FnScope ["self", "sign"] ["self"] (defScope s_Reader_read_sign) := ⟨rfl, rfl, rfl, by decide +kernel, rfl, by decide +kernel, by decide +kernel⟩
theorem ok_rsign (T : Txt K mg a) {B : Bytes} : Ok P w K mg base (L2.CX P w) 3 a.rsign ["self"] (spRd K a.CR a.CN B place_ PlaceV) := by
  obtain ⟨fd, F⟩ := T.dRsign
  obtain ⟨fdN, GN, bN⟩ := ok_next (P := P) (w := w) (base := base) (B := B) T
  obtain ⟨fdF, GF, bF⟩ := ok_fail (P := P) (w := w) (base := base) (B := B) T
  obtain ⟨fdS, GS, bS⟩ := ok_sign (P := P) (w := w) (base := base) T
  refine ⟨fd, F.okX scRsign (fun vs H Q E h => ?_) (fun cdv A outer s H vs Q E hr h => ⟨_,
    pss_cons (ps_set (i := 1) scRsign.nd rfl (Or.inl rfl) (pe_meth0 (pv 0) T.clR T.mNext GN (hr.mono (by decide)) bN .nil pass0))
      (pss_cons (ps_expr (pe_meth (pv 0) T.clR T.mFail GF hr bF .nil (hxT (takes_of rfl rfl rfl rfl)) (pa_cons (pe_call GS (hr.mono (by decide)) rfl T.gSign T.kSign bS .nil pass0 (pa_cons (pv 1) pa_nil)) pa_nil)))
      (pss_cons (ps_fldaug (pv 0) pe_int in_add)
      (pss_one (ps_ret (pv 1))))), ?_⟩),
    F.binds fun _ _ _ _ _ _ us hl => match us, hl with | [_], _ => rfl⟩
  · obtain ⟨r, _, p, rfl, _⟩ := h
    rfl
  · obtain ⟨r, ta, p, rfl, R, o1, o2⟩ := h
    obtain ⟨dr, hr1⟩ := R.ob
    refine ⟨_, rfl, r, dr, _, rfl, hr1, rF_no _ _ (by decide +kernel) (by decide +kernel), r, ta, p, rfl, R, _, rfl, r, dr, _, rfl, hr1, rF_no _ _ (by decide +kernel) (by decide +kernel), _, rfl, _, rfl, fun H1 s1 => ?_⟩
    have R1 := R.but s1
    refine ⟨r, ta, p, _, rfl, R1, fun g => ?_, fun g => ?_⟩
    · obtain ⟨pl, h1, h2, h3⟩ := sign_yes g
      refine r_step T rfl R1 h3 fun H2 R2 b2 => ⟨_, rfl, ?_⟩
      exact o1 pl (p + 1) (place_yes h1) (Nat.le_succ _) _ _ R2 ((But.of s1).trans b2) (by show V.int (nb B p) = _; rw [h2])
    · exact o2 p (place_no (sign_no g))
end
end St
set_option Elab.async false
set_option linter.all false
set_option maxRecDepth 100000
set_option maxHeartbeats 4000000
namespace St
open PySem PySem.Spec PyProof.Rows L2 PySem.Jx RdM BrPart BrRead
/-! ### the dict of the cells -/
def keyOf (wd dp i : Nat) : List Key := [.inl ((i % wd : Nat) : Int), .inl ((i / wd % dp : Nat) : Int), .inl ((i / wd / dp : Nat) : Int)]
def cellAt (wd dp : Nat) (x : BrPart.Place × Nat) : Option (List Key × V) := if x.1 = .none then none else some (keyOf wd dp x.2, .int (x.1.byte.toNat : Int))
def cellsOf (wd dp : Nat) (L : List BrPart.Place) : List (List Key × V) := L.zipIdx.filterMap (cellAt wd dp)
theorem cells_none {wd dp : Nat} {L : List BrPart.Place} : cellsOf wd dp (L ++ [.none]) = cellsOf wd dp L := by
  unfold cellsOf
  rw [List.zipIdx_append, List.filterMap_append]
  simp [cellAt]
theorem cells_some {wd dp : Nat} {L : List BrPart.Place} {pl : BrPart.Place} (h : pl ≠ .none) : cellsOf wd dp (L ++ [pl]) = cellsOf wd dp L ++ [(keyOf wd dp L.length, .int (pl.byte.toNat : Int))] := by
  unfold cellsOf
  rw [List.zipIdx_append, List.filterMap_append]
  simp [cellAt, h]
theorem cells_len {wd dp : Nat} (L : List BrPart.Place) : (cellsOf wd dp L).length ≤ L.length := by
  have h := List.length_filterMap_le (cellAt wd dp) L.zipIdx
  rw [List.length_zipIdx] at h
  exact h
theorem keyOf_inj {wd dp i j : Nat} (h : keyOf wd dp i = keyOf wd dp j) : i = j := by
  unfold keyOf at h
  have h1 := Sum.inl.inj (List.cons.inj h).1
  have h2 := Sum.inl.inj (List.cons.inj (List.cons.inj h).2).1
  have h3 := Sum.inl.inj (List.cons.inj (List.cons.inj (List.cons.inj h).2).2).1
  have e1 : i % wd = j % wd := by omega
  have e2 : i / wd % dp = j / wd % dp := by omega
  have e3 : i / wd / dp = j / wd / dp := by omega
  have e4 : i / wd = j / wd := by
    rw [← Nat.div_add_mod (i / wd) dp, ← Nat.div_add_mod (j / wd) dp, e2, e3]
  rw [← Nat.div_add_mod i wd, ← Nat.div_add_mod j wd, e1, e4]
theorem cells_mem {wd dp : Nat} {L : List BrPart.Place} {k : List Key} {v : V} (h : (k, v) ∈ cellsOf wd dp L) : ∃ i pl, L[i]? = some pl ∧ pl ≠ .none ∧ k = keyOf wd dp i ∧ v = .int (pl.byte.toNat : Int) := by
  unfold cellsOf at h
  obtain ⟨⟨pl, i⟩, hm, hc⟩ := List.mem_filterMap.mp h
  have hm2 := List.mem_zipIdx_iff_getElem?.mp hm
  unfold cellAt at hc
  by_cases z : pl = .none
  · rw [if_pos z] at hc
    cases hc
  · rw [if_neg z] at hc
    have hc2 := Option.some.inj hc
    exact ⟨i, pl, hm2, z, (Prod.mk.inj hc2).1.symm, (Prod.mk.inj hc2).2.symm⟩
theorem cells_new {wd dp : Nat} {L : List BrPart.Place} : valV (cellsOf wd dp L) (keyOf wd dp L.length) = none := by
  cases e : valV (cellsOf wd dp L) (keyOf wd dp L.length) with
  | none => rfl
  | some v =>
    have hm := valV_in e
    obtain ⟨⟨k, v'⟩, hm, hk⟩ := List.mem_map.mp hm
    obtain ⟨i, pl, hi, _, hk2, _⟩ := cells_mem hm
    have hk3 : k = keyOf wd dp L.length := hk
    rw [hk3] at hk2
    have hij := keyOf_inj hk2
    have hlt := (List.getElem?_eq_some_iff.mp hi).1
    omega
theorem key_at {wd dp x y z : Nat} (hx : x < wd) (hy : y < dp) : keyOf wd dp ((z * dp + y) * wd + x) = [.inl (x : Int), .inl (y : Int), .inl (z : Int)] := by
  have hw : 0 < wd := by omega
  have hd : 0 < dp := by omega
  unfold keyOf
  have e1 : ((z * dp + y) * wd + x) % wd = x := by
    rw [Nat.mul_comm, Nat.mul_add_mod, Nat.mod_eq_of_lt hx]
  have e2 : ((z * dp + y) * wd + x) / wd = z * dp + y := by
    rw [Nat.mul_comm, Nat.mul_add_div hw, Nat.div_eq_of_lt hx, Nat.add_zero]
  have e3 : (z * dp + y) % dp = y := by
    rw [Nat.mul_comm, Nat.mul_add_mod, Nat.mod_eq_of_lt hy]
  have e4 : (z * dp + y) / dp = z := by
    rw [Nat.mul_comm, Nat.mul_add_div hd, Nat.div_eq_of_lt hy, Nat.add_zero]
  rw [e1, e2, e3, e4]
theorem byte_ne {pl : BrPart.Place} (h : pl ≠ .none) : (pl.byte.toNat : Int) ≠ 46 := by
  cases pl with
  | none => exact absurd rfl h
  | cell s t => cases s <;> cases t <;> decide
section
variable {P : Program} {w : World} {K : PySem.W.Frag} {mg : Str → Option Value} {base : Heap} {a : Ad}
/-! ### read_cells -/
def CellsV (wd dp : Nat) (L : List BrPart.Place) (v : V) (H : Hp) : Prop := ∃ c, v = .ref c ∧ H c = some (.dT (cellsOf wd dp L))
def spCells (K : PySem.W.Frag) (CR CN : Addr) (B : Bytes) : Sp := fun vs H Q E => ∃ r ta p wd dp ht, vs = [.ref r, .int ((wd : Nat) : Int), .int ((dp : Nat) : Int), .int ((ht : Nat) : Int)] ∧ wd ≤ 16 ∧ dp ≤ 16 ∧ ht ≤ 18 ∧
  RdAt K CR B H r ta p ∧ Out K CR CN B r ta p H (rowsM wd (dp * ht) []) (CellsV wd dp) Q E
theorem scCells : FnScope ["self", "width", "depth", "height", "cells", "z", "y", "x", "sign"] ["self", "width", "depth", "height"] (defScope s_Reader_read_cells) := ⟨rfl, rfl, rfl, by decide +kernel, rfl, by decide +kernel, by decide +kernel⟩
theorem ok_cells (T : Txt K mg a) {B : Bytes} : Ok P w K mg base (L2.CX P w) 4 a.rcells ["self", "width", "depth", "height"] (spCells K a.CR a.CN B) := by
  obtain ⟨fd, F⟩ := T.dCells
  obtain ⟨t1, h46⟩ := T.c46
  obtain ⟨fdS, GS, bS⟩ := ok_rsign (P := P) (w := w) (base := base) (B := B) T
  obtain ⟨fdN, GN, bN⟩ := ok_need (P := P) (w := w) (base := base) (B := B) T
  refine ⟨fd, F.okX scCells (fun vs H Q E h => ?_) (fun cdv A outer s H vs Q E hr h => ⟨_,
    pss_cons (ps_set (i := 4) scCells.nd rfl (Or.inl rfl) pe_dnewT)
      (pss_cons (ps_for (passes_of rfl) rfl (pi_range1 rfl T.range (pa_cons (pv 3) pa_nil)) (pg_name (i := 5) scCells.nd rfl (Or.inl rfl))
        (pss_one (ps_for (passes_of rfl) rfl (pi_range1 rfl T.range (pa_cons (pv 2) pa_nil)) (pg_name (i := 6) scCells.nd rfl (Or.inl rfl))
          (pss_cons (ps_for (passes_of rfl) rfl (pi_range1 rfl T.range (pa_cons (pv 1) pa_nil)) (pg_name (i := 7) scCells.nd rfl (Or.inl rfl))
            (pss_cons (ps_set (i := 8) scCells.nd rfl (Or.inl rfl) (pe_meth0 (pv 0) T.clR T.mSign GS hr bS .nil (hxT (takes_of rfl rfl rfl rfl))))
            (pss_one (ps_if (pt_cmpR op_ne (pv 8) (pe_glob (v := .int 46) rfl h46 ⟨_, rfl⟩) (nomark _))
              (pss_one (ps_dput (hu_of hr) (pv 4) (pe_tup (pa_cons (pv 7) (pa_cons (pv 6) (pa_cons (pv 5) pa_nil)))) (pv 8) rfl)) pss_nil))))
          (pss_one (ps_expr (pe_meth (pv 0) T.clR T.mNeed GN hr bN .nil (hxT (takes_of rfl rfl rfl rfl)) (pa_cons pe_str pa_nil))))))))
      (pss_one (ps_ret (pv 4)))), ?_⟩),
    F.binds fun _ _ _ _ _ _ us hl => match us, hl with | [_, _, _, _], _ => rfl⟩
  · obtain ⟨r, _, p, wd, dp, ht, rfl, _⟩ := h
    rfl
  · obtain ⟨r, ta, p, wd, dp, ht, rfl, hw, hd, hh, R, o1, o2⟩ := h
    intro c hc
    have big : ∀ n, n ≤ 5000 → n < sizeLine := fun n hn => Nat.lt_of_le_of_lt hn (by decide)
    have sz : dp * ht * wd ≤ 4608 := by
      have z1 : dp * ht ≤ 16 * 18 := Nat.mul_le_mul hd hh
      exact Nat.le_trans (Nat.mul_le_mul z1 hw) (by decide)
    refine ⟨_, rfl, ((ht : Nat) : Int), rfl, by omega, by omega, for_range (lo := 0) (n := ht) (fun z σ H' => ∃ (q : Nat) (L : List BrPart.Place) (v1 v2 v3 v4 : Option V),
      σ = [some (.ref r), some (.int ((wd : Nat) : Int)), some (.int ((dp : Nat) : Int)), some (.int ((ht : Nat) : Int)), some (.ref c), v1, v2, v3, v4] ∧ RdAt K a.CR B H' r ta q ∧ But r H H' ∧ H' c = some (.dT (cellsOf wd dp L)) ∧ p ≤ q ∧
      L.length = z * dp * wd ∧ rowsM wd (dp * ht) [] (at_ B p) = rowsM wd (dp * ht - z * dp) L (at_ B q))
      ⟨p, [], none, none, none, none, rfl, R.but (same_new hc), But.of (same_new hc), upd_same, Nat.le_refl _, by simp, by simp⟩ ?_ ?_⟩
    · rintro z σ H1 hz ⟨q, L, v1, v2, v3, v4, rfl, R1, b1, hc1, hq1, hL, e1⟩
      have hzd : z * dp + dp ≤ dp * ht := by
        have z1 : (z + 1) * dp ≤ ht * dp := Nat.mul_le_mul_right dp hz
        rw [Nat.add_mul, Nat.one_mul, Nat.mul_comm ht dp] at z1
        exact z1
      refine ⟨_, rfl, ((dp : Nat) : Int), rfl, by omega, by omega, for_range (lo := 0) (n := dp) (fun y σ H' => ∃ (q : Nat) (L : List BrPart.Place) (v2 v3 v4 : Option V),
        σ = [some (.ref r), some (.int ((wd : Nat) : Int)), some (.int ((dp : Nat) : Int)), some (.int ((ht : Nat) : Int)), some (.ref c), some (.int (0 + (z : Int))), v2, v3, v4] ∧ RdAt K a.CR B H' r ta q ∧ But r H H' ∧ H' c = some (.dT (cellsOf wd dp L)) ∧ p ≤ q ∧
        L.length = (z * dp + y) * wd ∧ rowsM wd (dp * ht) [] (at_ B p) = rowsM wd (dp * ht - (z * dp + y)) L (at_ B q))
        ⟨q, L, v2, v3, v4, rfl, R1, b1, hc1, hq1, by simpa using hL, by simpa using e1⟩ ?_ ?_⟩
      · rintro y σ H2 hy ⟨q2, L2, v2, v3, v4, rfl, R2, b2, hc2, hq2, hL2, e2⟩
        have e2' : rowsM wd (dp * ht) [] (at_ B p) = rowM wd wd (dp * ht - (z * dp + y) - 1) L2 (at_ B q2) := by
          rw [e2]
          have z1 : dp * ht - (z * dp + y) = (dp * ht - (z * dp + y) - 1) + 1 := by omega
          rw [z1, rows_succ]
          rfl
        have hrow : (z * dp + y) * wd + wd ≤ dp * ht * wd := by
          have z1 : (z * dp + y + 1) * wd ≤ dp * ht * wd := Nat.mul_le_mul_right wd (by omega)
          rw [Nat.add_mul, Nat.one_mul] at z1
          exact z1
        refine ⟨_, rfl, ((wd : Nat) : Int), rfl, by omega, by omega, for_range (lo := 0) (n := wd) (fun x σ H' => ∃ (q : Nat) (L : List BrPart.Place) (v3 v4 : Option V),
          σ = [some (.ref r), some (.int ((wd : Nat) : Int)), some (.int ((dp : Nat) : Int)), some (.int ((ht : Nat) : Int)), some (.ref c), some (.int (0 + (z : Int))), some (.int (0 + (y : Int))), v3, v4] ∧ RdAt K a.CR B H' r ta q ∧ But r H H' ∧ H' c = some (.dT (cellsOf wd dp L)) ∧ p ≤ q ∧
          L.length = (z * dp + y) * wd + x ∧ rowsM wd (dp * ht) [] (at_ B p) = rowM wd (wd - x) (dp * ht - (z * dp + y) - 1) L (at_ B q))
          ⟨q2, L2, v3, v4, rfl, R2, b2, hc2, hq2, by simpa using hL2, by simpa using e2'⟩ ?_ ?_⟩
        · rintro x σ H3 hx ⟨q3, L3, v3, v4, rfl, R3, b3, hc3, hq3, hL3, e3⟩
          have z1 : wd - x = (wd - (x + 1)) + 1 := by omega
          rw [z1, row_succ] at e3
          obtain ⟨dr, hr3⟩ := R3.ob
          refine ⟨_, rfl, r, dr, _, rfl, hr3, rF_no _ _ (by decide +kernel) (by decide +kernel), r, ta, q3, rfl, R3, fun pl q4 hpl hle v H4 R4 b4 rv => ?_, fun f hf => o2 f (by rw [e3, bind_er hf])⟩
          have rv' : v = .int (pl.byte.toNat : Int) := rv
          subst rv'
          rw [bind_ok hpl] at e3
          have hc4 := b4 c _ hc3 (ne_of hc3 hr3 (by intro z; cases z))
          refine ⟨_, rfl, rfl, _, rfl, ?_⟩
          by_cases hn : pl = .none
          · subst hn
            refine iteF' (by decide) ⟨q4, L3 ++ [.none], some (.int (0 + (x : Int))), _, rfl, R4, b3.trans b4, by rw [cells_none]; exact hc4, by omega, by rw [List.length_append, hL3, List.length_singleton, Nat.add_assoc], e3⟩
          · refine iteT' (by rw [decide_eq_false (fun z => byte_ne hn (V.int.inj z))]; rfl) ⟨_, rfl, _, rfl, _, rfl, _, rfl, _, rfl, (by show 3 ≤ sizeLine; decide), fun t0 ht0 => ?_⟩
            have hct : upd H4 t0 (.tup [.int (0 + (x : Int)), .int (0 + (y : Int)), .int (0 + (z : Int))]) c = some (.dT (cellsOf wd dp L3)) := same_new ht0 _ _ hc4
            have lenL : (cellsOf wd dp L3).length < sizeLine := big _ (by have := cells_len (wd := wd) (dp := dp) L3; omega)
            have kx : ([.inl (x : Int), .inl (y : Int), .inl (z : Int)] : List Key).map kV = [.int (0 + (x : Int)), .int (0 + (y : Int)), .int (0 + (z : Int))] := by
              simp only [List.map_cons, List.map_nil, kV, Int.zero_add]
            refine ⟨c, _, rfl, DPut.t (k := [.inl (x : Int), .inl (y : Int), .inl (z : Int)]) hct (by rw [kx]; exact upd_same) lenL, ?_⟩
            have kk := key_at (z := z) hx hy
            have pk : putK (cellsOf wd dp L3) [.inl (x : Int), .inl (y : Int), .inl (z : Int)] (.int (pl.byte.toNat : Int)) = cellsOf wd dp (L3 ++ [pl]) := by
              rw [← kk, ← hL3, putK_new _ cells_new, cells_some hn]
            rw [pk]
            have hc0 : ∀ b o, H b = some o → b ≠ c := fun b o e z => by rw [z, hc] at e; cases e
            have R5 := R4.but (same_new (o := .tup [.int (0 + (x : Int)), .int (0 + (y : Int)), .int (0 + (z : Int))]) ht0)
            obtain ⟨⟨d5, hr5⟩, tx5, le5⟩ := R5
            have rc : r ≠ c := ne_of hr5 hct (by intro z; cases z)
            have tx6 : SqL K (upd (upd H4 t0 (.tup [.int (0 + (x : Int)), .int (0 + (y : Int)), .int (0 + (z : Int))])) c (.dT (cellsOf wd dp (L3 ++ [pl])))) ta (bytesV B) := by
              rcases tx5 with (h | ⟨o, h⟩) | h
              · exact .inl (.inl (by rw [upd_ne (ne_of h hct (by intro z; cases z))]; exact h))
              · exact .inl (.inr ⟨o, by rw [upd_ne (ne_of h hct (by intro z; cases z))]; exact h⟩)
              · exact .inr h
            refine ⟨q4, L3 ++ [pl], some (.int (0 + (x : Int))), _, rfl, ⟨⟨d5, by rw [upd_ne rc]; exact hr5⟩, tx6, le5⟩, fun b o e n => ?_, upd_same, by omega, by rw [List.length_append, hL3, List.length_singleton, Nat.add_assoc], e3⟩
            rw [upd_ne (hc0 b o e)]
            exact same_new ht0 _ _ (b4 b o (b3 b o e n) n)
        · rintro σ H3 ⟨q3, L3, v3, v4, rfl, R3, b3, hc3, hq3, hL3, e3⟩
          rw [Nat.sub_self, row_zero] at e3
          obtain ⟨dr, hr3⟩ := R3.ob
          refine ⟨_, rfl, r, dr, _, rfl, hr3, rF_no _ _ (by decide +kernel) (by decide +kernel), r, ta, q3, _, [10], rfl, R3, by decide +kernel, fun _ q4 hb hle v H4 R4 b4 rv => ?_, fun f hf => o2 f (by rw [bytes_one] at hf; rw [e3, bind_er hf])⟩
          rw [bytes_one] at hb
          rw [bind_ok hb] at e3
          refine ⟨q4, L3, _, v3, v4, rfl, R4, b3.trans b4, b4 c _ hc3 (ne_of hc3 hr3 (by intro z; cases z)), by omega, ?_, ?_⟩
          · rw [hL3, ← Nat.add_assoc, Nat.add_mul (z * dp + y) 1, Nat.one_mul]
          · rw [e3, Nat.sub_sub, Nat.add_assoc]
      · rintro σ H2 ⟨q2, L2, v2, v3, v4, rfl, R2, b2, hc2, hq2, hL2, e2⟩
        have z1 : (z + 1) * dp = z * dp + dp := by rw [Nat.add_mul, Nat.one_mul]
        exact ⟨q2, L2, _, v2, v3, v4, rfl, R2, b2, hc2, hq2, by rw [z1]; exact hL2, by rw [z1]; exact e2⟩
    · rintro σ H1 ⟨q, L, v1, v2, v3, v4, rfl, R1, b1, hc1, hq1, hL, e1⟩
      have z1 : dp * ht - ht * dp = 0 := by rw [Nat.mul_comm]; exact Nat.sub_self _
      rw [z1, rows_zero] at e1
      exact ⟨_, rfl, o1 L q e1 hq1 _ H1 R1 b1 ⟨c, rfl, hc1⟩⟩
end
end St
set_option Elab.async false
set_option linter.all false
set_option maxRecDepth 100000
set_option maxHeartbeats 4000000
namespace St
open PySem PySem.Spec PyProof.Rows L2 PySem.Jx RdM BrPart BrRead
/-! ### parts in the heap -/
def pF (nl : Addr) (w d h g : Nat) (c : Addr) : List (Str × V) := [("name", .ref nl), ("width", .int (w : Nat)), ("depth", .int (d : Nat)), ("height", .int (h : Nat)), ("weight", .int (g : Nat)), ("cells", .ref c)]
theorem pF_name {nl c : Addr} {w d h g : Nat} : (pF nl w d h g c).lookup ("name" : Str) = some (.ref nl) := lk_here
theorem pF_width {nl c : Addr} {w d h g : Nat} : (pF nl w d h g c).lookup ("width" : Str) = some (.int (w : Nat)) := (lk_past (by decide +kernel)).trans lk_here
theorem pF_depth {nl c : Addr} {w d h g : Nat} : (pF nl w d h g c).lookup ("depth" : Str) = some (.int (d : Nat)) := (lk_past (by decide +kernel)).trans ((lk_past (by decide +kernel)).trans lk_here)
theorem pF_height {nl c : Addr} {w d h g : Nat} : (pF nl w d h g c).lookup ("height" : Str) = some (.int (h : Nat)) := (lk_past (by decide +kernel)).trans ((lk_past (by decide +kernel)).trans ((lk_past (by decide +kernel)).trans lk_here))
theorem pF_weight {nl c : Addr} {w d h g : Nat} : (pF nl w d h g c).lookup ("weight" : Str) = some (.int (g : Nat)) := (lk_past (by decide +kernel)).trans ((lk_past (by decide +kernel)).trans ((lk_past (by decide +kernel)).trans ((lk_past (by decide +kernel)).trans lk_here)))
theorem pF_cells {nl c : Addr} {w d h g : Nat} : (pF nl w d h g c).lookup ("cells" : Str) = some (.ref c) := (lk_past (by decide +kernel)).trans ((lk_past (by decide +kernel)).trans ((lk_past (by decide +kernel)).trans ((lk_past (by decide +kernel)).trans ((lk_past (by decide +kernel)).trans lk_here))))
structure PartAt (CP : Addr) (H : Hp) (pp : Addr) (x : Part) (dp nl c : Addr) : Prop where
  ob : H pp = some (.ins CP dp (pF nl x.wide x.deep x.high x.weight c))
  nm : H nl = some (.lst (bytesV x.name))
  cl : H c = some (.dT (cellsOf x.wide x.deep x.places))
theorem PartAt.same {CP : Addr} {H H' : Hp} {pp dp nl c : Addr} {x : Part} (A : PartAt CP H pp x dp nl c) (s : Same H H') : PartAt CP H' pp x dp nl c := ⟨s _ _ A.ob, s _ _ A.nm, s _ _ A.cl⟩
def IsPart (CP : Addr) (H : Hp) (pp : Addr) (x : Part) : Prop := ∃ dp nl c, PartAt CP H pp x dp nl c
theorem IsPart.same {CP : Addr} {H H' : Hp} {pp : Addr} {x : Part} (A : IsPart CP H pp x) (s : Same H H') : IsPart CP H' pp x := by
  obtain ⟨dp, nl, c, h⟩ := A
  exact ⟨dp, nl, c, h.same s⟩
theorem rF_pF {CR CP dr dp : Addr} {ta nl c : Addr} {q w d h g : Nat} : HO.ins CP dp (pF nl w d h g c) ≠ HO.ins CR dr (rF ta q) := by
  intro z
  have e := (HO.ins.inj z).2.2
  have e2 := congrArg List.length e
  exact absurd e2 (by show (6 : Nat) ≠ 2; decide)
theorem IsPart.but {CP CR : Addr} {H H' : Hp} {pp r dr ta : Addr} {q : Nat} {x : Part} (A : IsPart CP H pp x) (hr : H r = some (.ins CR dr (rF ta q))) (b : But r H H') : IsPart CP H' pp x := by
  obtain ⟨dp, nl, c, h1, h2, h3⟩ := A
  exact ⟨dp, nl, c, b _ _ h1 (ne_of h1 hr rF_pF), b _ _ h2 (ne_of h2 hr (by intro z; cases z)), b _ _ h3 (ne_of h3 hr (by intro z; cases z))⟩
def PartV (CP : Addr) (x : Part) (v : V) (H : Hp) : Prop := ∃ pp, v = .ref pp ∧ IsPart CP H pp x
structure PartsAt (CP : Addr) (H : Hp) (l : Addr) (as : List Addr) (ps : List Part) : Prop where
  ob : H l = some (.lst (as.map V.ref))
  len : as.length = ps.length
  it : ∀ (i : Nat) (pp : Addr) (x : Part), as[i]? = some pp → ps[i]? = some x → IsPart CP H pp x
theorem PartsAt.same {CP : Addr} {H H' : Hp} {l : Addr} {as : List Addr} {ps : List Part} (A : PartsAt CP H l as ps) (s : Same H H') : PartsAt CP H' l as ps := ⟨s _ _ A.ob, A.len, fun i pp x h1 h2 => (A.it i pp x h1 h2).same s⟩
section
variable {P : Program} {w : World} {K : PySem.W.Frag} {mg : Str → Option Value} {base : Heap} {a : Ad}
/-! ### Reader.__init__, Part.__init__ -/
def spIR (C : Addr) : Sp := fun vs H Q _ => ∃ (p dx ta : Addr), vs = [.ref p, .ref ta] ∧ H p = some (.ins C dx []) ∧ ∀ H' : Hp, H' p = some (.ins C dx (rF ta 0)) → (∀ b o, H b = some o → b ≠ p → H' b = some o) → Q .non H'
theorem scIR : FnScope ["self", "t"] ["self", "t"] (defScope s_Reader_init) := ⟨rfl, rfl, rfl, by decide +kernel, rfl, by decide +kernel, by decide +kernel⟩
theorem ok_iR (T : Txt K mg a) : Ok P w K mg base CX0 1 a.iR ["self", "t"] (spIR a.CR) := by
  obtain ⟨fd, F⟩ := T.dIR
  refine ⟨fd, F.ok scIR (fun vs H Q E h => ?_) (fun cdv A outer s H vs Q E hr h => ⟨_, pss_cons (ps_fld (pv 0) (pv 1) rfl) (pss_one (ps_fld (pv 0) pe_int rfl)), ?_⟩),
    F.binds fun _ _ _ _ _ _ us hl => match us, hl with | [_, _], _ => rfl⟩
  · obtain ⟨p, dx, ta, rfl, _⟩ := h
    rfl
  · obtain ⟨p, dx, ta, rfl, hp, k⟩ := h
    refine ⟨_, rfl, _, rfl, p, _, dx, [], rfl, hp, T.clR, T.nT, (by show 0 < 1000; decide), ?_⟩
    refine ⟨_, rfl, p, _, dx, _, rfl, upd_same, T.clR, T.nAt, (by show 1 < 1000; decide), ?_⟩
    refine k _ (Eq.trans upd_same (congrArg (fun q => some (HO.ins a.CR dx q)) ?_)) fun b o e hb => by
      rw [upd_ne hb, upd_ne hb]
      exact e
    exact (put_past (by decide +kernel)).trans rfl
def spIP (C : Addr) : Sp := fun vs H Q _ => ∃ (p dx nl c : Addr) (wd dp ht g : Nat), vs = [.ref p, .ref nl, .int (wd : Nat), .int (dp : Nat), .int (ht : Nat), .int (g : Nat), .ref c] ∧ H p = some (.ins C dx []) ∧
  ∀ H' : Hp, H' p = some (.ins C dx (pF nl wd dp ht g c)) → (∀ b o, H b = some o → b ≠ p → H' b = some o) → Q .non H'
theorem scIP : FnScope ["self", "name", "width", "depth", "height", "weight", "cells"] ["self", "name", "width", "depth", "height", "weight", "cells"] (defScope s_Part_init) := ⟨rfl, rfl, rfl, by decide +kernel, rfl, by decide +kernel, by decide +kernel⟩
theorem ok_iP (T : Txt K mg a) : Ok P w K mg base CX0 1 a.iP ["self", "name", "width", "depth", "height", "weight", "cells"] (spIP a.CP) := by
  obtain ⟨fd, F⟩ := T.dIP
  refine ⟨fd, F.ok scIP (fun vs H Q E h => ?_) (fun cdv A outer s H vs Q E hr h => ⟨_, pss_cons (ps_fld (pv 0) (pv 1) rfl) (pss_cons (ps_fld (pv 0) (pv 2) rfl) (pss_cons (ps_fld (pv 0) (pv 3) rfl)
      (pss_cons (ps_fld (pv 0) (pv 4) rfl) (pss_cons (ps_fld (pv 0) (pv 5) rfl) (pss_one (ps_fld (pv 0) (pv 6) rfl)))))), ?_⟩),
    F.binds fun _ _ _ _ _ _ us hl => match us, hl with | [_, _, _, _, _, _, _], _ => rfl⟩
  · obtain ⟨p, dx, nl, c, wd, dp, ht, g, rfl, _⟩ := h
    rfl
  · obtain ⟨p, dx, nl, c, wd, dp, ht, g, rfl, hp, k⟩ := h
    refine ⟨_, rfl, _, rfl, p, _, dx, [], rfl, hp, T.clP, T.nName, (by show 0 < 1000; decide), ?_⟩
    refine ⟨_, rfl, _, rfl, p, _, dx, [("name", .ref nl)], rfl, upd_same, T.clP, T.nWidth, (by show 1 < 1000; decide), ?_⟩
    refine ⟨_, rfl, _, rfl, p, _, dx, [("name", .ref nl), ("width", .int (wd : Nat))], rfl, Eq.trans upd_same (congrArg (fun q => some (HO.ins a.CP dx q)) ((put_past (by decide +kernel)).trans rfl)), T.clP, T.nDepth, (by show 2 < 1000; decide), ?_⟩
    refine ⟨_, rfl, _, rfl, p, _, dx, [("name", .ref nl), ("width", .int (wd : Nat)), ("depth", .int (dp : Nat))], rfl, Eq.trans upd_same (congrArg (fun q => some (HO.ins a.CP dx q)) ((put_past (by decide +kernel)).trans (congrArg _ ((put_past (by decide +kernel)).trans rfl)))), T.clP, T.nHeight, (by show 3 < 1000; decide), ?_⟩
    refine ⟨_, rfl, _, rfl, p, _, dx, [("name", .ref nl), ("width", .int (wd : Nat)), ("depth", .int (dp : Nat)), ("height", .int (ht : Nat))], rfl,
      Eq.trans upd_same (congrArg (fun q => some (HO.ins a.CP dx q)) ((put_past (by decide +kernel)).trans (congrArg _ ((put_past (by decide +kernel)).trans (congrArg _ ((put_past (by decide +kernel)).trans rfl)))))), T.clP, T.nWeight, (by show 4 < 1000; decide), ?_⟩
    refine ⟨_, rfl, _, rfl, p, _, dx, [("name", .ref nl), ("width", .int (wd : Nat)), ("depth", .int (dp : Nat)), ("height", .int (ht : Nat)), ("weight", .int (g : Nat))], rfl,
      Eq.trans upd_same (congrArg (fun q => some (HO.ins a.CP dx q)) ((put_past (by decide +kernel)).trans (congrArg _ ((put_past (by decide +kernel)).trans (congrArg _ ((put_past (by decide +kernel)).trans (congrArg _ ((put_past (by decide +kernel)).trans rfl)))))))), T.clP, T.nCells, (by show 5 < 1000; decide), ?_⟩
    refine k _ (Eq.trans upd_same (congrArg (fun q => some (HO.ins a.CP dx q)) ?_)) fun b o e hb => by
      rw [upd_ne hb, upd_ne hb, upd_ne hb, upd_ne hb, upd_ne hb, upd_ne hb]
      exact e
    exact (put_past (by decide +kernel)).trans (congrArg _ ((put_past (by decide +kernel)).trans (congrArg _ ((put_past (by decide +kernel)).trans (congrArg _ ((put_past (by decide +kernel)).trans (congrArg _ ((put_past (by decide +kernel)).trans rfl))))))))
/-! ### read_part -/
theorem num_range {B : Bytes} {hi p n : Nat} {s : Nat × Bytes} (hh : hi ≤ 9999) : ∀ fu v q, v ≤ hi → digits 1 hi fu (so v) (at_ B q) = .ok (n, s) → 1 ≤ n ∧ n ≤ hi
  | 0, v, q, _, h => by
    rw [digits.eq_def] at h
    cases h
  | fu + 1, v, q, hv, h => by
    by_cases c : ∃ c, B[q]? = some c ∧ isDigit c = true ∧ 1 ≤ 10 * v + (c.toNat - 48) ∧ 10 * v + (c.toNat - 48) ≤ hi
    · obtain ⟨c, h1, h2, h3, h4⟩ := c
      rw [digits_yes h1 h2 h3 h4] at h
      exact num_range (p := p) hh fu _ _ h4 h
    · rw [digits_no hv (fun d h1 h2 h3 => c ⟨d, h1, h2, h3⟩)] at h
      by_cases h0 : 0 < v
      · rw [if_pos h0] at h
        have e := Except.ok.inj h
        have e1 : v = n := (Prod.mk.inj e).1
        omega
      · rw [if_neg h0] at h
        cases h
theorem num_in {B : Bytes} {hi p n : Nat} {s : Nat × Bytes} (hh : hi ≤ 9999) (h : num 1 hi (at_ B p) = .ok (n, s)) : 1 ≤ n ∧ n ≤ hi := num_range (p := p) hh 20 0 p (Nat.zero_le _) h
theorem scPart : FnScope ["self", "name", "width", "depth", "height", "weight"] ["self"] (defScope s_Reader_read_part) := ⟨rfl, rfl, rfl, by decide +kernel, rfl, by decide +kernel, by decide +kernel⟩
theorem ok_part (T : Txt K mg a) {B : Bytes} : Ok P w K mg base (L2.CX P w) 5 a.rpart ["self"] (spRd K a.CR a.CN B part_ (PartV a.CP)) := by
  obtain ⟨fd, F⟩ := T.dPart
  obtain ⟨t1, hWide⟩ := T.cWide
  obtain ⟨t2, hHigh⟩ := T.cHigh
  obtain ⟨t3, hHeavy⟩ := T.cHeavy
  obtain ⟨fdE, GE, bE⟩ := ok_need (P := P) (w := w) (base := base) (B := B) T
  obtain ⟨fdN, GN, bN⟩ := ok_name (P := P) (w := w) (base := base) (B := B) T
  obtain ⟨fdU, GU, bU⟩ := ok_num (P := P) (w := w) (base := base) (B := B) T
  obtain ⟨fdC, GC, bC⟩ := ok_cells (P := P) (w := w) (base := base) (B := B) T
  obtain ⟨fdI, GI, bI⟩ := ok_iP (P := P) (w := w) (base := base) T
  refine ⟨fd, F.okX (k := 4) scPart (fun vs H Q E h => ?_) (fun cdv A outer s H vs Q E hr h => ⟨_,
    pss_cons (ps_expr (pe_meth (pv 0) T.clR T.mNeed GE (hr.mono (by decide)) bE .nil (hxT (takes_of rfl rfl rfl rfl)) (pa_cons pe_str pa_nil)))
    (pss_cons (ps_set (i := 1) scPart.nd rfl (Or.inl rfl) (pe_meth0 (pv 0) T.clR T.mName GN (hr.mono (by decide)) bN .nil (hxT (takes_of rfl rfl rfl rfl))))
    (pss_cons (ps_expr (pe_meth (pv 0) T.clR T.mNeed GE (hr.mono (by decide)) bE .nil (hxT (takes_of rfl rfl rfl rfl)) (pa_cons pe_str pa_nil)))
    (pss_cons (ps_set (i := 2) scPart.nd rfl (Or.inl rfl) (pe_meth (pv 0) T.clR T.mNum GU (hr.mono (by decide)) bU .nil (hxT (takes_of rfl rfl rfl rfl)) (pa_cons (pe_glob (v := .int 16) rfl hWide ⟨_, rfl⟩) pa_nil)))
    (pss_cons (ps_expr (pe_meth (pv 0) T.clR T.mNeed GE (hr.mono (by decide)) bE .nil (hxT (takes_of rfl rfl rfl rfl)) (pa_cons pe_str pa_nil)))
    (pss_cons (ps_set (i := 3) scPart.nd rfl (Or.inl rfl) (pe_meth (pv 0) T.clR T.mNum GU (hr.mono (by decide)) bU .nil (hxT (takes_of rfl rfl rfl rfl)) (pa_cons (pe_glob (v := .int 16) rfl hWide ⟨_, rfl⟩) pa_nil)))
    (pss_cons (ps_expr (pe_meth (pv 0) T.clR T.mNeed GE (hr.mono (by decide)) bE .nil (hxT (takes_of rfl rfl rfl rfl)) (pa_cons pe_str pa_nil)))
    (pss_cons (ps_set (i := 4) scPart.nd rfl (Or.inl rfl) (pe_meth (pv 0) T.clR T.mNum GU (hr.mono (by decide)) bU .nil (hxT (takes_of rfl rfl rfl rfl)) (pa_cons (pe_glob (v := .int 18) rfl hHigh ⟨_, rfl⟩) pa_nil)))
    (pss_cons (ps_expr (pe_meth (pv 0) T.clR T.mNeed GE (hr.mono (by decide)) bE .nil (hxT (takes_of rfl rfl rfl rfl)) (pa_cons pe_str pa_nil)))
    (pss_cons (ps_set (i := 5) scPart.nd rfl (Or.inl rfl) (pe_meth (pv 0) T.clR T.mNum GU (hr.mono (by decide)) bU .nil (hxT (takes_of rfl rfl rfl rfl)) (pa_cons (pe_glob (v := .int 9999) rfl hHeavy ⟨_, rfl⟩) pa_nil)))
    (pss_cons (ps_expr (pe_meth (pv 0) T.clR T.mNeed GE (hr.mono (by decide)) bE .nil (hxT (takes_of rfl rfl rfl rfl)) (pa_cons pe_str pa_nil)))
    (pss_one (ps_ret (pe_make T.mkP GI (hr.mono (by decide)) rfl T.gP bI .nil pass0 (pa_cons (pv 1) (pa_cons (pv 2) (pa_cons (pv 3) (pa_cons (pv 4) (pa_cons (pv 5) (pa_cons (pe_meth (pv 0) T.clR T.mCells GC hr bC .nil (hxT (takes_of rfl rfl rfl rfl)) (pa_cons (pv 2) (pa_cons (pv 3) (pa_cons (pv 4) pa_nil)))) pa_nil))))))))))))))))))), ?_⟩),
    F.binds fun _ _ _ _ _ _ us hl => match us, hl with | [_], _ => rfl⟩
  · obtain ⟨r, _, p, rfl, _⟩ := h
    rfl
  · obtain ⟨r, ta, p, rfl, R, o1, o2⟩ := h
    have e := congrFun (part_eq) (at_ B p)
    obtain ⟨d0, h0⟩ := R.ob
    refine ⟨_, rfl, r, d0, _, rfl, h0, rF_no _ _ (by decide +kernel) (by decide +kernel), r, ta, p, _, ascii "part ", rfl, R, by decide +kernel, fun _ q1 s1 l1 v1 H1 R1 b1 _ => ?_, fun f hf => o2 f (by rw [e, bind_er hf])⟩
    rw [bind_ok s1] at e
    obtain ⟨d1, h1⟩ := R1.ob
    refine ⟨_, rfl, r, d1, _, rfl, h1, rF_no _ _ (by decide +kernel) (by decide +kernel), r, ta, q1, rfl, R1, fun nm q2 s2 l2 v2 H2 R2 b2 ⟨nl, ev, hnl⟩ => ?_, fun f hf => o2 f (by rw [e, bind_er hf])⟩
    subst ev
    rw [bind_ok s2] at e
    obtain ⟨d2, h2⟩ := R2.ob
    refine ⟨_, rfl, r, d2, _, rfl, h2, rF_no _ _ (by decide +kernel) (by decide +kernel), r, ta, q2, _, [32], rfl, R2, by decide +kernel, fun _ q3 s3 l3 v3 H3 R3 b3 _ => ?_, fun f hf => o2 f (by rw [e, bind_er hf])⟩
    rw [bind_ok s3] at e
    have n3 := b3 _ _ hnl (ne_of hnl h2 (by intro z; cases z))
    obtain ⟨d3, h3⟩ := R3.ob
    refine ⟨_, rfl, r, d3, _, rfl, h3, rF_no _ _ (by decide +kernel) (by decide +kernel), r, ta, q3, 16, rfl, by decide, R3, fun wd q4 s4 l4 v4 H4 R4 b4 ev => ?_, fun f hf => o2 f (by rw [e, bind_er hf])⟩
    unfold IntV at ev
    subst ev
    rw [bind_ok s4] at e
    have n4 := b4 _ _ n3 (ne_of n3 h3 (by intro z; cases z))
    obtain ⟨d4, h4⟩ := R4.ob
    refine ⟨_, rfl, r, d4, _, rfl, h4, rF_no _ _ (by decide +kernel) (by decide +kernel), r, ta, q4, _, [32], rfl, R4, by decide +kernel, fun _ q5 s5 l5 v5 H5 R5 b5 _ => ?_, fun f hf => o2 f (by rw [e, bind_er hf])⟩
    rw [bind_ok s5] at e
    have n5 := b5 _ _ n4 (ne_of n4 h4 (by intro z; cases z))
    obtain ⟨d5, h5⟩ := R5.ob
    refine ⟨_, rfl, r, d5, _, rfl, h5, rF_no _ _ (by decide +kernel) (by decide +kernel), r, ta, q5, 16, rfl, by decide, R5, fun dp q6 s6 l6 v6 H6 R6 b6 ev => ?_, fun f hf => o2 f (by rw [e, bind_er hf])⟩
    unfold IntV at ev
    subst ev
    rw [bind_ok s6] at e
    have n6 := b6 _ _ n5 (ne_of n5 h5 (by intro z; cases z))
    obtain ⟨d6, h6⟩ := R6.ob
    refine ⟨_, rfl, r, d6, _, rfl, h6, rF_no _ _ (by decide +kernel) (by decide +kernel), r, ta, q6, _, [32], rfl, R6, by decide +kernel, fun _ q7 s7 l7 v7 H7 R7 b7 _ => ?_, fun f hf => o2 f (by rw [e, bind_er hf])⟩
    rw [bind_ok s7] at e
    have n7 := b7 _ _ n6 (ne_of n6 h6 (by intro z; cases z))
    obtain ⟨d7, h7⟩ := R7.ob
    refine ⟨_, rfl, r, d7, _, rfl, h7, rF_no _ _ (by decide +kernel) (by decide +kernel), r, ta, q7, 18, rfl, by decide, R7, fun ht q8 s8 l8 v8 H8 R8 b8 ev => ?_, fun f hf => o2 f (by rw [e, bind_er hf])⟩
    unfold IntV at ev
    subst ev
    rw [bind_ok s8] at e
    have n8 := b8 _ _ n7 (ne_of n7 h7 (by intro z; cases z))
    obtain ⟨d8, h8⟩ := R8.ob
    refine ⟨_, rfl, r, d8, _, rfl, h8, rF_no _ _ (by decide +kernel) (by decide +kernel), r, ta, q8, _, [32], rfl, R8, by decide +kernel, fun _ q9 s9 l9 v9 H9 R9 b9 _ => ?_, fun f hf => o2 f (by rw [e, bind_er hf])⟩
    rw [bind_ok s9] at e
    have n9 := b9 _ _ n8 (ne_of n8 h8 (by intro z; cases z))
    obtain ⟨d9, h9⟩ := R9.ob
    refine ⟨_, rfl, r, d9, _, rfl, h9, rF_no _ _ (by decide +kernel) (by decide +kernel), r, ta, q9, 9999, rfl, by decide, R9, fun g qa sa la va Ha Ra ba ev => ?_, fun f hf => o2 f (by rw [e, bind_er hf])⟩
    unfold IntV at ev
    subst ev
    rw [bind_ok sa] at e
    have na := ba _ _ n9 (ne_of n9 h9 (by intro z; cases z))
    obtain ⟨da, ha⟩ := Ra.ob
    refine ⟨_, rfl, r, da, _, rfl, ha, rF_no _ _ (by decide +kernel) (by decide +kernel), r, ta, qa, _, [10], rfl, Ra, by decide +kernel, fun _ qb sb lb vb Hb Rb bb _ => ?_, fun f hf => o2 f (by rw [e, bind_er hf])⟩
    rw [bind_ok sb] at e
    have nb := bb _ _ na (ne_of na ha (by intro z; cases z))
    obtain ⟨db, hb⟩ := Rb.ob
    have w1 := num_in (by decide) s4
    have w2 := num_in (by decide) s6
    have w3 := num_in (by decide) s8
    refine ⟨_, rfl, _, rfl, _, rfl, _, rfl, _, rfl, _, rfl, r, db, _, rfl, hb, rF_no _ _ (by decide +kernel) (by decide +kernel), _, rfl, _, rfl, _, rfl, r, ta, qb, wd, dp, ht, rfl, w1.2, w2.2, w3.2, Rb, fun L qc sc lc vc Hc Rc bc ⟨c, evc, hc⟩ => ?_, fun f hf => o2 f (by rw [e, bind_er hf])⟩
    subst evc
    rw [bind_ok sc] at e
    have nc := bc _ _ nb (ne_of nb hb (by intro z; cases z))
    intro x dx nx ndx nex
    have sN : Same Hc (upd (upd Hc dx (.own x)) x (.ins a.CP dx [])) := fun b o q => by
      rw [upd_ne (ne_of_none q nx), upd_ne (ne_of_none q ndx)]
      exact q
    refine ⟨x, dx, nl, c, wd, dp, ht, g, rfl, upd_same, fun Hd hob hkp => ⟨rfl, ?_⟩⟩
    have sD : Same Hc Hd := fun b o q => hkp b o (sN b o q) (ne_of_none q nx)
    refine o1 ⟨nm, wd, dp, ht, g, L⟩ qc e (by omega) _ Hd (Rc.but sD) ?_ ⟨x, rfl, dx, nl, c, hob, sD _ _ nc, sD _ _ hc⟩
    exact b1.trans (b2.trans (b3.trans (b4.trans (b5.trans (b6.trans (b7.trans (b8.trans (b9.trans (ba.trans (bb.trans (bc.trans (But.of sD))))))))))))
end
end St
set_option Elab.async false
set_option linter.all false
set_option maxRecDepth 100000
set_option maxHeartbeats 4000000
namespace St
open PySem PySem.Spec PyProof.Rows L2 PySem.Jx RdM BrPart BrRead
theorem ref_ne_bytes {l : List Addr} {n : Bytes} (h : l ≠ []) : HO.lst (bytesV n) ≠ HO.lst (l.map V.ref) := by
  intro z
  have e := HO.lst.inj z
  cases l with
  | nil => exact h rfl
  | cons x l =>
    cases n with
    | nil => cases e
    | cons c n => cases (List.cons.inj e).1
theorem IsPart.list {CP : Addr} {H : Hp} {pp l : Addr} {x : Part} {as : List Addr} {o : HO} (A : IsPart CP H pp x) (hl : H l = some (.lst (as.map V.ref))) (h : as ≠ []) : IsPart CP (upd H l o) pp x := by
  obtain ⟨dp, nl, c, h1, h2, h3⟩ := A
  exact ⟨dp, nl, c, by rw [upd_ne (ne_of h1 hl (by intro z; cases z))]; exact h1, by rw [upd_ne (ne_of h2 hl (ref_ne_bytes h))]; exact h2, by rw [upd_ne (ne_of h3 hl (by intro z; cases z))]; exact h3⟩
section
variable {P : Program} {w : World} {K : PySem.W.Frag} {mg : Str → Option Value} {base : Heap} {a : Ad}
def spRcat (K : PySem.W.Frag) (CP CN : Addr) : Sp := fun vs H Q E => ∃ (ta : Addr) (B : Bytes), vs = [.ref ta] ∧ SqL K H ta (bytesV B) ∧ B.length ≤ 100000 ∧
  (∀ ps, readC B = .ok ps → ∀ l as H', Same H H' → PartsAt CP H' l as ps → Q (.ref l) H') ∧ ∀ f, readC B = .error f → Fails CN f E
theorem scRcat : FnScope ["t", "reader", "parts"] ["t"] (defScope s_read_catalogue) := ⟨rfl, rfl, rfl, by decide +kernel, rfl, by decide +kernel, by decide +kernel⟩
theorem ok_rcat (T : Txt K mg a) : Ok P w K mg base (L2.CX P w) 6 a.rcat ["t"] (spRcat K a.CP a.CN) := by
  obtain ⟨fd, F⟩ := T.dRcat
  obtain ⟨t1, hBytes⟩ := T.cBytes
  obtain ⟨t2, hParts⟩ := T.cParts
  refine ⟨fd, F.okX (k := 5) scRcat (fun vs H Q E h => ?_) (fun cdv A outer s H vs Q E hr h => ?_), F.binds fun _ _ _ _ _ _ us hl => match us, hl with | [_], _ => rfl⟩
  · obtain ⟨ta, B, rfl, _⟩ := h
    rfl
  obtain ⟨ta, B, rfl, tx, hB, o1, o2⟩ := h
  obtain ⟨fdP, GP, bP⟩ := ok_part (P := P) (w := w) (base := base) (B := B) T
  obtain ⟨fdF, GF, bF⟩ := ok_fail (P := P) (w := w) (base := base) (B := B) T
  obtain ⟨fdI, GI, bI⟩ := ok_iR (P := P) (w := w) (base := base) T
  refine ⟨_, pss_cons (ps_if (pt_cmpR op_gt (pe_callB call_len (by rfl) T.len (by decide +kernel) (pa_cons (pv 0) pa_nil)) (pe_glob (v := .int 1048576) rfl hBytes ⟨_, rfl⟩) (nomark _)) (pss_one ps_never) pss_nil)
    (pss_cons (ps_set (i := 1) scRcat.nd rfl (Or.inl rfl) (pe_make T.mkR GI (hr.mono (by decide)) rfl T.gR bI .nil pass0 (pa_cons (pv 0) pa_nil)))
    (pss_cons (ps_set (i := 2) scRcat.nd rfl (Or.inl rfl) (pe_lst (pa_cons (pe_meth0 (pv 1) T.clR T.mPart GP hr bP .nil (hxT (takes_of rfl rfl rfl rfl))) pa_nil)))
    (pss_cons (ps_while (passes_of rfl) (pt_cmpR op_lt (pe_fld (pv 1) rfl) (pe_callB call_len (by rfl) T.len (by decide +kernel) (pa_cons (pv 0) pa_nil)) (nomark _))
      (pss_cons (ps_expr (pe_meth (pv 1) T.clR T.mFail GF (hr.mono (by decide)) bF .nil (hxT (takes_of rfl rfl rfl rfl)) (pa_cons (pe_cmpR op_lt (pe_callB call_len (by rfl) T.len (by decide +kernel) (pa_cons (pv 2) pa_nil)) (pe_glob (v := .int 64) rfl hParts ⟨_, rfl⟩) (nomark _)) pa_nil)))
      (pss_one (ps_expr (pe_bm PySem.F.plainAttrs_list PySem.F.slot_list_append PySem.F.type_list_append mt_append (pv 2) (pa_cons (pe_meth0 (pv 1) T.clR T.mPart GP hr bP .nil (hxT (takes_of rfl rfl rfl rfl))) pa_nil))))))
    (pss_one (ps_ret (pv 2)))))), ?_⟩
  have e0 : readC B = ((part_ >>= fun x => restM 63 [x]) (at_ B 0)).map (·.1) := readC_eq
  have er : ∀ f, ((part_ >>= fun x => restM 63 [x]) : Rd Catalogue) (at_ B 0) = .error f → Fails a.CN f E := fun f hf => o2 f (by rw [e0, hf]; rfl)
  refine ⟨_, rfl, _, _, rfl, .inl ⟨_, tx, rfl⟩, _, _, rfl, rfl, _, rfl, ?_⟩
  refine iteF' (decide_eq_false (by rw [bytesV_len]; omega)) ?_
  refine ⟨_, rfl, ?_⟩
  intro r dx nr ndx nex
  have sN : Same H (upd (upd H dx (.own r)) r (.ins a.CR dx [])) := fun b o q => by
    rw [upd_ne (ne_of_none q nr), upd_ne (ne_of_none q ndx)]
    exact q
  refine ⟨r, dx, ta, rfl, upd_same, fun H1 hob hkp => ⟨rfl, ?_⟩⟩
  have s1 : Same H H1 := fun b o q => hkp b o (sN b o q) (ne_of_none q nr)
  have R1 : RdAt K a.CR B H1 r ta 0 := ⟨⟨dx, hob⟩, s1.seq tx, Nat.zero_le _⟩
  refine ⟨_, rfl, r, dx, _, rfl, hob, rF_no _ _ (by decide +kernel) (by decide +kernel), r, ta, 0, rfl, R1, fun x q hx hq v H2 R2 b2 ⟨pp, ev, hp⟩ => ?_, fun f hf => er f (bind_er hf)⟩
  subst ev
  have s2 : Same H H2 := fun b o e => b2 b o (s1 b o e) (ne_of_none e nr)
  refine ⟨(by show 1 ≤ sizeLine; decide), fun l hl => ?_⟩
  have eq1 : ((part_ >>= fun x => restM 63 [x]) : Rd Catalogue) (at_ B 0) = restM 63 [x] (at_ B q) := bind_ok hx
  have nl : H l = none := s2.free hl
  refine ⟨fun m σ H' => ∃ (q : Nat) (ps : List Part) (as : List Addr), m = 64 - ps.length ∧ σ = [some (.ref ta), some (.ref r), some (.ref l)] ∧ RdAt K a.CR B H' r ta q ∧ Same H H' ∧ PartsAt a.CP H' l as ps ∧ as ≠ [] ∧ ps.length ≤ 64 ∧
    ((part_ >>= fun x => restM 63 [x]) : Rd Catalogue) (at_ B 0) = restM (64 - ps.length) ps (at_ B q), ⟨63, q, [x], [pp], rfl, rfl, R2.but (same_new hl), s2.trans (same_new hl), ⟨upd_same, rfl, fun i pp' x' h1 h2 => ?_⟩, by simp, by simp, eq1⟩, ?_⟩
  · cases i with
    | zero =>
      have z1 : pp = pp' := Option.some.inj h1
      have z2 : x = x' := Option.some.inj h2
      subst z1 z2
      exact hp.same (same_new hl)
    | succ i => exact nomatch h1
  rintro m σ H3 ⟨q3, ps, as, rfl, rfl, R3, s3, A3, ne3, le3, eq3⟩
  obtain ⟨dr, hr3⟩ := R3.ob
  refine ⟨_, rfl, r, _, dr, _, _, rfl, hr3, T.clR, T.nAt, rF_at _ _, _, rfl, _, _, rfl, .inl ⟨_, R3.tx, rfl⟩, _, _, rfl, rfl, _, rfl, ?_⟩
  rw [bytesV_len]
  by_cases c : (q3 : Int) < (B.length : Int)
  · have c' : q3 < B.length := by omega
    refine iteT' (decide_eq_true c) ⟨fun σ' H' => ∃ m', m' < 64 - ps.length ∧ ∃ (q : Nat) (ps : List Part) (as : List Addr), m' = 64 - ps.length ∧ σ' = [some (.ref ta), some (.ref r), some (.ref l)] ∧ RdAt K a.CR B H' r ta q ∧ Same H H' ∧ PartsAt a.CP H' l as ps ∧ as ≠ [] ∧ ps.length ≤ 64 ∧
      ((part_ >>= fun x => restM 63 [x]) : Rd Catalogue) (at_ B 0) = restM (64 - ps.length) ps (at_ B q), fun _ _ z => z, ?_⟩
    have hlen : (as.map V.ref).length = ps.length := by rw [List.length_map]; exact A3.len
    refine ⟨_, rfl, r, dr, _, rfl, hr3, rF_no _ _ (by decide +kernel) (by decide +kernel), _, rfl, _, _, rfl, .inl ⟨_, SqL.of A3.ob, rfl⟩, _, _, rfl, rfl, r, ta, q3, _, rfl, R3, fun g => ?_, fun g => ?_⟩
    · have lt : ps.length < 64 := by
        have := of_decide_eq_true g
        rw [hlen] at this
        omega
      have z1 : 64 - ps.length = (64 - (ps.length + 1)) + 1 := by omega
      rw [z1, rest_more c'] at eq3
      refine ⟨_, rfl, .inl ⟨rfl, _, SqL.of A3.ob⟩, _, rfl, r, dr, _, rfl, hr3, rF_no _ _ (by decide +kernel) (by decide +kernel), r, ta, q3, rfl, R3, fun x4 q4 hx4 hq4 v4 H4 R4 b4 ⟨p4, ev4, hp4⟩ => ?_, fun f hf => er f (by rw [eq3, bind_er hf])⟩
      subst ev4
      rw [bind_ok hx4] at eq3
      have A4 := b4 _ _ A3.ob (ne_of A3.ob hr3 (by intro z; cases z))
      refine ⟨l, _, _, rfl, rfl, A4, (by rw [hlen]; exact Nat.lt_of_lt_of_le lt (by decide)), ?_⟩
      have s4 : Same H H4 := fun b o e => b4 b o (s3 b o e) (ne_of_none e nr)
      have lr : l ≠ r := ne_of A3.ob hr3 (by intro z; cases z)
      have R4' : RdAt K a.CR B (upd H4 l (.lst (as.map V.ref ++ [.ref p4]))) r ta q4 := by
        obtain ⟨⟨d4, h4⟩, tx4, le4⟩ := R4
        refine ⟨⟨d4, by rw [upd_ne (Ne.symm lr)]; exact h4⟩, ?_, le4⟩
        have sq : SqL K H ta (bytesV B) := tx
        have sU : Same H (upd H4 l (.lst (as.map V.ref ++ [.ref p4]))) := fun b o e => by rw [upd_ne (ne_of_none e nl)]; exact s4 b o e
        exact sU.seq sq
      refine ⟨64 - (ps.length + 1), by omega, q4, ps ++ [x4], as ++ [p4], by rw [List.length_append]; rfl, rfl, R4', fun b o e => by rw [upd_ne (ne_of_none e nl)]; exact s4 b o e, ⟨?_, ?_, fun i pp' x' h1 h2 => ?_⟩, by simp, by rw [List.length_append, List.length_singleton]; omega, ?_⟩
      · rw [List.map_append]
        exact upd_same
      · rw [List.length_append, List.length_append, A3.len]
        rfl
      · by_cases hi : i < ps.length
        · rw [List.getElem?_append_left hi] at h2
          rw [List.getElem?_append_left (by rw [A3.len]; exact hi)] at h1
          exact ((A3.it i pp' x' h1 h2).but hr3 b4).list A4 ne3
        · have h2l := (List.getElem?_eq_some_iff.mp h2).1
          rw [List.length_append, List.length_singleton] at h2l
          have hi2 : i = ps.length := by omega
          subst hi2
          rw [List.getElem?_append_right (Nat.le_refl _), Nat.sub_self] at h2
          rw [← A3.len, List.getElem?_append_right (Nat.le_refl _), Nat.sub_self] at h1
          have z1 : p4 = pp' := Option.some.inj h1
          have z2 : x4 = x' := Option.some.inj h2
          subst z1 z2
          exact hp4.list A4 ne3
      · rw [List.length_append]
        exact eq3
    · have eq64 : ps.length = 64 := by
        have := of_decide_eq_false g
        rw [hlen] at this
        omega
      rw [eq64, Nat.sub_self, rest_full c'] at eq3
      exact er q3 eq3
  · refine iteF' (decide_eq_false c) ⟨_, rfl, ?_⟩
    rw [rest_end (by omega)] at eq3
    exact o1 ps (by rw [e0, eq3]; rfl) l as H3 s3 A3
end
end St
set_option Elab.async false
set_option linter.all false
set_option maxRecDepth 100000
set_option maxHeartbeats 4000000
namespace St
open PySem PySem.Spec PyProof.Rows L2 PySem.Jx RdM BrPart BrRead
open PySem.W (Codec)
/-! ### the text as bytes -/
abbrev txt (ns : List Int) : Bytes := Neutral.text ns
theorem txt_V {ns : List Int} (h : ∀ x ∈ ns, 0 ≤ x ∧ x ≤ 255) : bytesV (txt ns) = ns.map V.int := by
  unfold bytesV txt Neutral.text
  rw [List.map_map]
  refine List.map_congr_left fun x hx => ?_
  obtain ⟨h0, h1⟩ := h x hx
  show V.int ((UInt8.ofNat x.toNat).toNat : Int) = V.int x
  have e : (UInt8.ofNat x.toNat).toNat = x.toNat := by
    rw [UInt8.toNat_ofNat']
    exact Nat.mod_eq_of_lt (by omega)
  rw [e]
  congr 1
  omega
theorem txt_len (ns : List Int) : (txt ns).length = ns.length := List.length_map ..
theorem looked {B : Bytes} (h : B.length ≤ 100000) : ¬ BrPartSpec.LOOKED < B.length := by
  show ¬ 1048576 < B.length
  omega
theorem judge_ok {ns : List Int} {ps : List Part} (hl : ns.length ≤ 100000) (h : readC (txt ns) = .ok ps) : PyWqasbw.judge ns = [(ps.length : Int)] := by
  show Neutral.shown (if BrPartSpec.LOOKED < (txt ns).length then BrPartSpec.no 2 else match readC (txt ns) with | .ok l => .nums [l.length] | .error i => .refused 6 [i]) = _
  rw [if_neg (looked (by rw [txt_len]; exact hl)), h]
  rfl
theorem judge_er {ns : List Int} {f : Nat} (hl : ns.length ≤ 100000) (h : readC (txt ns) = .error f) : PyWqasbw.judge ns = [-6, (f : Int)] := by
  show Neutral.shown (if BrPartSpec.LOOKED < (txt ns).length then BrPartSpec.no 2 else match readC (txt ns) with | .ok l => .nums [l.length] | .error i => .refused 6 [i]) = _
  rw [if_neg (looked (by rw [txt_len]; exact hl)), h]
  rfl
/-- an error of the class at S is what «except S» names -/
theorem exm_self {K : PySem.W.Frag} {S : Addr} (h1 : PySem.W.subIn K (.ref S) (.type "BaseException") = some true) (h2 : PySem.W.isClsIn K S = true) (h3 : PySem.W.typeIn K (.ref S) = some (.type "type")) (h4 : PySem.W.subIn K (.ref S) (.ref S) = some true) :
    PySem.W.exmOne K (.ref S) (.ref S) = some true := by
  have e1 : (PySem.W.subIn K (.ref S) (.type "BaseException") == some true) = true := by rw [h1] <;> rfl
  have e2 : ((PySem.W.clsIn K S).isSome && PySem.W.typeIn K (.ref S) == some (.type "type")) = true := by
    have h2' : (PySem.W.clsIn K S).isSome = true := h2
    rw [h2', h3] <;> rfl
  show (if (PySem.W.subIn K (.ref S) (.type "BaseException") == some true) = true then (if ((PySem.W.clsIn K S).isSome && PySem.W.typeIn K (.ref S) == some (.type "type")) = true then PySem.W.subIn K (.ref S) (.ref S) else none) else none) = some true
  rw [if_pos e1, if_pos e2]
  exact h4
section
variable {P : Program} {w : World} {K : PySem.W.Frag} {mg : Str → Option Value} {base : Heap} {a : Ad}
def rLen (K : PySem.W.Frag) : List V → Hp → VK → Prop := fun xs H Q => ∃ x n, xs = [x] ∧ LenV K x H n ∧ Q (.int (n : Nat)) H
def spJudge (K : PySem.W.Frag) : Sp := fun vs H Q _ => ∃ (ta : Addr) (ns : List Int), vs = [.ref ta] ∧ SqL K H ta (ns.map V.int) ∧ ns.length ≤ 100000 ∧ (∀ x ∈ ns, 0 ≤ x ∧ x ≤ 255) ∧
  ∀ (H' : Hp) (p : Addr), H' p = some (.lst ((PyWqasbw.judge ns).map V.int)) → Q (.ref p) H'
theorem scJudge : FnScope ["t", "e"] ["t"] (defScope s_judge) := ⟨rfl, rfl, rfl, by decide +kernel, rfl, by decide +kernel, by decide +kernel⟩
def sFault (K : PySem.W.Frag) : Suite := fun a0 cls d => tRet (tLst (tCons (tErrF K "number" a0 cls d (tVar 1)) (tCons (tErrF K "fault" a0 cls d (tVar 1)) tNil)))
def sNumber (K : PySem.W.Frag) : Suite := fun a0 cls d => tRet (tLst (tCons (tErrF K "number" a0 cls d (tVar 1)) tNil))
theorem ok_judge {f CRf : Addr} {fd : FuncData} (F : Fun K "judge" "judge" s_judge f fd) (T : Txt K mg a) (gRf : mg "Refused" = some (.ref CRf)) (nF : PySem.W.findIn K (.ref a.CN) "fault" = some none) :
    FnOk P w K mg base CX0 7 f fd ["t"] (spJudge K) := by
  obtain ⟨fdC, GC, bC⟩ := ok_rcat (P := P) (w := w) (base := base) T
  refine F.ok (k := 6) scJudge (fun vs H Q E h => ?_) (fun cdv A outer s H vs Q E hr h => ⟨_,
    pss_one (ps_try_each (i := 1) (n := "e") (l := [(.ref a.CN, sFault K), (.ref CRf, sNumber K)]) (tb := fun W => tRet (tLst (tCons (tCB (rLen K) (tCons (tCallS (spRcat K a.CP a.CN) (WE W) (tCons (tVar 0) tNil)) tNil)) tNil))) (Wout := fun _ _ _ _ => False) rfl rfl scJudge.nd rfl rfl takes0
      (fun W pn xe tk _ => pss_one (ps_ret (pe_lst (pa_cons (pe_callB call_len (by rfl) T.len (by decide +kernel) (pa_cons (pe_callS GC hr rfl T.gRcat T.kRcat bC (fun σ => passAt tk σ) (by exact (pa_cons (pv 0) pa_nil))) pa_nil)) pa_nil))))
      (.cons ⟨rfl, by decide, .inl T.gN⟩ (fun a0 oe cls d pn hz hf => pss_one (ps_ret (pe_lst (by exact (pa_cons (pe_errF hz hf (pv 1)) (pa_cons (pe_errF hz hf (pv 1)) pa_nil))))))
      (.cons ⟨rfl, by decide, .inl gRf⟩ (fun a0 oe cls d pn hz hf => pss_one (ps_ret (pe_lst (by exact (pa_cons (pe_errF hz hf (pv 1)) pa_nil))))) .nil))), ?_⟩)
  · obtain ⟨ta, ns, rfl, _⟩ := h
    rfl
  · obtain ⟨ta, ns, rfl, tx, hl, hb, h⟩ := h
    rw [← txt_V hb] at tx
    refine ⟨_, rfl, ta, txt ns, rfl, tx, (by rw [txt_len]; exact hl), fun ps hps l as H1 s1 A1 => ?_, fun f hf d H1 hd => ?_⟩
    · refine ⟨_, _, rfl, .inl ⟨_, SqL.of A1.ob, rfl⟩, (by show 1 ≤ sizeLine; decide), fun p hp => h _ p ?_⟩
      rw [judge_ok hl hps, List.length_map, A1.len]
      exact upd_same
    · refine ⟨true, T.eN.te, fun _ a0 _ => ?_, fun q => Bool.noConfusion q⟩
      refine ⟨_, rfl, rfl, a.CN, d, _, _, rfl, T.eN.ct, T.eN.ct.nN, rfl, hd, (lk_past (by decide +kernel)).trans lk_here, ?_⟩
      refine ⟨_, rfl, rfl, a.CN, d, _, _, rfl, T.eN.ct, nF, rfl, hd, lk_here, ?_⟩
      refine ⟨(by show 2 ≤ sizeLine; decide), fun p hp => h _ p ?_⟩
      rw [judge_er hl hf]
      exact upd_same
end
section
theorem all_mk {P : Program} {w : World} {K : PySem.W.Frag} {h : Heap} {mg : Str → Option Value} {fa fM digit letter fits sgns sgn next fail need rname rnum rsign rcells rpart iR iP CR CP CN iN rcat CRf fR  : Addr} (X : K.In h) (G : h.Ns mainGlobals mg) (hfa : mg "judge" = some (.ref fa))
    {od_digit an_digit : Option Addr}
    {sl_digit : Array (Option Value)}
    {oc_digit kV_digit dc_digit pm_digit cd_digit ct_digit : Value}
    {od_letter an_letter : Option Addr}
    {sl_letter : Array (Option Value)}
    {oc_letter kV_letter dc_letter pm_letter cd_letter ct_letter : Value}
    {od_fits an_fits : Option Addr}
    {sl_fits : Array (Option Value)}
    {oc_fits kV_fits dc_fits pm_fits cd_fits ct_fits : Value}
    {od_sgns an_sgns : Option Addr}
    {sl_sgns : Array (Option Value)}
    {oc_sgns kV_sgns dc_sgns pm_sgns cd_sgns ct_sgns : Value}
    {od_sgn an_sgn : Option Addr}
    {sl_sgn : Array (Option Value)}
    {oc_sgn kV_sgn dc_sgn pm_sgn cd_sgn ct_sgn : Value}
    {od_rcat an_rcat : Option Addr}
    {sl_rcat : Array (Option Value)}
    {oc_rcat kV_rcat dc_rcat pm_rcat cd_rcat ct_rcat : Value}
    {od_next an_next : Option Addr}
    {sl_next : Array (Option Value)}
    {oc_next kV_next dc_next pm_next cd_next ct_next : Value}
    {od_fail an_fail : Option Addr}
    {sl_fail : Array (Option Value)}
    {oc_fail kV_fail dc_fail pm_fail cd_fail ct_fail : Value}
    {od_need an_need : Option Addr}
    {sl_need : Array (Option Value)}
    {oc_need kV_need dc_need pm_need cd_need ct_need : Value}
    {od_rname an_rname : Option Addr}
    {sl_rname : Array (Option Value)}
    {oc_rname kV_rname dc_rname pm_rname cd_rname ct_rname : Value}
    {od_rnum an_rnum : Option Addr}
    {sl_rnum : Array (Option Value)}
    {oc_rnum kV_rnum dc_rnum pm_rnum cd_rnum ct_rnum : Value}
    {od_rsign an_rsign : Option Addr}
    {sl_rsign : Array (Option Value)}
    {oc_rsign kV_rsign dc_rsign pm_rsign cd_rsign ct_rsign : Value}
    {od_rcells an_rcells : Option Addr}
    {sl_rcells : Array (Option Value)}
    {oc_rcells kV_rcells dc_rcells pm_rcells cd_rcells ct_rcells : Value}
    {od_rpart an_rpart : Option Addr}
    {sl_rpart : Array (Option Value)}
    {oc_rpart kV_rpart dc_rpart pm_rpart cd_rpart ct_rpart : Value}
    {od_iR an_iR : Option Addr}
    {sl_iR : Array (Option Value)}
    {oc_iR kV_iR dc_iR pm_iR cd_iR ct_iR : Value}
    {od_iP an_iP : Option Addr}
    {sl_iP : Array (Option Value)}
    {oc_iP kV_iP dc_iP pm_iP cd_iP ct_iP : Value}
    {od_fR an_fR : Option Addr}
    {sl_fR : Array (Option Value)}
    {oc_fR kV_fR dc_fR pm_fR cd_fR ct_fR : Value}
    {nmN qN : Str}
    {NN : Addr}
    {bsN : List Value}
    {snN : List Str}
    {subN : List Value}
    {abN : Bool}
    {colN : Option Bool}
    {ddN : Option Addr}
    {m0N m1N m2N m3N m5N : Option Value}
    {od_iN an_iN : Option Addr}
    {sl_iN : Array (Option Value)}
    {oc_iN kV_iN dc_iN pm_iN cd_iN ct_iN : Value}
    {t_cName : Tok}
    {t_cEnd : Tok}
    {t_cWide : Tok}
    {t_cHigh : Tok}
    {t_cHeavy : Tok}
    {t_cParts : Tok}
    {t_cBytes : Tok}
    {t_c46 : Tok}
    {t_c35 : Tok}
    {t_c115 : Tok}
    {t_c116 : Tok}
    {t_c98 : Tok}
    {od_main an_main : Option Addr}
    {sl_main : Array (Option Value)}
    {oc_main kV_main dc_main pm_main cd_main ct_main : Value}
    (g_digit : PySem.W.nsIn K mainGlobals "is_digit" = some (some (.ref digit)))
    (l_digit : K.lookup digit = some ⟨oc_digit, od_digit, .func (PySem.W.fnOf "is_digit" "is_digit" (defArgs s_is_digit) (defBody s_is_digit) (defScope s_is_digit) .none kV_digit dc_digit pm_digit an_digit cd_digit ct_digit), sl_digit⟩)
    (c_digit : PySem.W.codeIn K cd_digit "is_digit" = true)
    (k_digit : PySem.W.keepIn K (.ref digit) = true)
    (g_letter : PySem.W.nsIn K mainGlobals "is_letter" = some (some (.ref letter)))
    (l_letter : K.lookup letter = some ⟨oc_letter, od_letter, .func (PySem.W.fnOf "is_letter" "is_letter" (defArgs s_is_letter) (defBody s_is_letter) (defScope s_is_letter) .none kV_letter dc_letter pm_letter an_letter cd_letter ct_letter), sl_letter⟩)
    (c_letter : PySem.W.codeIn K cd_letter "is_letter" = true)
    (k_letter : PySem.W.keepIn K (.ref letter) = true)
    (g_fits : PySem.W.nsIn K mainGlobals "fits_name" = some (some (.ref fits)))
    (l_fits : K.lookup fits = some ⟨oc_fits, od_fits, .func (PySem.W.fnOf "fits_name" "fits_name" (defArgs s_fits_name) (defBody s_fits_name) (defScope s_fits_name) .none kV_fits dc_fits pm_fits an_fits cd_fits ct_fits), sl_fits⟩)
    (c_fits : PySem.W.codeIn K cd_fits "fits_name" = true)
    (k_fits : PySem.W.keepIn K (.ref fits) = true)
    (g_sgns : PySem.W.nsIn K mainGlobals "signs_in_order" = some (some (.ref sgns)))
    (l_sgns : K.lookup sgns = some ⟨oc_sgns, od_sgns, .func (PySem.W.fnOf "signs_in_order" "signs_in_order" (defArgs s_signs_in_order) (defBody s_signs_in_order) (defScope s_signs_in_order) .none kV_sgns dc_sgns pm_sgns an_sgns cd_sgns ct_sgns), sl_sgns⟩)
    (c_sgns : PySem.W.codeIn K cd_sgns "signs_in_order" = true)
    (k_sgns : PySem.W.keepIn K (.ref sgns) = true)
    (g_sgn : PySem.W.nsIn K mainGlobals "is_sign" = some (some (.ref sgn)))
    (l_sgn : K.lookup sgn = some ⟨oc_sgn, od_sgn, .func (PySem.W.fnOf "is_sign" "is_sign" (defArgs s_is_sign) (defBody s_is_sign) (defScope s_is_sign) .none kV_sgn dc_sgn pm_sgn an_sgn cd_sgn ct_sgn), sl_sgn⟩)
    (c_sgn : PySem.W.codeIn K cd_sgn "is_sign" = true)
    (k_sgn : PySem.W.keepIn K (.ref sgn) = true)
    (g_rcat : PySem.W.nsIn K mainGlobals "read_catalogue" = some (some (.ref rcat)))
    (l_rcat : K.lookup rcat = some ⟨oc_rcat, od_rcat, .func (PySem.W.fnOf "read_catalogue" "read_catalogue" (defArgs s_read_catalogue) (defBody s_read_catalogue) (defScope s_read_catalogue) .none kV_rcat dc_rcat pm_rcat an_rcat cd_rcat ct_rcat), sl_rcat⟩)
    (c_rcat : PySem.W.codeIn K cd_rcat "read_catalogue" = true)
    (k_rcat : PySem.W.keepIn K (.ref rcat) = true)
    (g_CR : PySem.W.nsIn K mainGlobals "Reader" = some (some (.ref CR)))
    (g_CP : PySem.W.nsIn K mainGlobals "Part" = some (some (.ref CP)))
    (g_CN : PySem.W.nsIn K mainGlobals "NoCatalogue" = some (some (.ref CN)))
    (g_CRf : PySem.W.nsIn K mainGlobals "Refused" = some (some (.ref CRf)))
    (pgR : PySem.W.plainGet K CR Str.empty = true)
    (hdR : PySem.W.hasDictIn K CR = true)
    (poR : PySem.W.plainOver K CR = true)
    (saR : PySem.W.findIn K (.ref CR) "__setattr__" = some (some (.builtin "object.__setattr__")))
    (mkR : PySem.W.makesIn K CR = true)
    (kcR : PySem.W.keepIn K (.ref CR) = true)
    (pgP : PySem.W.plainGet K CP Str.empty = true)
    (hdP : PySem.W.hasDictIn K CP = true)
    (poP : PySem.W.plainOver K CP = true)
    (saP : PySem.W.findIn K (.ref CP) "__setattr__" = some (some (.builtin "object.__setattr__")))
    (mkP : PySem.W.makesIn K CP = true)
    (kcP : PySem.W.keepIn K (.ref CP) = true)
    (nT : PySem.W.findIn K (.ref CR) "t" = some none)
    (nAt : PySem.W.findIn K (.ref CR) "at" = some none)
    (n_name : PySem.W.findIn K (.ref CP) "name" = some none)
    (n_width : PySem.W.findIn K (.ref CP) "width" = some none)
    (n_depth : PySem.W.findIn K (.ref CP) "depth" = some none)
    (n_height : PySem.W.findIn K (.ref CP) "height" = some none)
    (n_weight : PySem.W.findIn K (.ref CP) "weight" = some none)
    (n_cells : PySem.W.findIn K (.ref CP) "cells" = some none)
    (a_next : PySem.W.findIn K (.ref CR) "next_byte" = some (some (.ref next)))
    (i_next : PySem.W.isFn K (.ref next) = true)
    (l_next : K.lookup next = some ⟨oc_next, od_next, .func (PySem.W.fnOf "next_byte" "Reader.next_byte" (defArgs s_Reader_next_byte) (defBody s_Reader_next_byte) (defScope s_Reader_next_byte) .none kV_next dc_next pm_next an_next cd_next ct_next), sl_next⟩)
    (c_next : PySem.W.codeIn K cd_next "Reader.next_byte" = true)
    (k_next : PySem.W.keepIn K (.ref next) = true)
    (a_fail : PySem.W.findIn K (.ref CR) "fail_unless" = some (some (.ref fail)))
    (i_fail : PySem.W.isFn K (.ref fail) = true)
    (l_fail : K.lookup fail = some ⟨oc_fail, od_fail, .func (PySem.W.fnOf "fail_unless" "Reader.fail_unless" (defArgs s_Reader_fail_unless) (defBody s_Reader_fail_unless) (defScope s_Reader_fail_unless) .none kV_fail dc_fail pm_fail an_fail cd_fail ct_fail), sl_fail⟩)
    (c_fail : PySem.W.codeIn K cd_fail "Reader.fail_unless" = true)
    (k_fail : PySem.W.keepIn K (.ref fail) = true)
    (a_need : PySem.W.findIn K (.ref CR) "need" = some (some (.ref need)))
    (i_need : PySem.W.isFn K (.ref need) = true)
    (l_need : K.lookup need = some ⟨oc_need, od_need, .func (PySem.W.fnOf "need" "Reader.need" (defArgs s_Reader_need) (defBody s_Reader_need) (defScope s_Reader_need) .none kV_need dc_need pm_need an_need cd_need ct_need), sl_need⟩)
    (c_need : PySem.W.codeIn K cd_need "Reader.need" = true)
    (k_need : PySem.W.keepIn K (.ref need) = true)
    (a_rname : PySem.W.findIn K (.ref CR) "read_name" = some (some (.ref rname)))
    (i_rname : PySem.W.isFn K (.ref rname) = true)
    (l_rname : K.lookup rname = some ⟨oc_rname, od_rname, .func (PySem.W.fnOf "read_name" "Reader.read_name" (defArgs s_Reader_read_name) (defBody s_Reader_read_name) (defScope s_Reader_read_name) .none kV_rname dc_rname pm_rname an_rname cd_rname ct_rname), sl_rname⟩)
    (c_rname : PySem.W.codeIn K cd_rname "Reader.read_name" = true)
    (k_rname : PySem.W.keepIn K (.ref rname) = true)
    (a_rnum : PySem.W.findIn K (.ref CR) "read_number" = some (some (.ref rnum)))
    (i_rnum : PySem.W.isFn K (.ref rnum) = true)
    (l_rnum : K.lookup rnum = some ⟨oc_rnum, od_rnum, .func (PySem.W.fnOf "read_number" "Reader.read_number" (defArgs s_Reader_read_number) (defBody s_Reader_read_number) (defScope s_Reader_read_number) .none kV_rnum dc_rnum pm_rnum an_rnum cd_rnum ct_rnum), sl_rnum⟩)
    (c_rnum : PySem.W.codeIn K cd_rnum "Reader.read_number" = true)
    (k_rnum : PySem.W.keepIn K (.ref rnum) = true)
    (a_rsign : PySem.W.findIn K (.ref CR) "read_sign" = some (some (.ref rsign)))
    (i_rsign : PySem.W.isFn K (.ref rsign) = true)
    (l_rsign : K.lookup rsign = some ⟨oc_rsign, od_rsign, .func (PySem.W.fnOf "read_sign" "Reader.read_sign" (defArgs s_Reader_read_sign) (defBody s_Reader_read_sign) (defScope s_Reader_read_sign) .none kV_rsign dc_rsign pm_rsign an_rsign cd_rsign ct_rsign), sl_rsign⟩)
    (c_rsign : PySem.W.codeIn K cd_rsign "Reader.read_sign" = true)
    (k_rsign : PySem.W.keepIn K (.ref rsign) = true)
    (a_rcells : PySem.W.findIn K (.ref CR) "read_cells" = some (some (.ref rcells)))
    (i_rcells : PySem.W.isFn K (.ref rcells) = true)
    (l_rcells : K.lookup rcells = some ⟨oc_rcells, od_rcells, .func (PySem.W.fnOf "read_cells" "Reader.read_cells" (defArgs s_Reader_read_cells) (defBody s_Reader_read_cells) (defScope s_Reader_read_cells) .none kV_rcells dc_rcells pm_rcells an_rcells cd_rcells ct_rcells), sl_rcells⟩)
    (c_rcells : PySem.W.codeIn K cd_rcells "Reader.read_cells" = true)
    (k_rcells : PySem.W.keepIn K (.ref rcells) = true)
    (a_rpart : PySem.W.findIn K (.ref CR) "read_part" = some (some (.ref rpart)))
    (i_rpart : PySem.W.isFn K (.ref rpart) = true)
    (l_rpart : K.lookup rpart = some ⟨oc_rpart, od_rpart, .func (PySem.W.fnOf "read_part" "Reader.read_part" (defArgs s_Reader_read_part) (defBody s_Reader_read_part) (defScope s_Reader_read_part) .none kV_rpart dc_rpart pm_rpart an_rpart cd_rpart ct_rpart), sl_rpart⟩)
    (c_rpart : PySem.W.codeIn K cd_rpart "Reader.read_part" = true)
    (k_rpart : PySem.W.keepIn K (.ref rpart) = true)
    (a_iR : PySem.W.findIn K (.ref CR) "__init__" = some (some (.ref iR)))
    (i_iR : PySem.W.isFn K (.ref iR) = true)
    (l_iR : K.lookup iR = some ⟨oc_iR, od_iR, .func (PySem.W.fnOf "__init__" "Reader.__init__" (defArgs s_Reader_init) (defBody s_Reader_init) (defScope s_Reader_init) .none kV_iR dc_iR pm_iR an_iR cd_iR ct_iR), sl_iR⟩)
    (c_iR : PySem.W.codeIn K cd_iR "Reader.__init__" = true)
    (k_iR : PySem.W.keepIn K (.ref iR) = true)
    (a_iP : PySem.W.findIn K (.ref CP) "__init__" = some (some (.ref iP)))
    (i_iP : PySem.W.isFn K (.ref iP) = true)
    (l_iP : K.lookup iP = some ⟨oc_iP, od_iP, .func (PySem.W.fnOf "__init__" "Part.__init__" (defArgs s_Part_init) (defBody s_Part_init) (defScope s_Part_init) .none kV_iP dc_iP pm_iP an_iP cd_iP ct_iP), sl_iP⟩)
    (c_iP : PySem.W.codeIn K cd_iP "Part.__init__" = true)
    (k_iP : PySem.W.keepIn K (.ref iP) = true)
    (rdRf : PySem.W.readsIn K CRf (.type "type") = true)
    (gaRf : PySem.W.specialIn K (.ref CRf) "__getattribute__" = some (some (.builtin "type.__getattribute__")))
    (inRf : PySem.W.findCls K (.ref CRf) (.type "type") "__init__" = some (.val (.ref fR)))
    (l_fR : K.lookup fR = some ⟨oc_fR, od_fR, .func (PySem.W.fnOf "__init__" "Refused.__init__" (defArgs s_Refused_init) (defBody s_Refused_init) (defScope s_Refused_init) .none kV_fR dc_fR pm_fR an_fR cd_fR ct_fR), sl_fR⟩)
    (c_fR : PySem.W.codeIn K cd_fR "Refused.__init__" = true)
    (k_fR : PySem.W.keepIn K (.ref fR) = true)
    (xLN : K.lookup CN = some (excClassObj nmN qN CN NN bsN [.ref CRf, .type "Exception", .type "BaseException", .type "object"] true snN subN abN colN ddN m0N m1N m2N m3N m5N "Exception.__new__"))
    (saN : PySem.W.findIn K (.ref CN) "__setattr__" = some (some (.builtin "object.__setattr__")))
    (gaN : PySem.W.findIn K (.ref CN) "__getattribute__" = some (some (.builtin "BaseException.__getattribute__")))
    (ggN : PySem.W.findIn K (.ref CN) "__getattr__" = some none)
    (nnN : PySem.W.findIn K (.ref CN) "number" = some none)
    (n_faultN : PySem.W.findIn K (.ref CN) "fault" = some none)
    (kCN : PySem.W.keepIn K (.ref CN) = true)
    (eCN : PySem.W.subIn K (.ref CN) (.type "BaseException") = some true)
    (tCN : PySem.W.typeIn K (.ref CN) = some (.type "type"))
    (hCN : PySem.W.hasDictIn K CN = true)
    (iCN : PySem.W.isClsIn K CN = true)
    (sCN : PySem.W.subIn K (.ref CN) (.ref CN) = some true)
    (a_iN : PySem.W.findIn K (.ref CN) "__init__" = some (some (.ref iN)))
    (t_iN : PySem.W.typeIn K (.ref iN) = some (.type "function"))
    (l_iN : K.lookup iN = some ⟨oc_iN, od_iN, .func (PySem.W.fnOf "__init__" "NoCatalogue.__init__" (defArgs s_NoCatalogue_init) (defBody s_NoCatalogue_init) (defScope s_NoCatalogue_init) .none kV_iN dc_iN pm_iN an_iN cd_iN ct_iN), sl_iN⟩)
    (c_iN : PySem.W.codeIn K cd_iN "NoCatalogue.__init__" = true)
    (k_iN : PySem.W.keepIn K (.ref iN) = true)
    (cName : PySem.W.nsIn K mainGlobals "LONGEST_NAME" = some (some (.int 8 t_cName)))
    (cEnd : PySem.W.nsIn K mainGlobals "TEXT_END" = some (some (.int 256 t_cEnd)))
    (cWide : PySem.W.nsIn K mainGlobals "MOST_WIDE" = some (some (.int 16 t_cWide)))
    (cHigh : PySem.W.nsIn K mainGlobals "MOST_HIGH" = some (some (.int 18 t_cHigh)))
    (cHeavy : PySem.W.nsIn K mainGlobals "MOST_HEAVY" = some (some (.int 9999 t_cHeavy)))
    (cParts : PySem.W.nsIn K mainGlobals "MOST_PARTS" = some (some (.int 64 t_cParts)))
    (cBytes : PySem.W.nsIn K mainGlobals "MOST_BYTES" = some (some (.int 1048576 t_cBytes)))
    (c46 : PySem.W.nsIn K mainGlobals "NO_CELL" = some (some (.int 46 t_c46)))
    (c35 : PySem.W.nsIn K mainGlobals "PLAIN" = some (some (.int 35 t_c35)))
    (c115 : PySem.W.nsIn K mainGlobals "STUD" = some (some (.int 115 t_c115)))
    (c116 : PySem.W.nsIn K mainGlobals "TUBE" = some (some (.int 116 t_c116)))
    (c98 : PySem.W.nsIn K mainGlobals "BOTH" = some (some (.int 98 t_c98)))
    (z_ord : PySem.W.nsIn K mainGlobals "ord" = some none)
    (z_len : PySem.W.nsIn K mainGlobals "len" = some none)
    (z_range : PySem.W.nsIn K mainGlobals "range" = some none)
    (g_main : PySem.W.nsIn K mainGlobals "judge" = some (some (.ref fM)))
    (l_main : K.lookup fM = some ⟨oc_main, od_main, .func (PySem.W.fnOf "judge" "judge" (defArgs s_judge) (defBody s_judge) (defScope s_judge) .none kV_main dc_main pm_main an_main cd_main ct_main), sl_main⟩)
    (c_main : PySem.W.codeIn K cd_main "judge" = true)
    (k_main : PySem.W.keepIn K (.ref fM) = true) :
    ∃ fd : FuncData, (∀ (s : Shared) (us : List Value), us.length = (["t"] : List Str).length → BindsTo s fd ⟨us, []⟩ ((["t"] : List Str).zip us)) ∧ ∀ base : Heap, K.In base → base.Ns mainGlobals mg → FnOk P w K mg base CX0 7 fa fd ["t"] (spJudge K) := by
  have e := hfa.symm.trans (PySem.W.mg_of X G g_main)
  cases e
  let ad : Ad := ⟨digit, letter, fits, sgns, sgn, next, fail, need, rname, rnum, rsign, rcells, rpart, iR, iP, CR, CP, CN, iN, rcat⟩
  have RTx : PySem.Jx.RT K mg CRf fR := ⟨PySem.W.mg_of X G g_CRf, rdRf, gaRf, inRf, k_fR, ⟨_, _, _, _, _, _, _, _, _, _, _, _, _, _, _, l_fR, c_fR⟩⟩
  have eN : ErrT K mg CN iN 1 (fun vs => [("fault", vs.getD 0 .non), ("number", .int (-6))]) := err_f (n := 6) ⟨⟨nmN, qN, NN, bsN, _, snN, subN, abN, colN, ddN, m0N, m1N, m2N, m3N, m5N, xLN, rfl⟩, saN, gaN, ggN, nnN, kCN, eCN, tCN, hCN⟩ RTx n_faultN a_iN t_iN (exm_self eCN iCN tCN sCN) ⟨_, _, _, _, _, _, _, _, _, _, _, _, _, _, by rfl, _, _, _, _, _, _, _, _, _, l_iN, c_iN⟩
  have T : Txt K mg ad :=
    { ord := PySem.W.mg_none_of X G z_ord,
      len := PySem.W.mg_none_of X G z_len,
      range := PySem.W.mg_none_of X G z_range,
      cName := ⟨_, PySem.W.mg_of X G cName⟩,
      cEnd := ⟨_, PySem.W.mg_of X G cEnd⟩,
      cWide := ⟨_, PySem.W.mg_of X G cWide⟩,
      cHigh := ⟨_, PySem.W.mg_of X G cHigh⟩,
      cHeavy := ⟨_, PySem.W.mg_of X G cHeavy⟩,
      cParts := ⟨_, PySem.W.mg_of X G cParts⟩,
      cBytes := ⟨_, PySem.W.mg_of X G cBytes⟩,
      c46 := ⟨_, PySem.W.mg_of X G c46⟩,
      c35 := ⟨_, PySem.W.mg_of X G c35⟩,
      c115 := ⟨_, PySem.W.mg_of X G c115⟩,
      c116 := ⟨_, PySem.W.mg_of X G c116⟩,
      c98 := ⟨_, PySem.W.mg_of X G c98⟩,
      gDigit := PySem.W.mg_of X G g_digit,
      gLetter := PySem.W.mg_of X G g_letter,
      gFits := PySem.W.mg_of X G g_fits,
      gSigns := PySem.W.mg_of X G g_sgns,
      gSign := PySem.W.mg_of X G g_sgn,
      gRcat := PySem.W.mg_of X G g_rcat,
      gR := PySem.W.mg_of X G g_CR,
      gP := PySem.W.mg_of X G g_CP,
      gN := PySem.W.mg_of X G g_CN,
      clR := ⟨pgR, hdR, poR, saR⟩,
      nT := nT,
      nAt := nAt,
      mNext := ⟨a_next, i_next, k_next⟩,
      mFail := ⟨a_fail, i_fail, k_fail⟩,
      mNeed := ⟨a_need, i_need, k_need⟩,
      mName := ⟨a_rname, i_rname, k_rname⟩,
      mNum := ⟨a_rnum, i_rnum, k_rnum⟩,
      mSign := ⟨a_rsign, i_rsign, k_rsign⟩,
      mCells := ⟨a_rcells, i_rcells, k_rcells⟩,
      mPart := ⟨a_rpart, i_rpart, k_rpart⟩,
      clP := ⟨pgP, hdP, poP, saP⟩,
      nName := n_name,
      nWidth := n_width,
      nDepth := n_depth,
      nHeight := n_height,
      nWeight := n_weight,
      nCells := n_cells,
      mkR := ⟨mkR, a_iR, i_iR, kcR⟩,
      mkP := ⟨mkP, a_iP, i_iP, kcP⟩,
      eN := eN,
      kDigit := k_digit,
      kLetter := k_letter,
      kFits := k_fits,
      kSigns := k_sgns,
      kSign := k_sgn,
      kRcat := k_rcat,
      dDigit := ⟨_, fun_mk (st := s_is_digit) l_digit c_digit k_digit⟩,
      dLetter := ⟨_, fun_mk (st := s_is_letter) l_letter c_letter k_letter⟩,
      dFits := ⟨_, fun_mk (st := s_fits_name) l_fits c_fits k_fits⟩,
      dSigns := ⟨_, fun_mk (st := s_signs_in_order) l_sgns c_sgns k_sgns⟩,
      dSign := ⟨_, fun_mk (st := s_is_sign) l_sgn c_sgn k_sgn⟩,
      dNext := ⟨_, fun_mk (st := s_Reader_next_byte) l_next c_next k_next⟩,
      dFail := ⟨_, fun_mk (st := s_Reader_fail_unless) l_fail c_fail k_fail⟩,
      dNeed := ⟨_, fun_mk (st := s_Reader_need) l_need c_need k_need⟩,
      dName := ⟨_, fun_mk (st := s_Reader_read_name) l_rname c_rname k_rname⟩,
      dNum := ⟨_, fun_mk (st := s_Reader_read_number) l_rnum c_rnum k_rnum⟩,
      dRsign := ⟨_, fun_mk (st := s_Reader_read_sign) l_rsign c_rsign k_rsign⟩,
      dCells := ⟨_, fun_mk (st := s_Reader_read_cells) l_rcells c_rcells k_rcells⟩,
      dPart := ⟨_, fun_mk (st := s_Reader_read_part) l_rpart c_rpart k_rpart⟩,
      dIR := ⟨_, fun_mk (st := s_Reader_init) l_iR c_iR k_iR⟩,
      dIP := ⟨_, fun_mk (st := s_Part_init) l_iP c_iP k_iP⟩,
      dRcat := ⟨_, fun_mk (st := s_read_catalogue) l_rcat c_rcat k_rcat⟩ }

  have FM := fun_mk (st := s_judge) l_main c_main k_main
  exact ⟨_, fun s us hu => match us, hu with | [_], _ => .of_eq rfl, fun base _ _ => ok_judge FM T (PySem.W.mg_of X G g_CRf) n_faultN⟩
end
end St
open PySem PySem.W PyProof.Rows
set_option maxRecDepth 100000 in
set_option maxHeartbeats 16000000 in
theorem PySem.Challenge.cw_studtube_s01_judge_holds : PySem.Challenge.rw_studtube_s01_judge.Holds := by
  w_on; k_headS; (case hw => exact ⟨[.list []], by decide +kernel, by decide +kernel⟩)
  k_fillS
  refine L2.walk_specK (r := PySem.Challenge.rw_studtube_s01_judge) (k := 7) (CX := L2.CX0) (ps := ["t"]) (sp := fun K => St.spJudge K) (by decide +kernel) rfl rfl ⟨rfl, by decide, by decide⟩ (fun w h Y => PySem.W.kIn_of Y) ?F ?S (fun _ _ _ _ z => z)
  case F =>
    intro w mg fa h Y KX G hmg
    refine' St.all_mk KX G hmg ?hg_digit ?hl_digit ?hc_digit ?hk_digit ?hg_letter ?hl_letter ?hc_letter ?hk_letter ?hg_fits ?hl_fits ?hc_fits ?hk_fits ?hg_sgns ?hl_sgns ?hc_sgns ?hk_sgns ?hg_sgn ?hl_sgn ?hc_sgn ?hk_sgn ?hg_rcat ?hl_rcat ?hc_rcat ?hk_rcat ?hg_CR ?hg_CP ?hg_CN ?hg_CRf ?hpgR ?hhdR ?hpoR ?hsaR ?hmkR ?hkcR ?hpgP ?hhdP ?hpoP ?hsaP ?hmkP ?hkcP ?hnT ?hnAt ?hn_name ?hn_width ?hn_depth ?hn_height ?hn_weight ?hn_cells ?ha_next ?hi_next ?hl_next ?hc_next ?hk_next ?ha_fail ?hi_fail ?hl_fail ?hc_fail ?hk_fail ?ha_need ?hi_need ?hl_need ?hc_need ?hk_need ?ha_rname ?hi_rname ?hl_rname ?hc_rname ?hk_rname ?ha_rnum ?hi_rnum ?hl_rnum ?hc_rnum ?hk_rnum ?ha_rsign ?hi_rsign ?hl_rsign ?hc_rsign ?hk_rsign ?ha_rcells ?hi_rcells ?hl_rcells ?hc_rcells ?hk_rcells ?ha_rpart ?hi_rpart ?hl_rpart ?hc_rpart ?hk_rpart ?ha_iR ?hi_iR ?hl_iR ?hc_iR ?hk_iR ?ha_iP ?hi_iP ?hl_iP ?hc_iP ?hk_iP ?hrdRf ?hgaRf ?hinRf ?hl_fR ?hc_fR ?hk_fR ?hxLN ?hsaN ?hgaN ?hggN ?hnnN ?hn_faultN ?hkCN ?heCN ?htCN ?hhCN ?hiCN ?hsCN ?ha_iN ?ht_iN ?hl_iN ?hc_iN ?hk_iN ?hcName ?hcEnd ?hcWide ?hcHigh ?hcHeavy ?hcParts ?hcBytes ?hc46 ?hc35 ?hc115 ?hc116 ?hc98 ?hz_ord ?hz_len ?hz_range ?hg_main ?hl_main ?hc_main ?hk_main
    (case hg_digit => k_is)
    (case hl_digit => k_is)
    (case hc_digit => k_is)
    (case hk_digit => k_is)
    (case hg_letter => k_is)
    (case hl_letter => k_is)
    (case hc_letter => k_is)
    (case hk_letter => k_is)
    (case hg_fits => k_is)
    (case hl_fits => k_is)
    (case hc_fits => k_is)
    (case hk_fits => k_is)
    (case hg_sgns => k_is)
    (case hl_sgns => k_is)
    (case hc_sgns => k_is)
    (case hk_sgns => k_is)
    (case hg_sgn => k_is)
    (case hl_sgn => k_is)
    (case hc_sgn => k_is)
    (case hk_sgn => k_is)
    (case hg_rcat => k_is)
    (case hl_rcat => k_is)
    (case hc_rcat => k_is)
    (case hk_rcat => k_is)
    (case hg_CR => k_is)
    (case hg_CP => k_is)
    (case hg_CN => k_is)
    (case hg_CRf => k_is)
    (case hpgR => k_is)
    (case hhdR => k_is)
    (case hpoR => k_is)
    (case hsaR => k_is)
    (case hmkR => k_is)
    (case hkcR => k_is)
    (case hpgP => k_is)
    (case hhdP => k_is)
    (case hpoP => k_is)
    (case hsaP => k_is)
    (case hmkP => k_is)
    (case hkcP => k_is)
    (case hnT => k_is)
    (case hnAt => k_is)
    (case hn_name => k_is)
    (case hn_width => k_is)
    (case hn_depth => k_is)
    (case hn_height => k_is)
    (case hn_weight => k_is)
    (case hn_cells => k_is)
    (case ha_next => k_is)
    (case hi_next => k_is)
    (case hl_next => k_is)
    (case hc_next => k_is)
    (case hk_next => k_is)
    (case ha_fail => k_is)
    (case hi_fail => k_is)
    (case hl_fail => k_is)
    (case hc_fail => k_is)
    (case hk_fail => k_is)
    (case ha_need => k_is)
    (case hi_need => k_is)
    (case hl_need => k_is)
    (case hc_need => k_is)
    (case hk_need => k_is)
    (case ha_rname => k_is)
    (case hi_rname => k_is)
    (case hl_rname => k_is)
    (case hc_rname => k_is)
    (case hk_rname => k_is)
    (case ha_rnum => k_is)
    (case hi_rnum => k_is)
    (case hl_rnum => k_is)
    (case hc_rnum => k_is)
    (case hk_rnum => k_is)
    (case ha_rsign => k_is)
    (case hi_rsign => k_is)
    (case hl_rsign => k_is)
    (case hc_rsign => k_is)
    (case hk_rsign => k_is)
    (case ha_rcells => k_is)
    (case hi_rcells => k_is)
    (case hl_rcells => k_is)
    (case hc_rcells => k_is)
    (case hk_rcells => k_is)
    (case ha_rpart => k_is)
    (case hi_rpart => k_is)
    (case hl_rpart => k_is)
    (case hc_rpart => k_is)
    (case hk_rpart => k_is)
    (case ha_iR => k_is)
    (case hi_iR => k_is)
    (case hl_iR => k_is)
    (case hc_iR => k_is)
    (case hk_iR => k_is)
    (case ha_iP => k_is)
    (case hi_iP => k_is)
    (case hl_iP => k_is)
    (case hc_iP => k_is)
    (case hk_iP => k_is)
    (case hrdRf => k_is)
    (case hgaRf => k_is)
    (case hinRf => k_is)
    (case hl_fR => k_is)
    (case hc_fR => k_is)
    (case hk_fR => k_is)
    (case hxLN => k_is)
    (case hsaN => k_is)
    (case hgaN => k_is)
    (case hggN => k_is)
    (case hnnN => k_is)
    (case hn_faultN => k_is)
    (case hkCN => k_is)
    (case heCN => k_is)
    (case htCN => k_is)
    (case hhCN => k_is)
    (case hiCN => k_is)
    (case hsCN => first | rfl | k_is)
    (case ha_iN => k_is)
    (case ht_iN => k_is)
    (case hl_iN => k_is)
    (case hc_iN => k_is)
    (case hk_iN => k_is)
    (case hcName => k_is)
    (case hcEnd => k_is)
    (case hcWide => k_is)
    (case hcHigh => k_is)
    (case hcHeavy => k_is)
    (case hcParts => k_is)
    (case hcBytes => k_is)
    (case hc46 => k_is)
    (case hc35 => k_is)
    (case hc115 => k_is)
    (case hc116 => k_is)
    (case hc98 => k_is)
    (case hz_ord => k_is)
    (case hz_len => k_is)
    (case hz_range => k_is)
    (case hg_main => k_is)
    (case hl_main => k_is)
    (case hc_main => k_is)
    (case hk_main => k_is)
  case S =>
    intro K H xs a hO hwi hask hx
    cases hx with
    | cons h1 h2 =>
      cases h2
      cases h1 with
      | lst hs ha =>
        have e := L2.ints_dw a.1 _ ha
        subst e
        have q : ((Codec.inLen 0 100000 a.1 && a.1.all (Codec.inInt 0 255)) && true) = true := hwi
        rw [Bool.and_eq_true, Bool.and_eq_true] at q
        refine ⟨_, a.1, rfl, hs, (Codec.inNat_iff.mp q.1.1).2, fun x hx => ?_, fun H' p hp => .lst (L2.SqL.of hp) (L2.dw_ints _)⟩
        have z := List.all_eq_true.mp q.1.2 x hx
        exact Codec.inInt_iff.mp z
