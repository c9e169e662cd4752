import PyProof.Rows.All
import Wide.All
import OpenK.AllK
import Wide.FinOn
import PyProof.EqAt
import PyProof.EqKinds
import PyProof.TupleCall
import KE.KExcInit
import HandS.Exc
import HandS.ExcSuper
import HandS.ExcInit
import HandS.ForSpec
import HandS.TryMany
import HandS.Dict
import KE.KEqDict
import HandS.Iter
import HandS.WordsDict
import HandS.Comp
import HandS.TupLen
import HandS.Conv
import KE.LtSeq
import KE.KDictDisplayH
import Open.SpecLaws
import KE.OsGo
import HandS.ListEq
import PySem.Challenge.RW_studtube_s09_turns
set_option Elab.async false
set_option linter.all false
set_option maxRecDepth 100000
set_option maxHeartbeats 4000000
/-! The program's own errors: classes over Exception, one below another; __init__ of the upper one is called by name, then fields are set. -/
namespace PySem
namespace Jx
open PySem.W PySem.Calls PyProof.Rows PySem.HandSPX Builtin Builtin.ObjectAttr
abbrev exT : List Value := [.type "Exception", .type "BaseException", .type "object"]
structure CT (K : Frag) (C : Addr) : Prop where
  cls : ∃ nm q N bs bm sn sub ab col dd k0 k1 k2 k3 k5,
    K.lookup C = some (excClassObj nm q C N bs bm true sn sub ab col dd k0 k1 k2 k3 k5 "Exception.__new__") ∧ excTail exT bm = true
  sa : findIn K (.ref C) "__setattr__" = some (some (.builtin "object.__setattr__"))
  ga : findIn K (.ref C) "__getattribute__" = some (some (.builtin "BaseException.__getattribute__"))
  gg : findIn K (.ref C) "__getattr__" = some none
  nN : findIn K (.ref C) "number" = some none
  kC : keepIn K (.ref C) = true
  exC : subIn K (.ref C) (.type "BaseException") = some true
  tyC : typeIn K (.ref C) = some (.type "type")
  hdC : hasDictIn K C = true
section
variable {K : Frag} {C : Addr}
theorem CT.cd (T : CT K C) : ∃ cd : ClassData, clsIn K C = some cd ∧ cd.hasDict = true := by
  obtain ⟨nm, q, N, bs, bm, sn, sub, ab, col, dd, k0, k1, k2, k3, k5, hC, hbm⟩ := T.cls
  have e : (clsIn K C).map (·.hasDict) = some true := by
    unfold clsIn
    rw [hC] <;> rfl
  cases q : clsIn K C with
  | none => rw [q] at e; cases e
  | some cd => rw [q] at e; exact ⟨cd, rfl, Option.some.inj e⟩
theorem CT.over (T : CT K C) : excOver K C exT = true := by
  obtain ⟨nm, q, N, bs, bm, sn, sub, ab, col, dd, k0, k1, k2, k3, k5, hC, hbm⟩ := T.cls
  unfold excOver clsIn
  rw [hC]
  show ((C == C) && excTail exT bm) = true
  rw [hbm, Bool.and_true]
  exact beq_self_eq_true C
theorem taker {f : Str} (h : findIn K (.ref C) f = some none) : takerIn K C f = some none := by
  unfold takerIn
  rw [h] <;> rfl
end
/-- what is left of an error at x when a field was set -/
structure FEnd (h h' : Heap) (x C dx t0 : Addr) (m : Str → Option Value) : Prop where
  keep : ∀ b o, b ≠ x → h.get? b = some o → h'.get? b = some o
  obj : h'.get? x = some { cls := .ref C, dict := some dx, data := .fields #[.ref t0, .none, .none, .none, .bool false, .none] }
  dbig : h.objs.size ≤ dx
  dne : dx ≠ x
  ns : h'.Ns1 dx m
section
variable {prog : Program} {w : World} {A : Around} {E : Value → Shared → Prop} {s : Shared} {K : Frag} {C x t0 : Addr} {f : Str} {v : Value} {Q : Unit → Shared → Prop}
/-- the first field -/
theorem set_first (T : CT K C) (X : K.In s.heap) (hx : s.heap.get? x = some (excO C t0)) (hf : findIn K (.ref C) f = some none)
    (hq : ∀ h' tk dx, FEnd s.heap h' x C dx t0 (fun y => if y = f then some v else none) → Q () { s with heap := h', toks := tk }) :
    wpAny (model prog w) A (setAttr (.ref x) f v) Q E s := by
  obtain ⟨cd, hcd, hhd⟩ := T.cd
  obtain ⟨hp, g, d, tk, os⟩ := s
  have I : InstAt hp x (excO C t0) C none := ⟨hx, rfl, rfl, trivial⟩
  refine set_plain X I T.sa (osa_openX F.store_Exception X I T.over (taker hf) fun b => ?_)
  have hcls : Looks (model prog w) hp (classData C) cd := looks_clsIn X hcd
  have hxs : x ≠ hp.objs.size := Nat.ne_of_lt (Heap.lt_size hx)
  dsimp only
  unfold storeInOwnDict ownDictForStores
  repeat (first
    | with_reducible refine HandSPX.store_in_new ?mt ?gn
    | with_reducible refine wpAny_loadPart_at hx ?_
    | (with_reducible refine hcls.at ?_; rw [hhd])
    | wp_step
    | dsimp only)
  case mt =>
    refine ⟨_, #[], _, (Heap.get?_update_ne _ _ _ _ hxs.symm).trans (Heap.get?_push_at rfl rfl), rfl, ?_, fun _ => rfl⟩
    intro e he
    exact absurd he (by simp)
  case gn =>
    intro h' tk' hn' hs
    have hx1 := Heap.get?_push_of_some (h := hp) { cls := .type "dict", data := .dict #[] } hx
    refine hq h' tk' hp.objs.size ⟨fun b o hb ho => ?_, ?_, Nat.le_refl _, hxs.symm, hn'⟩
    · have e1 := hs.2 b (Nat.ne_of_lt (Heap.lt_size ho))
      rw [e1, Heap.get?_update_ne _ _ _ _ hb]
      exact Heap.get?_push_of_some _ ho
    · rw [hs.2 x hxs]
      exact Heap.get?_update_self _ hx1 rfl
/-- a further field -/
theorem set_more {dx : Addr} {m0 : Str → Option Value} {nl : List Str} {fv : Array Value} (T : CT K C) (X : K.In s.heap)
    (hx : s.heap.get? x = some { cls := .ref C, dict := some dx, data := .fields fv }) (hns : s.heap.Ns1 dx m0) (hw : Within m0 nl) (hz : nl.length ≤ 1000) (hf : findIn K (.ref C) f = some none)
    (hq : ∀ h' tk, (∀ b o, b ≠ dx → s.heap.get? b = some o → h'.get? b = some o) → h'.Ns1 dx (fun y => if y = f then some v else m0 y) → Q () { s with heap := h', toks := tk }) :
    wpAny (model prog w) A (setAttr (.ref x) f v) Q E s := by
  obtain ⟨cd, hcd, hhd⟩ := T.cd
  obtain ⟨hp, g, d, tk, os⟩ := s
  obtain ⟨oD, _, _, hoD, _, _⟩ := hns.count hw
  have I : InstAt hp x { cls := .ref C, dict := some dx, data := .fields fv } C (some oD) := ⟨hx, rfl, rfl, hoD⟩
  refine set_plain X I T.sa (osa_openX F.store_Exception X I T.over (taker hf) fun b => ?_)
  have hcls : Looks (model prog w) hp (classData C) cd := looks_clsIn X hcd
  dsimp only
  unfold storeInOwnDict ownDictForStores
  repeat (first
    | with_reducible refine OEX.store_in_old hns hw hz ?gn
    | with_reducible refine wpAny_loadPart_at hx ?_
    | (with_reducible refine hcls.at ?_; rw [hhd])
    | wp_step
    | dsimp only)
  case gn =>
    intro h' tk' hn' hs
    exact hq h' tk' (fun b o hb ho => by rw [hs.2 b hb]; exact ho) hn'
end
/-! ### the text of the defs -/
def rA (p1 p2 : Pos) : Arguments := { posonlyargs := [], args := [{ arg := "self", annotation := none, pos := p1 }, { arg := "number", annotation := none, pos := p2 }], vararg := none, kwonlyargs := [], kw_defaults := [], kwarg := none, defaults := [] }
def stB (f y : Str) (q1 q2 q3 q4 : Pos) : Stmt := .Assign [.Attribute (.Name "self" q1) f q2] (.Name y q3) q4
def rS : Scope := { kind := .function, names := [(PySem.Str.ofString "self", .local), (PySem.Str.ofString "number", .local)], isGenerator := false, isCoroutine := false, more := [] }
/-- Refused.__init__(self, -n) -/
def cS (n : Int) (k : Nat) (p1 p2 p3 p4 p5 p6 p7 : Pos) : Stmt := .Expr (.Call (.Attribute (.Name "Refused" p1) "__init__" p2) [.Name "self" p3, .UnaryOp .USub (.Constant (.int n) k p4) p5] [] p6) p7
def nA (p1 : Pos) : Arguments := { posonlyargs := [], args := [{ arg := "self", annotation := none, pos := p1 }], vararg := none, kwonlyargs := [], kw_defaults := [], kwarg := none, defaults := [] }
def nS : Scope := { kind := .function, names := [(PySem.Str.ofString "self", .local), (PySem.Str.ofString "Refused", .globalImplicit)], isGenerator := false, isCoroutine := false, more := [] }
def fA (p1 p2 : Pos) : Arguments := { posonlyargs := [], args := [{ arg := "self", annotation := none, pos := p1 }, { arg := "fault", annotation := none, pos := p2 }], vararg := none, kwonlyargs := [], kw_defaults := [], kwarg := none, defaults := [] }
def fS : Scope := { kind := .function, names := [(PySem.Str.ofString "self", .local), (PySem.Str.ofString "fault", .local), (PySem.Str.ofString "Refused", .globalImplicit)], isGenerator := false, isCoroutine := false, more := [] }
def wA (p1 p2 p3 : Pos) : Arguments := { posonlyargs := [], args := [{ arg := "self", annotation := none, pos := p1 }, { arg := "point", annotation := none, pos := p2 }, { arg := "where", annotation := none, pos := p3 }], vararg := none, kwonlyargs := [], kw_defaults := [], kwarg := none, defaults := [] }
def wS : Scope := { kind := .function, names := [(PySem.Str.ofString "self", .local), (PySem.Str.ofString "point", .local), (PySem.Str.ofString "where", .local), (PySem.Str.ofString "Refused", .globalImplicit)], isGenerator := false, isCoroutine := false, more := [] }

/-- what the written part says of a def of these -/
def FnIn (K : Frag) (f : Addr) (qual : Str) (a : Arguments) (b : List Stmt) (sc : Scope) : Prop :=
  ∃ (oc : Value) (od : Option Addr) (kV doc pm : Value) (an : Option Addr) (cdv ct : Value) (osl : Array (Option Value)),
    K.lookup f = some ⟨oc, od, .func (fnOf "__init__" qual a b sc .none kV doc pm an cdv ct), osl⟩ ∧ codeIn K cdv qual = true
/-- Refused, at CR, its __init__ at fR -/
structure RT (K : Frag) (mg : Str → Option Value) (CR fR : Addr) : Prop where
  gR : mg "Refused" = some (.ref CR)
  rd : readsIn K CR (.type "type") = true
  ga : specialIn K (.ref CR) "__getattribute__" = some (some (.builtin "type.__getattribute__"))
  ini : findCls K (.ref CR) (.type "type") "__init__" = some (.val (.ref fR))
  kp : keepIn K (.ref fR) = true
  fn : ∃ p1 p2 q1 q2 q3 q4, FnIn K fR "Refused.__init__" (rA p1 p2) [stB "number" "number" q1 q2 q3 q4] rS
section
variable {prog : Program} {w : World} {A : Around} {E : Value → Shared → Prop} {R : Result → Shared → Prop} {s : Shared} {K : Frag} {mg : Str → Option Value} {C CR fR fI : Addr}
theorem rd_local {M : Model} {name : Str} {scope : Scope} {L a : Addr} {cd : Value} {m : Str → Option Value} {x : Str} {pos : Pos} {v : Value} {Q : Value → Shared → Prop}
    (hn : s.heap.Ns L m) (hv : m x = some v) (h : Q v s) (hk : scope.kind = .function := by rfl) (hl : (envOfC name scope L a cd).kindOf x = some .local := by rfl) (hd : (x == ("__debug__" : Str)) = false := by decide) :
    wpAny M A (eval (.Name x pos) (envOfC name scope L a cd)) Q E s := wpAny_Name (wpAny_loadName_local hk hl hn hv h) hd
theorem out_of {h : Heap} {x : Addr} {o : Obj} (X : K.In h) (hx : K.lookup x = some o) : h.get? x = some o := X _ _ hx
/-- Refused.__init__ -/
theorem ref_init (T : CT K C) (TR : RT K mg CR fR) {x t0 : Addr} {v : Value} (X : K.In s.heap) (hlim : s.heap.NoLimit) (hx : s.heap.get? x = some (excO C t0)) (hroom : A.depth < recursionLimit)
    (hq : ∀ h' tk dx, FEnd s.heap h' x C dx t0 (fun y => if y = "number" then some v else none) → R (.ok (.ret .none)) { s with heap := h', toks := tk }) :
    codeAny (model prog w) A (.call (.ref fR) ⟨[.ref x, v], []⟩) R s := by
  obtain ⟨p1, p2, q1, q2, q3, q4, oc, od, kV, doc, pm, an, cdv, ct, osl, ho, hcd⟩ := TR.fn
  refine Att.call_fn (binds := [("self", .ref x), ("number", v)]) X hlim ho hcd hroom (BindsTo.of_eq (by first | rfl | with_unfolding_all rfl)) (by first | rfl | decide | with_unfolding_all rfl) (fun s1 IC => ?_) rfl rfl rfl
  obtain ⟨h1, tk1, rfl⟩ := IC.toInCall.same
  have k : ∀ b o, s.heap.get? b = some o → h1.get? b = some o := IC.toInCall.keep
  have hn := IC.toInCall.ns
  have X1 : K.In h1 := X.keeps k
  show wpAny _ _ (execs _ _) _ _ _
  refine wpAny_execs_cons (plainObj_wpAny_Assign_Attribute ?_)
  refine rd_local (v := v) hn (by first | rfl | with_unfolding_all rfl | kernel_rfl) (rd_local (v := .ref x) hn (by first | rfl | with_unfolding_all rfl | kernel_rfl) ?_)
  refine set_first T X1 (k _ _ hx) T.nN fun h3 tk3 dx e => ?_
  show wpAny _ _ (execs _ _) _ _ _
  have z : s.heap.objs.size < h1.objs.size := hn.lt
  refine wpAny_execs_nil (hq h3 tk3 dx ⟨fun b o hb q => e.keep b o hb (k b o q), e.obj, ?_, e.dne, e.ns⟩)
  exact Nat.le_of_lt (Nat.lt_of_lt_of_le z e.dbig)
theorem call_eq {env : Env} {n : Int} {nk : Nat} {p1 p2 p3 p4 p5 p6 : Pos} (h : (p2.endLine == p6.line) = true) :
    eval (.Call (.Attribute (.Name "Refused" p1) "__init__" p2) [.Name "self" p3, .UnaryOp .USub (.Constant (.int n) nk p4) p5] [] p6) env = (do
      let ov ← eval (.Name "Refused" p1) env
      standAt p2.atName
      let (f, first) ← holding [ov] (getMethod ov "__init__" (do return (← importBound (.Name "Refused" p1) env).getD true))
      callWith p6 f first (backTo p6 (starEach [.Name "self" p3, .UnaryOp .USub (.Constant (.int n) nk p4) p5] env)) (backToKw p6 (keywordEach [] env))) := by
  rw [arm_eval_Call]
  have e : ∀ b : Bool, methodCallPos b (.Name "Refused" p1) env p2 p6 = pure p6 := fun b => by
    unfold methodCallPos
    rw [h, Bool.or_true, if_pos rfl]
  unfold methodCall
  rw [e]
  rfl
/-- the statement that calls it -/
theorem call_ref (T : CT K C) (TR : RT K mg CR fR) {x t0 L a : Addr} {n : Int} {nk : Nat} {name : Str} {scope : Scope} {cd : Value} {m : Str → Option Value} {p1 p2 p3 p4 p5 p6 p7 : Pos} {Q : Flow → Shared → Prop}
    (X : K.In s.heap) (hlim : s.heap.NoLimit) (G : s.heap.Ns mainGlobals mg) (hx : s.heap.get? x = some (excO C t0)) (hroom : A.depth < recursionLimit) (hc : (p2.endLine == p6.line) = true) (hn : s.heap.Ns L m) (hm : m "self" = some (.ref x))
    (hq : ∀ h' tk tn dx, FEnd s.heap h' x C dx t0 (fun (y : Str) => if y = "number" then some (Value.int (-n) tn) else none) → Q .next { s with heap := h', toks := tk })
    (hk : scope.kind = .function := by rfl) (hl : (envOfC name scope L a cd).kindOf "self" = some .local := by rfl) (hg : (envOfC name scope L a cd).kindOf "Refused" = some .globalImplicit := by rfl)
    (hgl : (envOfC name scope L a cd).globals = mainGlobals := by rfl) (hi : interactive (envOfC name scope L a cd) = false := by rfl) :
    wpAny (model prog w) A (exec (cS n nk p1 p2 p3 p4 p5 p6 p7) (envOfC name scope L a cd)) Q E s := by
  unfold cS
  refine wpAny_Expr_any ?_ hi
  refine methodCall_KW (Name_function_global hk hg (loadGlobal_global (by rw [hgl]; exact G) TR.gR ?_)) (call_eq hc)
  refine method_cls X TR.ga (cls_value X TR.rd TR.ini (by first | rfl | decide) ?_)
  refine callWith_K X TR.kp ?_
  show wpAny _ _ (spliced [(false, _), (false, _)]) _ _ _
  refine Calls.spliced_cons (rd_local (v := .ref x) hn hm ?_ hk hl)
  refine Calls.spliced_cons (UnaryOp_ (wpAny_Constant_int (P.neg_int (Calls.spliced_nil ?_))))
  refine ⟨X, wpAny_call (ref_init (s := { s with toks := s.toks + 1 + 1 + 1 }) T TR X hlim hx hroom fun h' tk dx e => ?_)⟩
  exact hq h' tk _ dx e
end
theorem FEnd.more {h h3 h' : Heap} {x C dx t0 : Addr} {m m' : Str → Option Value} (e : FEnd h h3 x C dx t0 m) (k : ∀ b o, b ≠ dx → h3.get? b = some o → h'.get? b = some o) (n : h'.Ns1 dx m') : FEnd h h' x C dx t0 m' :=
  ⟨fun b o hb q => k b o (Nat.ne_of_lt (Nat.lt_of_lt_of_le (Heap.lt_size q) e.dbig)) (e.keep b o hb q), k _ _ (Ne.symm e.dne) e.obj, e.dbig, e.dne, n⟩
theorem FEnd.back {h h1 h' : Heap} {x C dx t0 : Addr} {m : Str → Option Value} (e : FEnd h1 h' x C dx t0 m) (k : ∀ b o, h.get? b = some o → h1.get? b = some o) (z : h.objs.size ≤ h1.objs.size) : FEnd h h' x C dx t0 m :=
  ⟨fun b o hb q => e.keep b o hb (k b o q), e.obj, Nat.le_trans z e.dbig, e.dne, e.ns⟩
theorem in_but {K : Frag} {h h' : Heap} {x : Addr} (X : K.In h) (hx : K.lookup x = none) (k : ∀ b o, b ≠ x → h.get? b = some o → h'.get? b = some o) : K.In h' := fun a o e =>
  k a o (fun z => by rw [z, hx] at e; cases e) (X a o e)
/-- how the __init__ of C, at fI, goes with these arguments: P tells the fields -/
def Ini (K : Frag) (mg : Str → Option Value) (C fI : Addr) (us : List Value) (P : (Str → Option Value) → Prop) : Prop :=
  ∀ (prog : Program) (w : World) (A : Around) (R : Result → Shared → Prop) (s : Shared) (x t0 : Addr), K.In s.heap → s.heap.NoLimit → s.heap.Ns mainGlobals mg →
    s.heap.get? x = some (excO C t0) → K.lookup x = none → A.depth + 1 < recursionLimit → (∀ h' tk dx m, FEnd s.heap h' x C dx t0 m → P m → R (.ok (.ret .none)) { s with heap := h', toks := tk }) →
    codeAny (model prog w) A (.call (.ref fI) ⟨.ref x :: us, []⟩) R s
section
variable {K : Frag} {mg : Str → Option Value} {C CR fR fI : Addr} {qual : Str} {n : Int}
/-- def __init__(self): Refused.__init__(self, -n) -/
theorem ini_n (T : CT K C) (TR : RT K mg CR fR) (hf : ∃ p0 nk p1 p2 p3 p4 p5 p6 p7, (p2.endLine == p6.line) = true ∧ FnIn K fI qual (nA p0) [cS n nk p1 p2 p3 p4 p5 p6 p7] nS) :
    Ini K mg C fI [] (fun m => ∃ tn, m = fun (y : Str) => if y = "number" then some (Value.int (-n) tn) else none) := by
  intro prog w A R s x t0 X hlim G hx hnx hroom hq
  obtain ⟨p0, nk, p1, p2, p3, p4, p5, p6, p7, hln, oc, od, kV, doc, pm, an, cdv, ct, osl, ho, hcd⟩ := hf
  refine Att.call_fn (binds := [("self", .ref x)]) X hlim ho hcd (Nat.lt_of_succ_lt hroom) (BindsTo.of_eq (by first | rfl | with_unfolding_all rfl)) (by first | rfl | decide | with_unfolding_all rfl) (fun s1 IC => ?_) rfl rfl rfl
  obtain ⟨h1, tk1, rfl⟩ := IC.toInCall.same
  have k : ∀ b o, s.heap.get? b = some o → h1.get? b = some o := IC.toInCall.keep
  have hn := IC.toInCall.ns
  have z : s.heap.objs.size < h1.objs.size := hn.lt
  show wpAny _ _ (execs _ _) _ _ _
  refine wpAny_execs_cons ?_
  refine call_ref (s := { s with heap := h1, toks := tk1 }) T TR (X.keeps k) (hlim.keeps k) (G.keeps k) (k _ _ hx) hroom hln hn (by first | rfl | with_unfolding_all rfl | kernel_rfl) fun h3 tk3 tn dx e => ?_
  show wpAny _ _ (execs _ _) _ _ _
  exact wpAny_execs_nil (hq h3 tk3 dx _ (e.back k (Nat.le_of_lt z)) ⟨tn, rfl⟩)
/-- def __init__(self, fault): Refused.__init__(self, -n); self.fault = fault -/
theorem ini_f (T : CT K C) (TR : RT K mg CR fR) (nF : findIn K (.ref C) "fault" = some none)
    (hf : ∃ p0 p0' nk p1 p2 p3 p4 p5 p6 p7 q1 q2 q3 q4, (p2.endLine == p6.line) = true ∧ FnIn K fI qual (fA p0 p0') [cS n nk p1 p2 p3 p4 p5 p6 p7, stB "fault" "fault" q1 q2 q3 q4] fS) {v : Value} :
    Ini K mg C fI [v] (fun m => ∃ tn, m = fun (y : Str) => if y = "fault" then some v else if y = "number" then some (Value.int (-n) tn) else none) := by
  intro prog w A R s x t0 X hlim G hx hnx hroom hq
  obtain ⟨p0, p0', nk, p1, p2, p3, p4, p5, p6, p7, q1, q2, q3, q4, hln, oc, od, kV, doc, pm, an, cdv, ct, osl, ho, hcd⟩ := hf
  refine Att.call_fn (binds := [("self", .ref x), ("fault", v)]) X hlim ho hcd (Nat.lt_of_succ_lt hroom) (BindsTo.of_eq (by first | rfl | with_unfolding_all rfl)) (by first | rfl | decide | with_unfolding_all rfl) (fun s1 IC => ?_) rfl rfl rfl
  obtain ⟨h1, tk1, rfl⟩ := IC.toInCall.same
  have k : ∀ b o, s.heap.get? b = some o → h1.get? b = some o := IC.toInCall.keep
  have hn := IC.toInCall.ns
  have X1 : K.In h1 := X.keeps k
  have z : s.heap.objs.size < h1.objs.size := hn.lt
  have hxL : x ≠ s.heap.objs.size := Nat.ne_of_lt (Heap.lt_size hx)
  show wpAny _ _ (execs _ _) _ _ _
  refine wpAny_execs_cons ?_
  refine call_ref (s := { s with heap := h1, toks := tk1 }) T TR X1 (hlim.keeps k) (G.keeps k) (k _ _ hx) hroom hln hn (by first | rfl | with_unfolding_all rfl | kernel_rfl) fun h3 tk3 tn dx e => ?_
  have hn3 := hn.at (h' := h3) fun q hq => e.keep _ q (Ne.symm hxL) hq
  have X3 : K.In h3 := in_but X1 hnx e.keep
  show wpAny _ _ (execs _ _) _ _ _
  refine wpAny_execs_cons (plainObj_wpAny_Assign_Attribute ?_)
  refine rd_local (s := { s with heap := h3, toks := tk3 }) (v := v) hn3 (by first | rfl | with_unfolding_all rfl | kernel_rfl) (rd_local (v := .ref x) hn3 (by first | rfl | with_unfolding_all rfl | kernel_rfl) ?_)
  refine set_more (s := { s with heap := h3, toks := tk3 }) T X3 e.obj e.ns (Within.cons "number" _ Within.nil) (by decide) nF fun h4 tk4 k4 n4 => ?_
  show wpAny _ _ (execs _ _) _ _ _
  exact wpAny_execs_nil (hq h4 tk4 dx _ ((e.more k4 n4).back k (Nat.le_of_lt z)) ⟨tn, rfl⟩)
/-- def __init__(self, point, where): Refused.__init__(self, -n); self.point = point; self.where = where -/
theorem ini_w (T : CT K C) (TR : RT K mg CR fR) (nP : findIn K (.ref C) "point" = some none) (nW : findIn K (.ref C) "where" = some none)
    (hf : ∃ p0 p0' p0'' nk p1 p2 p3 p4 p5 p6 p7 q1 q2 q3 q4 r1 r2 r3 r4, (p2.endLine == p6.line) = true ∧ FnIn K fI qual (wA p0 p0' p0'') [cS n nk p1 p2 p3 p4 p5 p6 p7, stB "point" "point" q1 q2 q3 q4, stB "where" "where" r1 r2 r3 r4] wS) {v u : Value} :
    Ini K mg C fI [v, u] (fun m => ∃ tn, m = fun (y : Str) => if y = "where" then some u else if y = "point" then some v else if y = "number" then some (Value.int (-n) tn) else none) := by
  intro prog w A R s x t0 X hlim G hx hnx hroom hq
  obtain ⟨p0, p0', p0'', nk, p1, p2, p3, p4, p5, p6, p7, q1, q2, q3, q4, r1, r2, r3, r4, hln, oc, od, kV, doc, pm, an, cdv, ct, osl, ho, hcd⟩ := hf
  refine Att.call_fn (binds := [("self", .ref x), ("point", v), ("where", u)]) X hlim ho hcd (Nat.lt_of_succ_lt hroom) (BindsTo.of_eq (by first | rfl | with_unfolding_all rfl)) (by first | rfl | decide | with_unfolding_all rfl) (fun s1 IC => ?_) rfl rfl rfl
  obtain ⟨h1, tk1, rfl⟩ := IC.toInCall.same
  have k : ∀ b o, s.heap.get? b = some o → h1.get? b = some o := IC.toInCall.keep
  have hn := IC.toInCall.ns
  have X1 : K.In h1 := X.keeps k
  have z : s.heap.objs.size < h1.objs.size := hn.lt
  have hxL : x ≠ s.heap.objs.size := Nat.ne_of_lt (Heap.lt_size hx)
  show wpAny _ _ (execs _ _) _ _ _
  refine wpAny_execs_cons ?_
  refine call_ref (s := { s with heap := h1, toks := tk1 }) T TR X1 (hlim.keeps k) (G.keeps k) (k _ _ hx) hroom hln hn (by first | rfl | with_unfolding_all rfl | kernel_rfl) fun h3 tk3 tn dx e => ?_
  have hn3 := hn.at (h' := h3) fun q hq => e.keep _ q (Ne.symm hxL) hq
  have X3 : K.In h3 := in_but X1 hnx e.keep
  have hnd : K.lookup dx = none := by
    cases q : K.lookup dx with
    | none => rfl
    | some o => exact absurd (Heap.lt_size (X1 _ _ q)) (Nat.not_lt.mpr e.dbig)
  show wpAny _ _ (execs _ _) _ _ _
  refine wpAny_execs_cons (plainObj_wpAny_Assign_Attribute ?_)
  refine rd_local (s := { s with heap := h3, toks := tk3 }) (v := v) hn3 (by first | rfl | with_unfolding_all rfl | kernel_rfl) (rd_local (v := .ref x) hn3 (by first | rfl | with_unfolding_all rfl | kernel_rfl) ?_)
  refine set_more (s := { s with heap := h3, toks := tk3 }) T X3 e.obj e.ns (Within.cons "number" _ Within.nil) (by decide) nP fun h4 tk4 k4 n4 => ?_
  have e4 := e.more k4 n4
  have hn4 := hn3.at (h' := h4) fun q hq => k4 _ q (Nat.ne_of_lt (Nat.lt_of_lt_of_le z e.dbig)) hq
  have X4 : K.In h4 := in_but X3 hnd k4
  show wpAny _ _ (execs _ _) _ _ _
  refine wpAny_execs_cons (plainObj_wpAny_Assign_Attribute ?_)
  refine rd_local (s := { s with heap := h4, toks := tk4 }) (v := u) hn4 (by first | rfl | with_unfolding_all rfl | kernel_rfl) (rd_local (v := .ref x) hn4 (by first | rfl | with_unfolding_all rfl | kernel_rfl) ?_)
  refine set_more (s := { s with heap := h4, toks := tk4 }) T X4 e4.obj n4 (Within.cons "point" _ (Within.cons "number" _ Within.nil)) (by decide) nW fun h5 tk5 k5 n5 => ?_
  show wpAny _ _ (execs _ _) _ _ _
  exact wpAny_execs_nil (hq h5 tk5 dx _ ((e4.more k5 n5).back k (Nat.le_of_lt z)) ⟨tn, rfl⟩)
end
/-- a made error -/
structure Made (h h' : Heap) (e C d : Addr) (m : Str → Option Value) : Prop where
  keep : ∀ b o, h.get? b = some o → h'.get? b = some o
  new : h.objs.size ≤ e
  obj : ∃ oe vs, h'.get? e = some oe ∧ oe.cls = .ref C ∧ oe.dict = some d ∧ oe.data = .fields vs ∧ vs[1]? = some .none
  dbig : h.objs.size ≤ d
  dne : d ≠ e
  ns : h'.Ns1 d m
theorem made {prog : Program} {w : World} {A : Around} {R : Result → Shared → Prop} {s : Shared} {K : Frag} {mg : Str → Option Value} {C fI : Addr} {us : List Value} {P : (Str → Option Value) → Prop}
    (T : CT K C) (iC : findIn K (.ref C) "__init__" = some (some (.ref fI))) (tI : typeIn K (.ref fI) = some (.type "function")) (J : Ini K mg C fI us P) (hz : us.length ≤ sizeLine)
    (X : K.In s.heap) (hlim : s.heap.NoLimit) (G : s.heap.Ns mainGlobals mg) (hroom : A.depth + 2 < recursionLimit)
    (hq : ∀ h' tk e d m, Made s.heap h' e C d m → P m → R (.ok (.ret (.ref e))) { s with heap := h', toks := tk }) : codeAny (model prog w) A (.call (.ref C) ⟨us, []⟩) R s := by
  obtain ⟨nm, q, N, bs, bm, sn, sub, ab, col, dd, k0, k1, k2, k3, k5, hC, hbm⟩ := T.cls
  obtain ⟨hp, g, dr, tk, os⟩ := s
  have k : ∀ b o, hp.get? b = some o → ((hp.push (kdv_tup us)).push (excO C hp.objs.size)).get? b = some o := fun b o e => Heap.get?_push_of_some _ (Heap.get?_push_of_some _ e)
  have hget : ((hp.push (kdv_tup us)).push (excO C hp.objs.size)).get? (hp.objs.size + 1) = some (excO C hp.objs.size) := by heap_get
  have hnx : K.lookup (hp.objs.size + 1) = none := by
    cases e : K.lookup (hp.objs.size + 1) with
    | none => rfl
    | some o => exact absurd (Nat.lt_of_succ_lt (Heap.lt_size (X _ _ e))) (Nat.lt_irrefl _)
  refine call_own F.excBase_Exception (fun Y => excTail_contains Y bm hbm) (X _ _ hC) (looks_findIn X iC) (fun self => bind_fn X self tI) hz ?_
  refine J prog w _ _ ⟨(hp.push (kdv_tup us)).push (excO C hp.objs.size), g, dr, tk, os⟩ (hp.objs.size + 1) hp.objs.size (X.keeps k) (hlim.keeps k) (G.keeps k) hget hnx ?_ fun h' tk' dx m e p => ?_
  · show A.depth + 1 + 1 < recursionLimit
    exact hroom
  · have z : hp.objs.size + 1 + 1 ≤ dx := by
      have z1 := e.dbig
      rw [Heap.size_push, Heap.size_push] at z1
      exact z1
    refine ⟨rfl, hq h' tk' (hp.objs.size + 1) dx m ⟨fun b o q => ?_, Nat.le_succ _, ⟨_, _, e.obj, rfl, rfl, rfl, rfl⟩, Nat.le_trans (Nat.le_trans (Nat.le_succ _) (Nat.le_succ _)) z, e.dne, e.ns⟩ p⟩
    exact e.keep b o (Nat.ne_of_lt (Nat.lt_succ_of_lt (Heap.lt_size q))) (k b o q)
end Jx
end PySem
set_option Elab.async false
set_option linter.all false
set_option maxRecDepth 100000
set_option maxHeartbeats 4000000
namespace PySem
namespace Jx
open PySem.W PySem.Calls PyProof.Rows PySem.HandSPX
theorem Ini.imp {K : Frag} {mg : Str → Option Value} {C fI : Addr} {us : List Value} {P P' : (Str → Option Value) → Prop} (J : Ini K mg C fI us P) (h : ∀ m, P m → P' m) : Ini K mg C fI us P' :=
  fun prog w A R s x t0 X hl G hx hn hr hq => J prog w A R s x t0 X hl G hx hn hr fun h' tk dx m e p => hq h' tk dx m e (h m p)
end Jx
end PySem
namespace L2
open PySem PySem.Spec PyProof.Rows PySem.Jx
/-- what the written part says of an error's class: k arguments, g the fields that they make -/
structure ErrT (K : PySem.W.Frag) (mg : Str → Option Value) (C fI : Addr) (k : Nat) (g : List V → List (Str × V)) : Prop where
  ct : CT K C
  iC : PySem.W.findIn K (.ref C) "__init__" = some (some (.ref fI))
  tI : PySem.W.typeIn K (.ref fI) = some (.type "function")
  te : PySem.W.exmOne K (.ref C) (.ref C) = some true
  run : ∀ vs us, Vals vs us → vs.length = k → Ini K mg C fI us (fun m => ∀ f, RelO ((g vs).lookup f) (m f))
def tMkE (C : Addr) (k : Nat) (g : List V → List (Str × V)) (ta : TA) : St → Hp → XK → Prop := fun σ H Q => ta σ H fun vs H1 => vs.length = k ∧ k ≤ 10 ∧ ∀ d, H1 d = none → Q (.ref C) (some d) (upd H1 d (.xd (g vs)))
section
variable {X : Cx} {C fI : Addr} {k : Nat} {g : List V → List (Str × V)}
/-- the class is called: a new error, its dict tracked -/
theorem mk_err {pins : List (Addr × Obj)} {σ : St} {H1 : Hp} {s1 : Shared} {Q : XK} {vs : List V} {us : List Value} (T : ErrT X.K X.mg C fI k g) (hd : X.A.depth + 5 < recursionLimit) (I1 : Inv X pins σ H1 s1)
    (r1 : Vals vs us) (hl : vs.length = k) (hk : k ≤ 10) (q1 : ∀ d, H1 d = none → Q (.ref C) (some d) (upd H1 d (.xd (g vs)))) :
    wpAny (model X.prog X.w) X.A (call (.ref C) us) (MkP X pins σ Q) X.xe s1 := by
  have hlim := I1.nolimit
  have G := I1.mod.glob.keeps I1.bk
  have hz : us.length ≤ sizeLine := by
    rw [← Paired.length r1, hl, sizeLine_eq]
    omega
  obtain ⟨hp, gs, dr, tk, os⟩ := s1
  refine wpAny_call (made T.ct T.iC T.tI (T.run vs us r1 hl) hz I1.kIn hlim G (by omega) fun h' tk' e d m M rel => ?_)
  show MkP X pins σ Q (.ref e) ⟨h', gs, dr, tk', os⟩
  obtain ⟨oe, fv, hoe, hc, hd, hdat, h1⟩ := M.obj
  have hns := M.ns
  obtain ⟨G', g1, g2⟩ := restrict h' fun b => decide (b ≠ e)
  have gk : ∀ b, b ≠ e → G'.get? b = h'.get? b := fun b hb => g1 b (decide_eq_true hb)
  have ge : G'.get? e = none := g2 e (by simp)
  have old : ∀ b o, hp.get? b = some o → G'.get? b = some o := fun b o q => (gk b (Nat.ne_of_lt (Nat.lt_of_lt_of_le (Heap.lt_size q) M.new))).trans (M.keep b o q)
  have ob : ObjOk X.prog X.w (upd H1 d (.xd (g vs))) G' d (.xd (g vs)) := ⟨m, hns.at (fun o q => (gk d M.dne).trans q), rel⟩
  have J := I1.laid (t' := tk') old M.dbig ob
  refine ⟨e, oe, fv, ⟨G', gs, dr, tk', os⟩, _, .ref C, some d, rfl, J, fun b o q => ?_, ge, hoe, ⟨hc, hd⟩, hdat, h1, ?_, rfl, I1.bare, raises_own T.ct.exC T.ct.tyC, q1 d (I1.hok.fresh M.dbig)⟩
  · by_cases hb : b = e
    · have q' : G'.get? b = some o := q
      rw [hb, ge] at q'; cases q'
    · exact (gk b hb).symm.trans q
  · rw [upd_ne (Ne.symm M.dne)]
    exact I1.hok.fresh M.new
theorem pmk_err {a : Expr} {as : List Expr} {ta : TA} {x : Str} {p pos : Pos} {j : Nat} (T : ErrT X.K X.mg C fI k g) (hm : X.mg x = some (.ref C)) (hr : Room j X.A) (ha : PA X (a :: as) ta) (hg : Gl X x := by rfl) (hdb : (x == ("__debug__" : Str)) = false := by decide)
    (he : starEach (a :: as) X.env = (false, eval a X.env) :: starEach as X.env := by rfl) (hpl : (backTo pos (starEach as X.env)).any (·.1) = false := by rfl) :
    PMk X (.Call (.Name x p) (a :: as) [] pos) (tMkE C k g ta) := by
  intro pins s σ H Q I h
  refine wpAny_Call_Name_kw (ld_glob I hg hm ?_ hdb)
  refine PySem.W.callWith_K (h₀ := X.base) I.ok.mod.kin T.ct.kC (thn (ha.run pos pins s σ H _ I h) fun us s1 ⟨vs, H1, I1, r1, hl, hk, q1⟩ => ?_) he hpl
  exact ⟨I1.kIn, mk_err T (by have := hr.dp; omega) I1 r1 hl hk q1⟩
theorem pmk_err0 {x : Str} {p pos : Pos} {j : Nat} (T : ErrT X.K X.mg C fI 0 g) (hm : X.mg x = some (.ref C)) (hr : Room j X.A) (hg : Gl X x := by rfl) (hdb : (x == ("__debug__" : Str)) = false := by decide) :
    PMk X (.Call (.Name x p) [] [] pos) (tMkE C 0 g tNil) := by
  intro pins s σ H Q I h
  obtain ⟨hl, hk, q1⟩ := h
  refine wpAny_Call_Name_kw (ld_glob I hg hm ?_ hdb)
  exact PySem.W.callWith_K0 I.kIn T.ct.kC (mk_err (us := []) T (by have := hr.dp; omega) I .nil rfl (by omega) q1)
/-- raise C(e, ..) -/
theorem ps_raise_err {W : WX} {e : Expr} {t : St → Hp → XK → Prop} {pos2 : Pos} (hc : X.calm = true) (tk : Takes X W) (h : PMk X e t) :
    PS X (.Raise (some e) none pos2) (fun _ σ H => t σ H fun cls d H' => W cls d σ H') := ps_raise hc tk h
/-- e.f, e the error that the suite holds (at a; its class cls, its dict d) -/
def tErrF (K : PySem.W.Frag) (f : Str) (a : Addr) (cls : Value) (d : Option Addr) (te : TE) : TE := fun σ H Q => te σ H fun x H1 => x = .ref a ∧ ∃ (C dd : Addr) (fs : List (Str × V)) (v : V), cls = .ref C ∧ CT K C ∧ PySem.W.findIn K (.ref C) f = some none ∧
  d = some dd ∧ H1 dd = some (.xd fs) ∧ fs.lookup f = some v ∧ Q v H1
theorem pe_errF {f : Str} {a : Addr} {oe : Obj} {cls : Value} {d : Option Addr} {pn : List (Addr × Obj)} {e : Expr} {te : TE} {pos : Pos} (hz : Zc cls d oe) (hf : ∃ vs, oe.data = .fields vs) (he : PE (X.suite a ((a, oe) :: pn)) e te)
    (hb : attributeBase e f X.env (eval e X.env) = eval e X.env := by rfl) : PE (X.suite a ((a, oe) :: pn)) (.Attribute e f pos) (tErrF X.K f a cls d te) := by
  refine ⟨fun pins s σ H Q I h => ?_⟩
  refine attr_of hb (thn (he.run pins s σ H _ I h) fun u s1 hh => ?_)
  obtain ⟨x, H1, I1, rx, ex, C, dd, fs, v, ec, T, nf, ed, ea, l, q⟩ := hh
  subst ex
  obtain rfl : u = Value.ref a := rx
  subst ec
  subst ed
  obtain ⟨ha, _⟩ := I1.pin (a, oe) (List.mem_append_left _ List.mem_cons_self)
  obtain ⟨vs, hd⟩ := hf
  have hx : ObjOk X.prog X.w H1 s1.heap dd (.xd fs) := I1.hok dd _ ea
  obtain ⟨mA, hns, hr⟩ := hx
  obtain ⟨od, ho, hl⟩ := lookIn_ns hns
  obtain ⟨u, hu, ru⟩ := RelO.some_of (v := v) (o := mA f) (by rw [← l]; exact hr f)
  have J : PySem.W.InstAt s1.heap a oe C (some od) := ⟨ha, hz.1, by unfold PySem.W.notCls; rw [hd] <;> rfl, by rw [hz.2]; exact ho⟩
  exact HandSPX.exc_get I1.kIn J T.ga T.gg T.exC (PySem.W.findObj_own T.hdC nf rfl (by rw [hl, hu])) (handed_of ru) ⟨v, H1, I1.tok _, ru, q⟩
end
/-! ### the classes of this program -/
theorem err_n {K : PySem.W.Frag} {mg : Str → Option Value} {C CR fR fI : Addr} {qual : Str} {n : Int} (T : CT K C) (TR : RT K mg CR fR) (iC : PySem.W.findIn K (.ref C) "__init__" = some (some (.ref fI))) (tI : PySem.W.typeIn K (.ref fI) = some (.type "function")) (te : PySem.W.exmOne K (.ref C) (.ref C) = some true)
    (hf : ∃ p0 nk p1 p2 p3 p4 p5 p6 p7, (p2.endLine == p6.line) = true ∧ FnIn K fI qual (nA p0) [cS n nk p1 p2 p3 p4 p5 p6 p7] nS) : ErrT K mg C fI 0 (fun _ => [("number", .int (-n))]) :=
  ⟨T, iC, tI, te, fun vs us r hl => by
    cases r with
    | cons _ _ => cases hl
    | nil =>
      refine (ini_n T TR hf).imp fun m ⟨tn, e⟩ f => ?_
      subst e
      exact relO_put (y := .int (-n)) (u := .int (-n) tn) (fs := []) (mA := fun _ => none) ⟨tn, rfl⟩ (fun _ => True.intro) f⟩
theorem err_f {K : PySem.W.Frag} {mg : Str → Option Value} {C CR fR fI : Addr} {qual : Str} {n : Int} (T : CT K C) (TR : RT K mg CR fR) (nF : PySem.W.findIn K (.ref C) "fault" = some none) (iC : PySem.W.findIn K (.ref C) "__init__" = some (some (.ref fI))) (tI : PySem.W.typeIn K (.ref fI) = some (.type "function")) (te : PySem.W.exmOne K (.ref C) (.ref C) = some true)
    (hf : ∃ p0 p0' nk p1 p2 p3 p4 p5 p6 p7 q1 q2 q3 q4, (p2.endLine == p6.line) = true ∧ FnIn K fI qual (fA p0 p0') [cS n nk p1 p2 p3 p4 p5 p6 p7, stB "fault" "fault" q1 q2 q3 q4] fS) :
    ErrT K mg C fI 1 (fun vs => [("fault", vs.getD 0 .non), ("number", .int (-n))]) :=
  ⟨T, iC, tI, te, fun vs us r hl => by
    cases r with
    | nil => cases hl
    | cons r1 r =>
      cases r with
      | cons _ _ => cases hl
      | nil =>
        refine (ini_f T TR nF hf).imp fun m ⟨tn, e⟩ f => ?_
        subst e
        exact relO_put (fs := [("number", V.int (-n))]) (mA := fun (y : Str) => if y = "number" then some (Value.int (-n) tn) else none) r1 (relO_put (y := .int (-n)) (u := .int (-n) tn) (fs := []) (mA := fun _ => none) ⟨tn, rfl⟩ (fun _ => True.intro)) f⟩
theorem err_w {K : PySem.W.Frag} {mg : Str → Option Value} {C CR fR fI : Addr} {qual : Str} {n : Int} (T : CT K C) (TR : RT K mg CR fR) (nP : PySem.W.findIn K (.ref C) "point" = some none) (nW : PySem.W.findIn K (.ref C) "where" = some none) (iC : PySem.W.findIn K (.ref C) "__init__" = some (some (.ref fI))) (tI : PySem.W.typeIn K (.ref fI) = some (.type "function")) (te : PySem.W.exmOne K (.ref C) (.ref C) = some true)
    (hf : ∃ p0 p0' p0'' nk p1 p2 p3 p4 p5 p6 p7 q1 q2 q3 q4 r1 r2 r3 r4, (p2.endLine == p6.line) = true ∧ FnIn K fI qual (wA p0 p0' p0'') [cS n nk p1 p2 p3 p4 p5 p6 p7, stB "point" "point" q1 q2 q3 q4, stB "where" "where" r1 r2 r3 r4] wS) :
    ErrT K mg C fI 2 (fun vs => [("where", vs.getD 1 .non), ("point", vs.getD 0 .non), ("number", .int (-n))]) :=
  ⟨T, iC, tI, te, fun vs us r hl => by
    cases r with
    | nil => cases hl
    | cons r1 r =>
      cases r with
      | nil => cases hl
      | cons r2 r =>
        cases r with
        | cons _ _ => cases hl
        | nil =>
          refine (ini_w T TR nP nW hf).imp fun m ⟨tn, e⟩ f => ?_
          subst e
          refine relO_put (fs := [("point", _), ("number", V.int (-n))]) (mA := fun (y : Str) => if y = "point" then some _ else if y = "number" then some (Value.int (-n) tn) else none) r2 ?_ f
          exact relO_put (fs := [("number", V.int (-n))]) (mA := fun (y : Str) => if y = "number" then some (Value.int (-n) tn) else none) r1 (relO_put (y := .int (-n)) (u := .int (-n) tn) (fs := []) (mA := fun _ => none) ⟨tn, rfl⟩ (fun _ => True.intro))⟩
end L2
set_option Elab.async false
set_option linter.all false
set_option maxRecDepth 100000
set_option maxHeartbeats 4000000
namespace L2
open PySem PySem.Spec PyProof.Rows PySem.Jx
/-! ### try: body, except c1 as n: .., except c2 as n: .. (slot i is n's) -/
abbrev Suite := Addr → Value → Option Addr → TS
abbrev unset (i : Nat) (D : Ends) : Ends := { nx := fun σ' H' => D.nx (σ'.set i none) H', rt := D.rt, bk := fun σ' H' => D.bk (σ'.set i none) H', ct := fun σ' H' => D.ct (σ'.set i none) H' }
def wEach (K : PySem.W.Frag) (i : Nat) (Wout : WX) (D : Ends) : List (Value × Suite) → WX
  | [] => Wout
  | (c, ts) :: r => fun cls d σ H => ∃ b, PySem.W.exmOne K cls c = some b ∧ (b = true → ∀ a, H a = none → ts a cls d (unset i D) (σ.set i (some (.ref a))) H) ∧ (b = false → wEach K i Wout D r cls d σ H)
inductive HdsAs (X : Cx) (n : Str) : List ExceptHandler → List (Value × Suite) → Prop
  | nil : HdsAs X n [] []
  | cons {x : Str} {c : Value} {ts : Suite} {b0 : Stmt} {su : List Stmt} {np pq : Pos} {hs : List ExceptHandler} {l : List (Value × Suite)} (hc : Names X x c)
      (hsu : ∀ (a : Addr) (oe : Obj) (cls : Value) (d : Option Addr) (pn : List (Addr × Obj)), Zc cls d oe → (∃ vs, oe.data = .fields vs) → PSs (X.suite a ((a, oe) :: pn)) (b0 :: su) (ts a cls d)) (r : HdsAs X n hs l) :
      HdsAs X n (.ExceptHandler (some (.Name x np)) (some n) (b0 :: su) pq :: hs) ((c, ts) :: l)
section
variable {X : Cx} {n : Str} {i : Nat} {body : List Stmt} {e0 : ExceptHandler} {es : List ExceptHandler} {l : List (Value × Suite)} {pos : Pos} {tb : WX → TS} {Wout : WX}
/-- the clauses, asked one after the other, of an error that is back on the ground -/
theorem clauses (hst : X.stack = X.env :: X.outer) (hfm : X.env.frame = some X.env.locals) (hN : X.N.Nodup) (hi : X.N[i]? = some n) (hln : X.env.kindOf n = some .local) (tk : Takes X Wout)
    {pins : List (Addr × Obj)} {σ : St} {H : Hp} {sI s3 : Shared} {a : Addr} {B : Heap} {cls : Value} {d : Option Addr} {D : Ends} (J : Inv X pins σ H sI)
    (nb : ∀ b o, sI.heap.get? b = some o → b ∉ frs X.stack → B.get? b = some o) (up : sI.heap.UpToSlots s3.heap) (fl : HandSPX.FlyingZ B (X.env :: X.outer) a (Zc cls d) s3.heap) (na : H a = none) (os : s3.os = sI.os) (ag : AllBare s3.gens) :
    ∀ {hs : List ExceptHandler} {l : List (Value × Suite)}, HdsAs X n hs l → wEach X.K i Wout D l cls d σ H → wpAny (model X.prog X.w) X.A (handleBy (.ref a) X.env hs) (SP X pins D) X.xe s3 := by
  have kOk := J.ok
  have J3 : Inv X pins σ H s3 := J.landed nb fl.1 up os ag
  obtain ⟨oe3, vs3, he3, hz3, hd3⟩ := fl.there
  have away : a ∉ frs (X.env :: X.outer) := fun hm => by
    obtain ⟨_, o2, e2, hnf⟩ := fl.2.2.1.mem hm
    rw [he3] at e2
    cases e2
    exact hnf _ hd3
  have nL : a ≠ X.env.locals := fun z => away (List.mem_filterMap.mpr ⟨X.env, List.mem_cons_self .., by rw [hfm, z]⟩)
  have nF : a ∉ X.fs := fun hm => by
    obtain ⟨e1, m1, q1⟩ := List.mem_filterMap.mp hm
    exact away (List.mem_filterMap.mpr ⟨e1, List.mem_cons_of_mem _ m1, q1⟩)
  have S3 := J3.suite he3 hd3 na nL nF
  intro hs l hk
  induction hk with
  | nil =>
    intro wo
    refine wpAny_handleBy_nil ?_
    obtain ⟨_, _, _, oe, vs, T, oT, ts2, he, hz, hd, h1, hr⟩ := id fl
    unfold PySem.passOn
    refine wpAny_bind (wpAny_field he hd h1 ?_)
    rw [if_neg (show ¬ ((Value.ref T == Value.none) = true) by simp)]
    have last : wpAny (model X.prog X.w) X.A (setFlight (.ref a) X.env.frame) (fun _ s4 => wpAny (model X.prog X.w) X.A (throw (.ref a) : Sem Flow) (SP X pins D) X.xe s4) X.xe s3 := by
      rw [hfm]
      refine HandSPX.setFlight_upZ fl fun h4 hh4 up4 => wpAny_throw (tk _ _ ?_)
      refine ⟨a, B, sI, pins, σ, H, cls, d, rfl, J, nb, up.trans up4, ?_, na, os, ag, wo⟩
      rw [hst]
      exact .inr (.inr hh4)
    first
      | exact wpAny_bind (wpAny_pure (wpAny_bind last))
      | exact wpAny_bind last
  | @cons x c ts b0 su np pq hs2 l2 hc hsu r ih =>
    intro wo
    obtain ⟨b, hb1, yes, nope⟩ := wo
    have LT : PySem.W.Looks (model X.prog X.w) s3.heap (typeOf (.ref a)) cls := fun A1 Q1 E1 s1 k q => wpAny_typeOf_ref (k _ _ he3) (by rw [hz3.1]; exact q)
    have LM := PySem.W.exm_one (M := model X.prog X.w) J3.kIn LT hb1
    refine wpAny_handleBy_cons (codeAny_handlers_test ?_) (by intro z; cases z)
    have named : ∀ {Q : Value → Shared → Prop} {E : Value → Shared → Prop}, Q c s3 → wpAny (model X.prog X.w) (X.A.mark (some (.ref a))) (eval (.Name x np) X.env) Q E s3 := fun {Q E} q => by
      obtain ⟨hg, hdb, hm | ⟨hm, hv, hnn⟩⟩ := hc
      · exact ld_glob (X := X.suite a ((a, oe3) :: (X.pn ++ pins))) S3 hg hm q hdb
      · exact ld_blt (X := X.suite a ((a, oe3) :: (X.pn ++ pins))) S3 hg hm hv q hnn hdb
    refine named (LM.here ?_)
    cases b with
    | false =>
      show wpAny _ X.A (handleBy (.ref a) X.env hs2) _ _ _
      exact ih (nope rfl)
    | true =>
      refine codeAny_handlers_suite_as ?_
      refine HandSPX.lands_againZ fl fun h4 fl4 up4 => ?_
      have J4 : Inv X pins σ H { s3 with heap := h4 } := J.landed nb fl4.1 (up.trans up4) os ag
      obtain ⟨oe4, vs4, he4, hz4, hd4⟩ := fl4.there
      have S4 := J4.suite he4 hd4 na nL nF
      refine store_ok (X := X.suite a ((a, oe4) :: (X.pn ++ pins))) (v := .ref a) S4 hN hi (.inl hln) rfl (fun s5 S5 => ?_) (.inr hln)
      refine wpAny_mono ((hsu a oe4 cls d (X.pn ++ pins) hz4 ⟨_, hd4⟩).run [] s5 _ H _ S5 (yes rfl a na)) (fun f s6 sp => ?_) (fun _ _ z => False.elim z)
      have off : ∀ {σ6 : St} {H6 : Hp} {Q : Shared → Prop}, Inv (X.suite a ((a, oe4) :: (X.pn ++ pins))) [] σ6 H6 s6 → (∀ s7, Inv X pins (σ6.set i none) H6 s7 → Q s7) →
          wpAny (model X.prog X.w) X.A (do bindName X.env n .none; unbindBehindTheSuite X.env n pq) (fun _ s7 => Q s7) X.xe s6 := fun S6 hq => gone_ok (S6.unsuite kOk) hN hi hln hq
      cases f with
      | ret u =>
        obtain ⟨v6, σ6, H6, S6, r6, q6⟩ := sp
        exact off S6 fun s7 J7 => ⟨_, _, _, J7, r6, q6⟩
      | next =>
        obtain ⟨σ6, H6, S6, q6⟩ := sp
        exact off S6 fun s7 J7 => ⟨_, _, J7, q6⟩
      | brk =>
        obtain ⟨σ6, H6, S6, q6⟩ := sp
        exact off S6 fun s7 J7 => ⟨_, _, J7, q6⟩
      | cont =>
        obtain ⟨σ6, H6, S6, q6⟩ := sp
        exact off S6 fun s7 J7 => ⟨_, _, J7, q6⟩
theorem ps_try_each (hst : X.stack = X.env :: X.outer) (hfm : X.env.frame = some X.env.locals) (hN : X.N.Nodup) (hi : X.N[i]? = some n) (hln : X.env.kindOf n = some .local) (tk : Takes X Wout)
    (hb : ∀ (W : WX) (pn : List (Addr × Obj)) (xe : Value → Shared → Prop), Takes (X.tr pn xe) W → PassesOwn (model X.prog X.w) X.A X.env xe → PSs (X.tr pn xe) body (tb W))
    (hh : HdsAs X n (e0 :: es) l) : PS X (.Try body (e0 :: es) [] [] pos) (fun D σ H => tb (wEach X.K i Wout D l) D σ H) := by
  refine ⟨fun pins0 s0 σ0 H0 D0 I0 w0 => ?_⟩
  have kOk := I0.ok
  have hF : X.A.frames = some (X.env :: X.outer) := by rw [kOk.frames, hst]
  refine wpAny_Try_except ?_
  refine wpAny_mono ((hb (wEach X.K i Wout D0 l) (X.pn ++ pins0) (fun e s1 => wpAny (model X.prog X.w) X.A (noteFrame e X.env) (fun _ s2 => wpAny (model X.prog X.w) X.A (setFlight e none) (fun _ s3 =>
    wpAny (model X.prog X.w) X.A (handleBy e X.env (e0 :: es)) (SP X pins0 D0) X.xe s3) X.xe s2) X.xe s1) (fun u s' xx => ?_) PassesOwn.looking).run [] s0 σ0 H0 D0 (I0.toTry _) w0) (fun f s1 sp => ?_) (fun _ _ z => z)
  · obtain ⟨a, B, sI, pinsA, σA, HA, cls, d, rfl, JA, nb, up, sky, na, os, ag, wo⟩ := xx
    have skyA : Sky B (X.env :: X.outer) a (Zc cls d) X.env.locals s'.heap := by rw [← hst]; exact sky
    show wpAny (model X.prog X.w) X.A (noteFrame (.ref a) X.env) _ _ _
    refine Sky.land Zc.steady hF hfm skyA fun h3 fl3 up3 => ?_
    exact clauses (s3 := { s' with heap := h3 }) hst hfm hN hi hln tk (JA.ofTry kOk) nb (up.trans up3) fl3 na os ag hh wo
  · cases f with
    | ret u =>
      obtain ⟨v, σ', H', J', r, q⟩ := sp
      exact ⟨v, σ', H', J'.ofTry kOk, r, q⟩
    | next =>
      obtain ⟨σ', H', J', q⟩ := sp
      exact wpAny_execs_nil ⟨σ', H', J'.ofTry kOk, q⟩
    | brk =>
      obtain ⟨σ', H', J', q⟩ := sp
      exact ⟨σ', H', J'.ofTry kOk, q⟩
    | cont =>
      obtain ⟨σ', H', J', q⟩ := sp
      exact ⟨σ', H', J'.ofTry kOk, q⟩
end
end L2
set_option linter.all false
namespace RdM
open BrPart BrRead
abbrev at_ (B : Bytes) (p : Nat) : Nat × Bytes := (p, B.drop p)
section
variable {α β γ : Type} {m : Rd α} {k : α → Rd β} {s s' : Nat × Bytes} {x : α} {f : Nat}
theorem bind_ok (h : m s = .ok (x, s')) : (m >>= k) s = k x s' := by
  show Except.bind (m s) (fun a => k a.1 a.2) = _
  rw [h]
  rfl
theorem bind_er (h : m s = .error f) : (m >>= k) s = .error f := by
  show Except.bind (m s) (fun a => k a.1 a.2) = _
  rw [h]
  rfl
theorem pure_at : (pure x : Rd α) s = .ok (x, s) := rfl
end
variable {B : Bytes} {p : Nat}
theorem peek_at : peek (at_ B p) = .ok (B[p]?, at_ B p) := by
  show Except.ok ((B.drop p).head?, at_ B p) = _
  rw [List.head?_drop]
theorem skip_at : skip (at_ B p) = .ok ((), at_ B (p + 1)) := by
  show Except.ok ((), (p + 1, (B.drop p).drop 1)) = _
  rw [List.drop_drop]
theorem stray_at {α : Type} : (stray : Rd α) (at_ B p) = .error p := rfl
theorem byte_yes {c : UInt8} (h : B[p]? = some c) : byte_ c (at_ B p) = .ok ((), at_ B (p + 1)) := by
  unfold byte_
  rw [bind_ok peek_at, if_pos h]
  exact skip_at
theorem byte_no {c : UInt8} (h : ¬ B[p]? = some c) : byte_ c (at_ B p) = .error p := by
  unfold byte_
  rw [bind_ok peek_at, if_neg h]
  rfl
theorem bytes_cons {c : UInt8} {r : Bytes} : bytes_ (c :: r) = (byte_ c >>= fun _ => bytes_ r) := rfl
theorem bytes_one {c : UInt8} : bytes_ [c] = byte_ c := by
  show (byte_ c >>= fun _ => pure ()) = byte_ c
  simp
/-! ### what Python sees -/
def nb (B : Bytes) (p : Nat) : Int := match B[p]? with
  | some c => (c.toNat : Int)
  | none => 256
theorem nb_some {c : UInt8} (h : B[p]? = some c) : nb B p = (c.toNat : Int) := by
  unfold nb
  rw [h]
theorem nb_none (h : B[p]? = none) : nb B p = 256 := by
  unfold nb
  rw [h]
theorem nb_end : nb B B.length = 256 := nb_none (by simp)
theorem nb_cases : (∃ c, B[p]? = some c ∧ nb B p = (c.toNat : Int) ∧ p < B.length) ∨ (B[p]? = none ∧ nb B p = 256) := by
  cases h : B[p]? with
  | none => exact .inr ⟨rfl, nb_none h⟩
  | some c => exact .inl ⟨c, rfl, nb_some h, (List.getElem?_eq_some_iff.mp h).1⟩
theorem u8_lt (c : UInt8) : c.toNat < 256 := c.toNat_lt
/-- the next byte is this one -/
theorem nb_is {c : UInt8} : nb B p = (c.toNat : Int) ↔ B[p]? = some c := by
  constructor
  · intro h
    rcases nb_cases (B := B) (p := p) with ⟨d, hd, e, _⟩ | ⟨hd, e⟩
    · rw [e] at h
      have h2 : d.toNat = c.toNat := by omega
      rw [hd, UInt8.toNat_inj.mp h2]
    · rw [e] at h
      have := u8_lt c
      omega
  · exact nb_some
/-! ### names -/
def letter (b : Int) : Bool := decide (97 ≤ b) && decide (b ≤ 122)
def digit (b : Int) : Bool := decide (48 ≤ b) && decide (b ≤ 57)
def fitsN (b i : Int) : Bool := letter b || (decide (i > 0) && digit b)
theorem letter_low (c : UInt8) : letter (c.toNat : Int) = isLow c := by
  unfold letter isLow
  congr 1 <;> exact decide_eq_decide.mpr (by omega)
theorem digit_is (c : UInt8) : digit (c.toNat : Int) = isDigit c := by
  unfold digit isDigit
  congr 1 <;> exact decide_eq_decide.mpr (by omega)
theorem letter_end : letter 256 = false := rfl
theorem digit_end : digit 256 = false := rfl
theorem fits_end (i : Int) : fitsN 256 i = false := by
  unfold fitsN
  rw [letter_end, digit_end, Bool.and_false]
  rfl
abbrev lowDig (c : UInt8) : Bool := isLow c || isDigit c
theorem while_yes {f : UInt8 → Bool} {n : Nat} {c : UInt8} (h : B[p]? = some c) (hf : f c = true) : while_ f (n + 1) (at_ B p) = ((while_ f n >>= fun r => pure (c :: r)) : Rd Bytes) (at_ B (p + 1)) := by
  rw [while_, bind_ok peek_at, h]
  show (if f c = true then (_ : Rd Bytes) else (_ : Rd Bytes)) _ = _
  rw [if_pos hf, bind_ok skip_at]
theorem while_no {f : UInt8 → Bool} {n : Nat} (h : ∀ c, B[p]? = some c → f c = false) : while_ f n (at_ B p) = .ok ([], at_ B p) := by
  cases n with
  | zero => rfl
  | succ n =>
    rw [while_, bind_ok peek_at]
    cases e : B[p]? with
    | none => rfl
    | some c =>
      show (if f c = true then (_ : Rd Bytes) else (_ : Rd Bytes)) _ = _
      rw [if_neg (by rw [h c e]; exact Bool.false_ne_true)]
      rfl
/-- the bytes from p up to q -/
def cut (B : Bytes) (p q : Nat) : Bytes := (B.drop p).take (q - p)
theorem cut_nil : cut B p p = [] := by
  unfold cut
  rw [Nat.sub_self, List.take_zero]
theorem cut_more {q : Nat} {c : UInt8} (hpq : p ≤ q) (h : B[q]? = some c) : cut B p (q + 1) = cut B p q ++ [c] := by
  unfold cut
  have e : q + 1 - p = (q - p) + 1 := by omega
  have h2 : (B.drop p)[q - p]? = some c := by
    rw [List.getElem?_drop]
    have : p + (q - p) = q := by omega
    rw [this, h]
  rw [e, List.take_add_one, h2]
  rfl
structure NameAt (B : Bytes) (p q : Nat) : Prop where
  lo : p ≤ q
  hi : q ≤ p + 8
  len : q ≤ B.length
  told : p < q → name_ (at_ B p) = ((while_ lowDig (8 - (q - p)) >>= fun r => pure (cut B p q ++ r)) : Rd Bytes) (at_ B q)
theorem NameAt.start (h : p ≤ B.length) : NameAt B p p := ⟨Nat.le_refl _, by omega, h, fun z => absurd z (Nat.lt_irrefl _)⟩
theorem NameAt.step {q : Nat} (N : NameAt B p q) (h8 : q - p < 8) (hf : fitsN (nb B q) ((q : Int) - p) = true) : NameAt B p (q + 1) := by
  obtain ⟨h1, h2, h3, h4⟩ := N
  rcases nb_cases (B := B) (p := q) with ⟨c, hc, e, hl⟩ | ⟨_, e⟩
  · refine ⟨by omega, by omega, by omega, fun _ => ?_⟩
    rw [e] at hf
    unfold fitsN at hf
    rw [letter_low, digit_is] at hf
    by_cases hpq : p < q
    · have hd : decide ((q : Int) - p > 0) = true := decide_eq_true (by omega)
      rw [hd, Bool.true_and] at hf
      rw [h4 hpq]
      have e8 : 8 - (q - p) = (8 - (q + 1 - p)) + 1 := by omega
      rw [e8]
      show ((while_ lowDig (8 - (q + 1 - p) + 1) >>= fun r => pure (cut B p q ++ r)) : Rd Bytes) (at_ B q) = _
      have w := while_yes (n := 8 - (q + 1 - p)) hc (f := lowDig) hf
      have w2 : ∀ (s : Nat × Bytes), ((while_ lowDig (8 - (q + 1 - p)) >>= fun r => pure (cut B p (q + 1) ++ r)) : Rd Bytes) s = (((while_ lowDig (8 - (q + 1 - p)) >>= fun r => pure (c :: r)) >>= fun r => pure (cut B p q ++ r)) : Rd Bytes) s := by
        intro s
        rw [bind_assoc]
        simp only [pure_bind]
        rw [cut_more h1 hc]
        simp [List.append_assoc]
      rw [w2]
      cases hw : ((while_ lowDig (8 - (q + 1 - p)) >>= fun r => pure (c :: r)) : Rd Bytes) (at_ B (q + 1)) with
      | error f => rw [bind_er hw, bind_er (w.trans hw)]
      | ok y =>
        obtain ⟨y, s⟩ := y
        rw [bind_ok hw, bind_ok (w.trans hw)]
    · have : q = p := by omega
      subst this
      have hd : decide ((q : Int) - q > 0) = false := decide_eq_false (by omega)
      rw [hd, Bool.false_and, Bool.or_false] at hf
      unfold name_
      rw [bind_ok peek_at, hc]
      show (if isLow c = true then (_ : Rd Bytes) else (_ : Rd Bytes)) _ = _
      rw [if_pos hf, bind_ok skip_at]
      have e7 : 8 - (q + 1 - q) = 7 := by omega
      rw [e7, cut_more (Nat.le_refl _) hc, cut_nil]
      rfl
  · rw [e, fits_end] at hf
    cases hf
theorem NameAt.stop {q : Nat} (N : NameAt B p q) (h : q - p = 8 ∨ fitsN (nb B q) ((q : Int) - p) = false) (hpq : p < q) : name_ (at_ B p) = .ok (cut B p q, at_ B q) := by
  rw [N.told hpq]
  have w : while_ lowDig (8 - (q - p)) (at_ B q) = .ok ([], at_ B q) := by
    rcases h with h | h
    · rw [h]
      rfl
    · refine while_no fun c hc => ?_
      rw [nb_some hc] at h
      unfold fitsN at h
      rw [letter_low, digit_is] at h
      have hd : decide ((q : Int) - p > 0) = true := decide_eq_true (by omega)
      rw [hd, Bool.true_and] at h
      exact h
  rw [bind_ok w, List.append_nil]
  rfl
theorem NameAt.none (h : fitsN (nb B p) ((p : Int) - p) = false) : name_ (at_ B p) = .error p := by
  unfold name_
  rw [bind_ok peek_at]
  cases e : B[p]? with
  | none => rfl
  | some c =>
    rw [nb_some e] at h
    unfold fitsN at h
    have hd : decide ((p : Int) - p > 0) = false := decide_eq_false (by omega)
    rw [letter_low, hd, Bool.false_and, Bool.or_false] at h
    show (if isLow c = true then (_ : Rd Bytes) else (_ : Rd Bytes)) _ = _
    rw [if_neg (by rw [h]; exact Bool.false_ne_true)]
    rfl
/-! ### numbers -/
theorem leads {hi n : Nat} (hn : 0 < n) : leadsTo 1 hi n = decide (n ≤ hi) := by
  unfold leadsTo
  rw [if_neg (by omega)]
  by_cases h : n ≤ hi
  · rw [decide_eq_true h, List.any_eq_true]
    refine ⟨0, by simp, ?_⟩
    simp only [Nat.pow_zero, Nat.mul_one, Bool.and_eq_true, decide_eq_true_eq]
    omega
  · rw [decide_eq_false h]
    rw [← Bool.not_eq_true, List.any_eq_true]
    rintro ⟨k, _, hk⟩
    simp only [Bool.and_eq_true, decide_eq_true_eq] at hk
    have h10 : 1 ≤ 10 ^ k := Nat.pos_of_ne_zero (by simp)
    have : n * 1 ≤ n * 10 ^ k := Nat.mul_le_mul_left n h10
    omega
theorem leads0 {hi : Nat} : leadsTo 1 hi 0 = false := rfl
/-- what was read so far -/
def so (v : Nat) : Option Nat := if v = 0 then none else some v
theorem so_getD (v : Nat) : (so v).getD 0 = v := by
  unfold so
  split
  · rename_i h; rw [h]; rfl
  · rfl
theorem so_ne (v : Nat) : so v ≠ some 0 := by
  unfold so
  split
  · exact fun z => nomatch z
  · rename_i h
    exact fun z => h (Option.some.inj z)
theorem digits_yes {hi fu v q : Nat} {c : UInt8} (h : B[q]? = some c) (hd : isDigit c = true) (h1 : 1 ≤ 10 * v + (c.toNat - 48)) (h2 : 10 * v + (c.toNat - 48) ≤ hi) :
    digits 1 hi (fu + 1) (so v) (at_ B q) = digits 1 hi fu (so (10 * v + (c.toNat - 48))) (at_ B (q + 1)) := by
  rw [digits.eq_def]
  dsimp only
  rw [bind_ok peek_at, h]
  have e : ((some c : Option UInt8).bind fun (c : UInt8) => if isDigit c = false ∨ so v = some 0 then (none : Option Nat) else let n := 10 * (so v).getD 0 + (c.toNat - 48)
      if leadsTo 1 hi n = true then some n else none) = some (10 * v + (c.toNat - 48)) := by
    show (if isDigit c = false ∨ so v = some 0 then (none : Option Nat) else _) = _
    rw [if_neg (fun z => z.elim (fun z => by rw [hd] at z; cases z) (so_ne v)), so_getD]
    show (if leadsTo 1 hi (10 * v + (c.toNat - 48)) = true then _ else _) = _
    rw [leads (by omega), if_pos (decide_eq_true h2)]
  rw [e]
  show ((skip >>= fun _ => digits 1 hi fu (some (10 * v + (c.toNat - 48)))) : Rd Nat) (at_ B q) = _
  rw [bind_ok skip_at]
  have e2 : so (10 * v + (c.toNat - 48)) = some (10 * v + (c.toNat - 48)) := if_neg (by omega)
  rw [e2]
theorem digits_no {hi fu v q : Nat} (hv : v ≤ hi) (h : ∀ c, B[q]? = some c → isDigit c = true → ¬ (1 ≤ 10 * v + (c.toNat - 48) ∧ 10 * v + (c.toNat - 48) ≤ hi)) :
    digits 1 hi (fu + 1) (so v) (at_ B q) = if 0 < v then .ok (v, at_ B q) else .error q := by
  rw [digits.eq_def]
  dsimp only
  rw [bind_ok peek_at]
  have e : ((B[q]?).bind fun (c : UInt8) => if isDigit c = false ∨ so v = some 0 then (none : Option Nat) else let n := 10 * (so v).getD 0 + (c.toNat - 48)
      if leadsTo 1 hi n = true then some n else none) = none := by
    cases hq : B[q]? with
    | none => rfl
    | some c =>
      show (if isDigit c = false ∨ so v = some 0 then (none : Option Nat) else _) = _
      cases hd : isDigit c with
      | false => rw [if_pos (.inl rfl)]
      | true =>
        rw [if_neg (fun z => z.elim (fun z => by cases z) (so_ne v)), so_getD]
        show (if leadsTo 1 hi (10 * v + (c.toNat - 48)) = true then _ else _) = _
        have hn := h c hq hd
        by_cases h0 : 10 * v + (c.toNat - 48) = 0
        · rw [h0, leads0, if_neg Bool.false_ne_true]
        · rw [leads (by omega), if_neg (by simp only [decide_eq_true_eq]; omega)]
  rw [e]
  dsimp only
  unfold so
  by_cases h0 : v = 0
  · subst h0
    rw [if_pos rfl, if_neg (by omega)]
    rfl
  · rw [if_neg h0, if_pos (by omega)]
    show (if 1 ≤ v ∧ v ≤ hi then (_ : Rd Nat) else (_ : Rd Nat)) _ = _
    rw [if_pos ⟨by omega, hv⟩]
    rfl
structure NumAt (hi : Nat) (B : Bytes) (p q v : Nat) : Prop where
  lo : p ≤ q
  len : q ≤ B.length
  le : v ≤ hi
  zero : v = 0 ↔ q = p
  big : p < q → 10 ^ (q - p - 1) ≤ v
  told : num 1 hi (at_ B p) = digits 1 hi (20 - (q - p)) (so v) (at_ B q)
theorem NumAt.start {hi : Nat} (h : p ≤ B.length) : NumAt hi B p p 0 := ⟨Nat.le_refl _, h, Nat.zero_le _, by simp, fun z => absurd z (Nat.lt_irrefl _), by rw [Nat.sub_self]; rfl⟩
theorem NumAt.few {hi q v : Nat} (N : NumAt hi B p q v) (hh : hi ≤ 9999) : q - p ≤ 4 := by
  refine Decidable.byContradiction fun hc => ?_
  have h1 := N.big (by omega)
  have h2 : 10 ^ 4 ≤ 10 ^ (q - p - 1) := Nat.pow_le_pow_right (by omega) (by omega)
  have h3 := N.le
  omega
theorem NumAt.step {hi q v w : Nat} (N : NumAt hi B p q v) (hh : hi ≤ 9999) (hd : digit (nb B q) = true) (hw : (w : Int) = v * 10 + nb B q - 48) (h1 : 1 ≤ w) (h2 : w ≤ hi) : NumAt hi B p (q + 1) w := by
  have h4 := N.few hh
  rcases nb_cases (B := B) (p := q) with ⟨c, hc, e, hl⟩ | ⟨_, e⟩
  · rw [e, digit_is] at hd
    rw [e] at hw
    have hdd := hd
    unfold isDigit at hdd
    rw [Bool.and_eq_true, decide_eq_true_eq, decide_eq_true_eq] at hdd
    have ew : w = 10 * v + (c.toNat - 48) := by omega
    subst ew
    refine ⟨by have := N.lo; omega, by omega, h2, ⟨fun z => by omega, fun z => by have := N.lo; omega⟩, fun _ => ?_, ?_⟩
    · by_cases hq : p < q
      · have hb := N.big hq
        have e1 : q + 1 - p - 1 = (q - p - 1) + 1 := by omega
        rw [e1, Nat.pow_succ]
        omega
      · have e1 : q + 1 - p - 1 = 0 := by have := N.lo; omega
        rw [e1, Nat.pow_zero]
        omega
    · rw [N.told]
      have e1 : 20 - (q - p) = (20 - (q + 1 - p)) + 1 := by have := N.lo; omega
      rw [e1]
      exact digits_yes hc hd h1 h2
  · rw [e, digit_end] at hd
    cases hd
theorem NumAt.stop {hi q v : Nat} (N : NumAt hi B p q v) (hh : hi ≤ 9999) (h : digit (nb B q) = true → ¬ (1 ≤ v * 10 + nb B q - 48 ∧ v * 10 + nb B q - 48 ≤ (hi : Int))) :
    num 1 hi (at_ B p) = if 0 < v then .ok (v, at_ B q) else .error q := by
  have h4 := N.few hh
  rw [N.told]
  have e1 : 20 - (q - p) = (19 - (q - p)) + 1 := by omega
  rw [e1]
  refine digits_no N.le fun c hc hd => ?_
  have e := nb_some hc
  rw [e, digit_is] at h
  have hn := h hd
  unfold isDigit at hd
  rw [Bool.and_eq_true, decide_eq_true_eq, decide_eq_true_eq] at hd
  omega
/-! ### places -/
theorem place_yes {pl : Place} (h : (B[p]?).bind placeOf = some pl) : place_ (at_ B p) = .ok (pl, at_ B (p + 1)) := by
  unfold place_
  rw [bind_ok peek_at, h]
  show ((skip >>= fun _ => pure pl) : Rd Place) (at_ B p) = _
  rw [bind_ok skip_at]
  rfl
theorem place_no (h : (B[p]?).bind placeOf = none) : place_ (at_ B p) = .error p := by
  unfold place_
  rw [bind_ok peek_at, h]
  rfl
theorem placeOf_byte (pl : Place) : placeOf pl.byte = some pl := by
  cases pl with
  | none => rfl
  | cell s t => cases s <;> cases t <;> rfl
theorem byte_placeOf {c : UInt8} {pl : Place} (h : placeOf c = some pl) : pl.byte = c := by
  unfold placeOf at h
  repeat' split at h
  all_goals first
    | (cases h; done)
    | (rename_i hc; cases h; subst hc; rfl)
    | (rename_i hc _; cases h; subst hc; rfl)
/-- a sign as Python sees it -/
def sign (b : Int) : Bool := b == 46 || b == 35 || b == 115 || b == 116 || b == 98
theorem sign_yes (h : sign (nb B p) = true) : ∃ pl : Place, (B[p]?).bind placeOf = some pl ∧ nb B p = (pl.byte.toNat : Int) ∧ p < B.length := by
  rcases nb_cases (B := B) (p := p) with ⟨c, hc, e, hl⟩ | ⟨_, e⟩
  · rw [e] at h
    have : c = 46 ∨ c = 35 ∨ c = 115 ∨ c = 116 ∨ c = 98 := by
      unfold sign at h
      simp only [Bool.or_eq_true, beq_iff_eq] at h
      rcases h with (((h | h) | h) | h) | h
      · exact .inl (UInt8.toNat_inj.mp (by show c.toNat = 46; omega))
      · exact .inr (.inl (UInt8.toNat_inj.mp (by show c.toNat = 35; omega)))
      · exact .inr (.inr (.inl (UInt8.toNat_inj.mp (by show c.toNat = 115; omega))))
      · exact .inr (.inr (.inr (.inl (UInt8.toNat_inj.mp (by show c.toNat = 116; omega)))))
      · exact .inr (.inr (.inr (.inr (UInt8.toNat_inj.mp (by show c.toNat = 98; omega)))))
    rw [hc, e]
    rcases this with h | h | h | h | h <;> subst h
    · exact ⟨.none, rfl, rfl, hl⟩
    · exact ⟨.cell false false, rfl, rfl, hl⟩
    · exact ⟨.cell true false, rfl, rfl, hl⟩
    · exact ⟨.cell false true, rfl, rfl, hl⟩
    · exact ⟨.cell true true, rfl, rfl, hl⟩
  · rw [e] at h
    cases h
theorem sign_no (h : sign (nb B p) = false) : (B[p]?).bind placeOf = none := by
  cases e : (B[p]?).bind placeOf with
  | none => rfl
  | some pl =>
    obtain ⟨c, hc, hp⟩ := Option.bind_eq_some_iff.mp e
    have hb := byte_placeOf hp
    rw [nb_some hc, ← hb] at h
    exfalso
    cases pl with
    | none => exact absurd h (by decide)
    | cell s t => cases s <;> cases t <;> exact absurd h (by decide)
/-! ### rows -/
/-- n rows are to come, L is read -/
def rowsM (w n : Nat) (L : List Place) : Rd (List Place) := do
  let l ← times n (row_ w)
  return L ++ l.flatten
/-- j places of a row are to come, then n rows -/
def rowM (w j n : Nat) (L : List Place) : Rd (List Place) := do
  let l ← times j place_
  byte_ 10
  rowsM w n (L ++ l)
theorem rows_zero {w : Nat} {L : List Place} : rowsM w 0 L = pure L := by
  unfold rowsM
  simp [times]
theorem rows_succ {w n : Nat} {L : List Place} : rowsM w (n + 1) L = rowM w w n L := by
  unfold rowsM rowM rowsM
  rw [times]
  unfold row_
  simp only [bind_assoc, pure_bind, List.flatten_cons, List.append_assoc]
theorem row_succ {w j n : Nat} {L : List Place} : rowM w (j + 1) n L = (place_ >>= fun x => rowM w j n (L ++ [x])) := by
  unfold rowM
  rw [times]
  simp only [bind_assoc, pure_bind, List.append_assoc, List.singleton_append]
theorem row_zero {w n : Nat} {L : List Place} : rowM w 0 n L = (byte_ 10 >>= fun _ => rowsM w n L) := by
  unfold rowM
  rw [times]
  simp only [pure_bind, List.append_nil]
/-! ### a part -/
theorem part_eq : part_ = (bytes_ (ascii "part ") >>= fun _ => name_ >>= fun n => bytes_ [32] >>= fun _ => num 1 16 >>= fun w => bytes_ [32] >>= fun _ => num 1 16 >>= fun d => bytes_ [32] >>= fun _ => num 1 18 >>= fun h =>
    bytes_ [32] >>= fun _ => num 1 9999 >>= fun g => bytes_ [10] >>= fun _ => rowsM w (d * h) [] >>= fun l => pure ⟨n, w, d, h, g, l⟩) := by
  unfold part_ numAfter rowsM
  simp only [bytes_one, bind_assoc, pure_bind, List.nil_append]
/-- parts to come, so many at most, ps are read -/
def restM (n : Nat) (ps : List Part) : Rd Catalogue := do
  let l ← toEnd part_ n
  return ps ++ l
theorem rest_end {n : Nat} {ps : List Part} (h : B.length ≤ p) : restM n ps (at_ B p) = .ok (ps, at_ B p) := by
  have e : B[p]? = none := by simp [h]
  have e2 : toEnd part_ n (at_ B p) = .ok ([], at_ B p) := by
    cases n with
    | zero =>
      rw [toEnd, bind_ok peek_at, e]
      rfl
    | succ n =>
      rw [toEnd, bind_ok peek_at, e]
      rfl
  unfold restM
  rw [bind_ok e2, List.append_nil]
  rfl
theorem rest_more {n : Nat} {ps : List Part} (h : p < B.length) : restM (n + 1) ps (at_ B p) = ((part_ >>= fun x => restM n (ps ++ [x])) : Rd Catalogue) (at_ B p) := by
  have e : (B[p]?).isSome = true := by simp [h]
  unfold restM
  rw [toEnd]
  simp only [bind_assoc]
  rw [bind_ok peek_at, if_pos e]
  simp only [bind_assoc, pure_bind, List.append_assoc, List.singleton_append]
theorem rest_full {ps : List Part} (h : p < B.length) : restM 0 ps (at_ B p) = .error p := by
  have e : (B[p]?).isSome = true := by simp [h]
  unfold restM
  rw [toEnd]
  simp only [bind_assoc]
  rw [bind_ok peek_at, if_pos e]
  rfl
theorem readC_eq : readC B = ((part_ >>= fun x => restM 63 [x]) (at_ B 0)).map (·.1) := by
  unfold readC readAll restM
  simp only [List.singleton_append]
  rfl
end RdM
set_option linter.all false
namespace Geo
open BrPart BrRead
abbrev C3 := Nat × Nat × Nat
abbrev Tri := Int × Int × Int
def cI (c : C3) : Tri := ((c.1 : Int), (c.2.1 : Int), (c.2.2 : Int))
theorem cI_inj {a b : C3} (h : cI a = cI b) : a = b := by
  obtain ⟨a1, a2, a3⟩ := a
  obtain ⟨b1, b2, b3⟩ := b
  have h1 := (Prod.mk.inj h).1
  have h2 := (Prod.mk.inj (Prod.mk.inj h).2).1
  have h3 := (Prod.mk.inj (Prod.mk.inj h).2).2
  simp only at h1 h2 h3
  rw [Int.ofNat.inj h1, Int.ofNat.inj h2, Int.ofNat.inj h3]
/-- the place with this number -/
def co (w d i : Nat) : C3 := (i % w, i / w % d, i / w / d)
theorem co_at {w d x y z : Nat} (hx : x < w) (hy : y < d) : co w d ((z * d + y) * w + x) = (x, y, z) := by
  have hw : 0 < w := by omega
  have hd : 0 < d := by omega
  unfold co
  have e1 : ((z * d + y) * w + x) % w = x := by
    rw [Nat.mul_comm, Nat.mul_add_mod, Nat.mod_eq_of_lt hx]
  have e2 : ((z * d + y) * w + x) / w = z * d + y := by
    rw [Nat.mul_comm, Nat.mul_add_div hw, Nat.div_eq_of_lt hx, Nat.add_zero]
  have e3 : (z * d + y) % d = y := by
    rw [Nat.mul_comm, Nat.mul_add_mod, Nat.mod_eq_of_lt hy]
  have e4 : (z * d + y) / d = z := by
    rw [Nat.mul_comm, Nat.mul_add_div hd, Nat.div_eq_of_lt hy, Nat.add_zero]
  rw [e1, e2, e3, e4]
theorem co_inj {w d i j : Nat} (h : co w d i = co w d j) : i = j := by
  unfold co at h
  have e1 := (Prod.mk.inj h).1
  have e2 := (Prod.mk.inj (Prod.mk.inj h).2).1
  have e3 := (Prod.mk.inj (Prod.mk.inj h).2).2
  have e4 : i / w = j / w := by
    rw [← Nat.div_add_mod (i / w) d, ← Nat.div_add_mod (j / w) d, e2, e3]
  rw [← Nat.div_add_mod i w, ← Nat.div_add_mod j w, e1, e4]
theorem range_mul {α : Type} (f : Nat → α) (w : Nat) : ∀ n, (List.range n).flatMap (fun y => (List.range w).map fun x => f (y * w + x)) = (List.range (n * w)).map f
  | 0 => by simp
  | n + 1 => by
    rw [List.range_succ, List.flatMap_append, range_mul f w n, Nat.add_mul, Nat.one_mul, List.range_add, List.map_append]
    simp only [List.flatMap_cons, List.flatMap_nil, List.append_nil, List.map_map]
    rfl
theorem flat_congr {α β : Type} {l : List α} {f g : α → List β} (h : ∀ a ∈ l, f a = g a) : l.flatMap f = l.flatMap g := by
  induction l with
  | nil => rfl
  | cons a l ih =>
    rw [List.flatMap_cons, List.flatMap_cons, h a (List.mem_cons_self ..), ih fun b hb => h b (List.mem_cons_of_mem _ hb)]
theorem spots_eq (p : Part) : p.spots = (List.range (p.high * (p.deep * p.wide))).map (co p.wide p.deep) := by
  unfold Part.spots
  rw [← range_mul (co p.wide p.deep) (p.deep * p.wide) p.high]
  refine flat_congr fun z hz => ?_
  rw [← range_mul (fun i => co p.wide p.deep (z * (p.deep * p.wide) + i)) p.wide p.deep]
  refine flat_congr fun y hy => ?_
  refine List.map_congr_left fun x hx => ?_
  have e : z * (p.deep * p.wide) + (y * p.wide + x) = (z * p.deep + y) * p.wide + x := by
    rw [Nat.add_mul, Nat.mul_assoc, Nat.add_assoc]
  rw [e, co_at (List.mem_range.mp hx) (List.mem_range.mp hy)]
/-- its form -/
structure Good (p : Part) : Prop where
  w1 : 1 ≤ p.wide
  w2 : p.wide ≤ 16
  d1 : 1 ≤ p.deep
  d2 : p.deep ≤ 16
  h1 : 1 ≤ p.high
  h2 : p.high ≤ 18
  len : p.places.length = p.high * (p.deep * p.wide)
/-- the places with their numbers -/
def such (w d : Nat) (L : List Place) (f : Place → Bool) : List C3 := (L.zipIdx.filter fun q => f q.1).map fun q => co w d q.2
theorem zip_range {α : Type} (g : Nat → C3) (f : α → Bool) : ∀ (L : List α) (k : Nat), ((((List.range' k L.length).map g).zip L).filter fun s => f s.2).map (fun s => s.1) = ((L.zipIdx k).filter fun q => f q.1).map fun q => g q.2
  | [], _ => rfl
  | a :: L, k => by
    have ih := zip_range g f L (k + 1)
    rw [List.length_cons, List.range'_succ, List.map_cons, List.zip_cons_cons, List.zipIdx_cons, List.filter_cons, List.filter_cons]
    cases h : f a with
    | true =>
      simp only [if_true, List.map_cons]
      rw [ih]
    | false =>
      simp only [Bool.false_eq_true, if_false]
      exact ih
theorem such_eq {p : Part} (G : Good p) (f : Place → Bool) : p.such f = such p.wide p.deep p.places f := by
  unfold Part.such such
  rw [spots_eq, ← G.len, List.range_eq_range']
  exact zip_range (co p.wide p.deep) f p.places 0
theorem mem_such {w d : Nat} {L : List Place} {f : Place → Bool} {c : C3} : c ∈ such w d L f ↔ ∃ i pl, L[i]? = some pl ∧ f pl = true ∧ c = co w d i := by
  unfold such
  constructor
  · intro h
    obtain ⟨⟨pl, i⟩, hm, e⟩ := List.mem_map.mp h
    obtain ⟨h1, h2⟩ := List.mem_filter.mp hm
    exact ⟨i, pl, List.mem_zipIdx_iff_getElem?.mp h1, h2, e.symm⟩
  · rintro ⟨i, pl, h1, h2, e⟩
    exact List.mem_map.mpr ⟨(pl, i), List.mem_filter.mpr ⟨List.mem_zipIdx_iff_getElem?.mpr h1, h2⟩, e.symm⟩
theorem nodup_such {w d : Nat} {f : Place → Bool} : ∀ (L : List Place) (k : Nat), (((L.zipIdx k).filter fun q => f q.1).map fun q => co w d q.2).Nodup
  | [], _ => List.nodup_nil
  | a :: L, k => by
    have ih := nodup_such (w := w) (d := d) (f := f) L (k + 1)
    rw [List.zipIdx_cons, List.filter_cons]
    split
    · rw [List.map_cons, List.nodup_cons]
      refine ⟨fun h => ?_, ih⟩
      obtain ⟨⟨pl, i⟩, hm, e⟩ := List.mem_map.mp h
      have h1 := (List.mem_filter.mp hm).1
      have h2 := List.mem_zipIdx h1
      have h3 := co_inj e
      simp only at h3
      omega
    · exact ih
theorem cell_at {p : Part} (G : Good p) (x y z : Nat) : (p.at_ x y z).isCell = true ↔ (x, y, z) ∈ p.cells := by
  unfold Part.cells
  rw [such_eq G, mem_such]
  unfold Part.at_
  by_cases h : x < p.wide ∧ y < p.deep ∧ z < p.high
  · rw [if_pos h]
    obtain ⟨hx, hy, hz⟩ := h
    have hl : (z * p.deep + y) * p.wide + x < p.places.length := by
      rw [G.len]
      have z1 : (z * p.deep + y + 1) * p.wide ≤ (p.high * p.deep) * p.wide := Nat.mul_le_mul_right _ (by
        have z2 : (z + 1) * p.deep ≤ p.high * p.deep := Nat.mul_le_mul_right _ hz
        rw [Nat.add_mul, Nat.one_mul] at z2
        omega)
      rw [Nat.add_mul, Nat.one_mul] at z1
      rw [← Nat.mul_assoc]
      omega
    have e := co_at (w := p.wide) (d := p.deep) (z := z) hx hy
    constructor
    · intro hc
      refine ⟨(z * p.deep + y) * p.wide + x, p.places[(z * p.deep + y) * p.wide + x], by simp [hl], ?_, e.symm⟩
      rw [List.getD_eq_getElem?_getD, List.getElem?_eq_getElem hl] at hc
      exact hc
    · rintro ⟨i, pl, h1, h2, h3⟩
      have hi : i = (z * p.deep + y) * p.wide + x := co_inj (w := p.wide) (d := p.deep) (by rw [e, ← h3])
      subst hi
      rw [List.getD_eq_getElem?_getD, h1]
      exact h2
  · rw [if_neg h]
    constructor
    · intro hc
      cases hc
    · rintro ⟨i, pl, h1, h2, h3⟩
      exfalso
      apply h
      have hi := (List.getElem?_eq_some_iff.mp h1).1
      rw [G.len] at hi
      unfold co at h3
      have e1 := (Prod.mk.inj h3).1
      have e2 := (Prod.mk.inj (Prod.mk.inj h3).2).1
      have e3 := (Prod.mk.inj (Prod.mk.inj h3).2).2
      refine ⟨by rw [e1]; exact Nat.mod_lt _ (by have := G.w1; omega), by rw [e2]; exact Nat.mod_lt _ (by have := G.d1; omega), ?_⟩
      rw [e3, Nat.div_div_eq_div_mul, Nat.mul_comm p.wide p.deep]
      rw [Nat.mul_comm p.high] at hi
      exact Nat.div_lt_of_lt_mul hi
/-! ### neighbours -/
def nbs (t : Tri) : List Tri := [(t.1 - 1, t.2.1, t.2.2), (t.1 + 1, t.2.1, t.2.2), (t.1, t.2.1 - 1, t.2.2), (t.1, t.2.1 + 1, t.2.2), (t.1, t.2.1, t.2.2 - 1), (t.1, t.2.1, t.2.2 + 1)]
theorem beside_nbs (a b : C3) : beside a b = true ↔ cI a ∈ nbs (cI b) := by
  obtain ⟨a1, a2, a3⟩ := a
  obtain ⟨b1, b2, b3⟩ := b
  unfold beside nbs cI
  simp only [beq_iff_eq, List.mem_cons, List.mem_nil_iff, or_false, Prod.mk.injEq]
  constructor
  · intro h
    have c : (a1 + 1 = b1 ∧ a2 = b2 ∧ a3 = b3) ∨ (a1 = b1 + 1 ∧ a2 = b2 ∧ a3 = b3) ∨ (a1 = b1 ∧ a2 + 1 = b2 ∧ a3 = b3) ∨ (a1 = b1 ∧ a2 = b2 + 1 ∧ a3 = b3) ∨ (a1 = b1 ∧ a2 = b2 ∧ a3 + 1 = b3) ∨ (a1 = b1 ∧ a2 = b2 ∧ a3 = b3 + 1) := by
      by_cases h1 : a1 = b1
      · by_cases h2 : a2 = b2
        · by_cases h3 : a3 + 1 = b3
          · exact .inr (.inr (.inr (.inr (.inl ⟨h1, h2, h3⟩))))
          · exact .inr (.inr (.inr (.inr (.inr ⟨h1, h2, by omega⟩))))
        · have h3 : a3 = b3 := by omega
          by_cases h4 : a2 + 1 = b2
          · exact .inr (.inr (.inl ⟨h1, h4, h3⟩))
          · exact .inr (.inr (.inr (.inl ⟨h1, by omega, h3⟩)))
      · have h2 : a2 = b2 := by omega
        have h3 : a3 = b3 := by omega
        by_cases h4 : a1 + 1 = b1
        · exact .inl ⟨h4, h2, h3⟩
        · exact .inr (.inl ⟨by omega, h2, h3⟩)
    rcases c with ⟨h1, h2, h3⟩ | ⟨h1, h2, h3⟩ | ⟨h1, h2, h3⟩ | ⟨h1, h2, h3⟩ | ⟨h1, h2, h3⟩ | ⟨h1, h2, h3⟩
    · exact .inl ⟨by omega, by omega, by omega⟩
    · exact .inr (.inl ⟨by omega, by omega, by omega⟩)
    · exact .inr (.inr (.inl ⟨by omega, by omega, by omega⟩))
    · exact .inr (.inr (.inr (.inl ⟨by omega, by omega, by omega⟩)))
    · exact .inr (.inr (.inr (.inr (.inl ⟨by omega, by omega, by omega⟩))))
    · exact .inr (.inr (.inr (.inr (.inr ⟨by omega, by omega, by omega⟩))))
  · rintro (⟨h1, h2, h3⟩ | ⟨h1, h2, h3⟩ | ⟨h1, h2, h3⟩ | ⟨h1, h2, h3⟩ | ⟨h1, h2, h3⟩ | ⟨h1, h2, h3⟩) <;> omega
theorem filter_two {α : Type} (f : α → Bool) : ∀ l : List α, (l.filter f).length + (l.filter (not ∘ f)).length = l.length
  | [] => rfl
  | a :: l => by
    have ih := filter_two f l
    rw [List.filter_cons, List.filter_cons]
    show (if f a = true then a :: l.filter f else l.filter f).length + (if (!f a) = true then a :: l.filter (not ∘ f) else l.filter (not ∘ f)).length = _
    cases f a with
    | true =>
      rw [if_pos rfl, if_neg (show ¬ (!true) = true by decide), List.length_cons, List.length_cons]
      omega
    | false =>
      rw [if_neg (show ¬ false = true by decide), if_pos (show (!false) = true from rfl), List.length_cons, List.length_cons]
      omega
/-! ### together -/
inductive Reach (cs : List Tri) (s : Tri) : Tri → Prop
  | base : Reach cs s s
  | step {t n : Tri} : Reach cs s t → n ∈ nbs t → n ∈ cs → Reach cs s n
inductive RL (l rest : List C3) : C3 → Prop
  | near {t a : C3} : t ∈ rest → a ∈ l → beside t a = true → RL l rest t
  | step {t u : C3} : RL l rest u → t ∈ rest → beside t u = true → RL l rest t
theorem RL.mem {l rest : List C3} {t : C3} (h : RL l rest t) : t ∈ rest := by
  cases h with
  | near h _ _ => exact h
  | step _ h _ => exact h
theorem RL.first {l rest : List C3} {t : C3} (h : RL l rest t) : ∃ u ∈ rest, ∃ a ∈ l, beside u a = true := by
  induction h with
  | near h1 h2 h3 => exact ⟨_, h1, _, h2, h3⟩
  | step _ _ _ ih => exact ih
theorem apart_iff : ∀ (n : Nat) (l rest : List C3), rest.length ≤ n → ((apartFrom n l rest).isEmpty = true ↔ ∀ t ∈ rest, RL l rest t)
  | 0, l, rest, h => by
    have e : rest = [] := List.length_eq_zero_iff.mp (Nat.le_zero.mp h)
    subst e
    constructor
    · intro _ t ht
      cases ht
    · intro _
      rfl
  | n + 1, l, rest, h => by
    have pe : rest.partition (fun c => l.any (beside c)) = (rest.filter (fun c => l.any (beside c)), rest.filter (not ∘ fun c => l.any (beside c))) := List.partition_eq_filter_filter
    unfold apartFrom
    rw [pe]
    dsimp only
    have mem1 : ∀ c, c ∈ rest.filter (fun c => l.any (beside c)) ↔ c ∈ rest ∧ ∃ a ∈ l, beside c a = true := fun c => by
      rw [List.mem_filter, List.any_eq_true]
    have mem2 : ∀ c, c ∈ rest.filter (not ∘ fun c => l.any (beside c)) ↔ c ∈ rest ∧ ¬ ∃ a ∈ l, beside c a = true := fun c => by
      rw [List.mem_filter]
      simp only [Function.comp, Bool.not_eq_true', ← Bool.not_eq_true, List.any_eq_true]
    by_cases e : rest.filter (fun c => l.any (beside c)) = []
    · rw [if_pos e]
      constructor
      · intro hr t ht
        rw [List.isEmpty_iff.mp hr] at ht
        cases ht
      · intro hr
        cases rest with
        | nil => rfl
        | cons t r =>
          obtain ⟨u, hu, a, ha, hb⟩ := (hr t (List.mem_cons_self ..)).first
          have hm := (mem1 u).mpr ⟨hu, a, ha, hb⟩
          rw [e] at hm
          cases hm
    · rw [if_neg e]
      have hlen : (rest.filter (not ∘ fun c => l.any (beside c))).length ≤ n := by
        have h3 := filter_two (fun c => l.any (beside c)) rest
        have h6 : 0 < (rest.filter (fun c => l.any (beside c))).length := List.length_pos_iff.mpr e
        omega
      rw [apart_iff n _ _ hlen]
      have split : ∀ t, RL l rest t ↔ t ∈ rest.filter (fun c => l.any (beside c)) ∨ RL (rest.filter (fun c => l.any (beside c))) (rest.filter (not ∘ fun c => l.any (beside c))) t := fun t => by
        constructor
        · intro hr
          induction hr with
          | near h1 h2 h3 => exact .inl ((mem1 _).mpr ⟨h1, _, h2, h3⟩)
          | @step t u _ h2 h3 ih =>
            by_cases c : ∃ a ∈ l, beside t a = true
            · exact .inl ((mem1 _).mpr ⟨h2, c⟩)
            · have hm := (mem2 t).mpr ⟨h2, c⟩
              rcases ih with ih | ih
              · exact .inr (.near hm ih h3)
              · exact .inr (.step ih hm h3)
        · rintro (hr | hr)
          · obtain ⟨h1, a, h2, h3⟩ := (mem1 t).mp hr
            exact .near h1 h2 h3
          · induction hr with
            | near h1 h2 h3 =>
              obtain ⟨g1, a, g2, g3⟩ := (mem1 _).mp h2
              exact .step (.near g1 g2 g3) ((mem2 _).mp h1).1 h3
            | step _ h2 h3 ih => exact .step ih ((mem2 _).mp h2).1 h3
      constructor
      · intro hr t ht
        rw [split]
        by_cases c : ∃ a ∈ l, beside t a = true
        · exact .inl ((mem1 _).mpr ⟨ht, c⟩)
        · exact .inr (hr t ((mem2 t).mpr ⟨ht, c⟩))
      · intro hr t ht
        obtain ⟨h1, h2⟩ := (mem2 t).mp ht
        rcases (split t).mp (hr t h1) with h | h
        · exact absurd ((mem1 t).mp h).2 h2
        · exact h
theorem whole_iff (p : Part) {c : C3} {r : List C3} (h : p.cells = c :: r) (hn : p.cells.Nodup) : p.whole = true ↔ ∀ t ∈ p.cells.map cI, Reach (p.cells.map cI) (cI c) t := by
  unfold Part.whole
  rw [h]
  dsimp only
  rw [apart_iff r.length [c] r (Nat.le_refl _)]
  constructor
  · intro hr t ht
    obtain ⟨u, hu, e⟩ := List.mem_map.mp ht
    subst e
    rcases List.mem_cons.mp hu with e | hu
    · subst e
      exact .base
    · have main : ∀ v, RL [c] r v → Reach ((c :: r).map cI) (cI c) (cI v) := fun v hv => by
        induction hv with
        | near h1 h2 h3 =>
          have e := List.mem_singleton.mp h2
          subst e
          exact .step .base ((beside_nbs _ _).mp h3) (List.mem_map_of_mem (List.mem_cons_of_mem _ h1))
        | step _ h2 h3 ih => exact .step ih ((beside_nbs _ _).mp h3) (List.mem_map_of_mem (List.mem_cons_of_mem _ h2))
      exact main u (hr u hu)
  · intro hr t ht
    have main : ∀ v, Reach ((c :: r).map cI) (cI c) v → v = cI c ∨ ∃ u, v = cI u ∧ RL [c] r u := fun v hv => by
      induction hv with
      | base => exact .inl rfl
      | @step t n _ h2 h3 ih =>
        obtain ⟨u, hu, e⟩ := List.mem_map.mp h3
        subst e
        rcases List.mem_cons.mp hu with e | hu
        · subst e
          exact .inl rfl
        · refine .inr ⟨u, rfl, ?_⟩
          rcases ih with ih | ⟨v, e, ih⟩
          · subst ih
            exact .near hu (List.mem_singleton.mpr rfl) ((beside_nbs _ _).mpr h2)
          · subst e
            exact .step ih hu ((beside_nbs _ _).mpr h2)
    by_cases e : t = c
    · subst e
      rw [h] at hn
      exact absurd ht (List.nodup_cons.mp hn).1
    · rcases main _ (hr _ (List.mem_map_of_mem (List.mem_cons_of_mem _ ht))) with h2 | ⟨u, e2, hu⟩
      · exact absurd (cI_inj h2) e
      · rw [cI_inj e2]
        exact hu
theorem length_le_of_sub {α : Type} [DecidableEq α] : ∀ {l m : List α}, l.Nodup → (∀ a ∈ l, a ∈ m) → l.length ≤ m.length
  | [], _, _, _ => Nat.zero_le _
  | a :: l, m, hn, hs => by
    have hm := hs a (List.mem_cons_self ..)
    have h1 := length_le_of_sub (l := l) (m := m.erase a) (List.nodup_cons.mp hn).2 fun b hb => by
      have hne : b ≠ a := fun z => (List.nodup_cons.mp hn).1 (z ▸ hb)
      exact (List.mem_erase_of_ne hne).mpr (hs b (List.mem_cons_of_mem _ hb))
    rw [List.length_erase_of_mem hm] at h1
    have h2 := List.length_pos_of_mem hm
    rw [List.length_cons]
    omega
end Geo
set_option linter.all false
namespace Geo
open BrPart BrRead
theorem grid {α : Type} (f : Nat → Nat → Nat → α) (w d h : Nat) :
    ((List.range h).flatMap fun z => (List.range d).flatMap fun y => (List.range w).map fun x => f x y z) = (List.range (h * (d * w))).map fun i => f (i % w) (i / w % d) (i / w / d) := by
  rw [← range_mul (fun i => f (i % w) (i / w % d) (i / w / d)) (d * w) h]
  refine flat_congr fun z hz => ?_
  rw [← range_mul (fun i => f ((z * (d * w) + i) % w) ((z * (d * w) + i) / w % d) ((z * (d * w) + i) / w / d)) w d]
  refine flat_congr fun y hy => ?_
  refine List.map_congr_left fun x hx => ?_
  have e : z * (d * w) + (y * w + x) = (z * d + y) * w + x := by
    rw [Nat.add_mul, Nat.mul_assoc, Nat.add_assoc]
  have c := co_at (z := z) (List.mem_range.mp hx) (List.mem_range.mp hy)
  unfold co at c
  have c1 := (Prod.mk.inj c).1
  have c2 := (Prod.mk.inj (Prod.mk.inj c).2).1
  have c3 := (Prod.mk.inj (Prod.mk.inj c).2).2
  rw [e, c1, c2, c3]
theorem ix_lt {w d h x y z : Nat} (hx : x < w) (hy : y < d) (hz : z < h) : (z * d + y) * w + x < h * (d * w) := by
  have h1 : z * d + y + 1 ≤ h * d := by
    have : (z + 1) * d ≤ h * d := Nat.mul_le_mul_right _ hz
    rw [Nat.succ_mul] at this
    omega
  have h2 : (z * d + y + 1) * w ≤ h * d * w := Nat.mul_le_mul_right _ h1
  rw [Nat.succ_mul] at h2
  rw [← Nat.mul_assoc]
  omega
theorem grid_at {α : Type} (f : Nat → Nat → Nat → α) (w d h : Nat) (n : α) {x y z : Nat} (hx : x < w) (hy : y < d) (hz : z < h) :
    (((List.range h).flatMap fun z => (List.range d).flatMap fun y => (List.range w).map fun x => f x y z)).getD ((z * d + y) * w + x) n = f x y z := by
  rw [grid, List.getD_eq_getElem?_getD, List.getElem?_map, List.getElem?_range (ix_lt hx hy hz)]
  have c := co_at (z := z) hx hy
  unfold co at c
  have c1 := (Prod.mk.inj c).1
  have c2 := (Prod.mk.inj (Prod.mk.inj c).2).1
  have c3 := (Prod.mk.inj (Prod.mk.inj c).2).2
  show f _ _ _ = _
  rw [c1, c2, c3]
theorem places_at {p : Part} (G : Good p) : p.places = (List.range (p.high * (p.deep * p.wide))).map fun i => p.at_ (i % p.wide) (i / p.wide % p.deep) (i / p.wide / p.deep) := by
  refine List.ext_getElem? fun i => ?_
  rw [List.getElem?_map]
  by_cases h : i < p.high * (p.deep * p.wide)
  · rw [List.getElem?_range h]
    have hw : 0 < p.wide := G.w1
    have hd : 0 < p.deep := G.d1
    have h1 : i % p.wide < p.wide := Nat.mod_lt _ hw
    have h2 : i / p.wide % p.deep < p.deep := Nat.mod_lt _ hd
    have h3 : i / p.wide / p.deep < p.high := by
      rw [Nat.div_div_eq_div_mul, Nat.div_lt_iff_lt_mul (Nat.mul_pos hw hd), Nat.mul_comm p.wide]
      exact h
    have e : (i / p.wide / p.deep * p.deep + i / p.wide % p.deep) * p.wide + i % p.wide = i := by
      rw [Nat.div_add_mod', Nat.div_add_mod']
    have hl : i < p.places.length := by rw [G.len]; exact h
    show p.places[i]? = some (p.at_ (i % p.wide) (i / p.wide % p.deep) (i / p.wide / p.deep))
    unfold Part.at_
    rw [if_pos ⟨h1, h2, h3⟩, e, List.getD_eq_getElem?_getD, List.getElem?_eq_getElem hl]
    rfl
  · rw [List.getElem?_eq_none (by rw [G.len]; omega), List.getElem?_eq_none (by rw [List.length_range]; omega)]
    rfl
theorem places_ext {p q : Part} (G : Good p) (G2 : Good q) (hw : p.wide = q.wide) (hd : p.deep = q.deep) (hh : p.high = q.high) (h : ∀ x y z, x < p.wide → y < p.deep → z < p.high → p.at_ x y z = q.at_ x y z) : p.places = q.places := by
  rw [places_at G, places_at G2, ← hw, ← hd, ← hh]
  refine List.map_congr_left fun i hi => ?_
  have hi := List.mem_range.mp hi
  have w1 : 0 < p.wide := G.w1
  have d1 : 0 < p.deep := G.d1
  refine h _ _ _ (Nat.mod_lt _ w1) (Nat.mod_lt _ d1) ?_
  rw [Nat.div_div_eq_div_mul, Nat.div_lt_iff_lt_mul (Nat.mul_pos w1 d1), Nat.mul_comm p.wide]
  exact hi
theorem at_out {p : Part} {x y z : Nat} (h : ¬ (x < p.wide ∧ y < p.deep ∧ z < p.high)) : p.at_ x y z = .none := if_neg h
theorem same_iff {p q : Part} (G : Good p) (G2 : Good q) : p.same q = true ↔ p.wide = q.wide ∧ p.deep = q.deep ∧ p.high = q.high ∧ ∀ x y z, p.at_ x y z = q.at_ x y z := by
  unfold Part.same
  rw [Bool.and_eq_true, Bool.and_eq_true, Bool.and_eq_true]
  constructor
  · rintro ⟨h1, h2, h3, h4⟩
    have h1 := beq_iff_eq.mp h1
    have h2 := beq_iff_eq.mp h2
    have h3 := beq_iff_eq.mp h3
    have h4 := beq_iff_eq.mp h4
    refine ⟨h1, h2, h3, fun x y z => ?_⟩
    unfold Part.at_
    rw [h1, h2, h3, h4]
  · rintro ⟨h1, h2, h3, h4⟩
    exact ⟨beq_iff_eq.mpr h1, beq_iff_eq.mpr h2, beq_iff_eq.mpr h3, beq_iff_eq.mpr (places_ext G G2 h1 h2 h3 fun x y z _ _ _ => h4 x y z)⟩
theorem turn_good {p : Part} (G : Good p) : Good p.turn := by
  refine ⟨G.d1, G.d2, G.w1, G.w2, G.h1, G.h2, ?_⟩
  unfold Part.turn
  dsimp only
  rw [grid, List.length_map, List.length_range]
theorem turn_at {p : Part} {x y z : Nat} (hx : x < p.deep) (hy : y < p.wide) (hz : z < p.high) : p.turn.at_ x y z = p.at_ (p.wide - 1 - y) x z := by
  unfold Part.at_
  have e1 : p.turn.wide = p.deep := rfl
  have e2 : p.turn.deep = p.wide := rfl
  have e3 : p.turn.high = p.high := rfl
  rw [if_pos ⟨hx, hy, hz⟩, if_pos ⟨by omega, hx, hz⟩, e1, e2]
  have g := grid_at (fun x y z => p.places.toArray.getD ((z * p.deep + x) * p.wide + (p.wide - 1 - y)) BrPart.Place.none) p.deep p.wide p.high BrPart.Place.none hx hy hz
  unfold Part.turn
  dsimp only at g ⊢
  rw [g]
  simp [List.getD_eq_getElem?_getD, Array.getD_eq_getD_getElem?]
theorem turned_good {p : Part} (G : Good p) : ∀ r, Good (p.turned r)
  | 0 => G
  | r + 1 => turn_good (turned_good G r)
theorem turn2_at {p : Part} {x y z : Nat} (hx : x < p.wide) (hy : y < p.deep) (hz : z < p.high) : p.turn.turn.at_ x y z = p.at_ (p.wide - 1 - x) (p.deep - 1 - y) z := by
  rw [turn_at (p := p.turn) (by exact hx) (by exact hy) (by exact hz)]
  show p.turn.at_ (p.deep - 1 - y) x z = _
  rw [turn_at (by omega) hx hz]
theorem turn3_at {p : Part} {x y z : Nat} (hx : x < p.deep) (hy : y < p.wide) (hz : z < p.high) : p.turn.turn.turn.at_ x y z = p.at_ y (p.deep - 1 - x) z := by
  rw [turn_at (p := p.turn.turn) (by exact hx) (by exact hy) (by exact hz)]
  show p.turn.turn.at_ (p.wide - 1 - y) x z = _
  rw [turn2_at (by omega) hx hz]
  have e : p.wide - 1 - (p.wide - 1 - y) = y := by omega
  rw [e]
theorem turn4 {p : Part} (G : Good p) : p.turn.turn.turn.turn = p := by
  have h : p.turn.turn.turn.turn.places = p.places := by
    refine places_ext (turn_good (turn_good (turn_good (turn_good G)))) G rfl rfl rfl fun x y z hx hy hz => ?_
    have hx' : x < p.wide := hx
    have hy' : y < p.deep := hy
    have hz' : z < p.high := hz
    rw [turn_at (p := p.turn.turn.turn) (by exact hx) (by exact hy) (by exact hz)]
    show p.turn.turn.turn.at_ (p.deep - 1 - y) x z = _
    rw [turn3_at (by omega) hx' hz']
    have e : p.deep - 1 - (p.deep - 1 - y) = y := by omega
    rw [e]
  cases p with
  | mk n w d hh g l =>
    show Part.mk n w d hh g _ = _
    exact congrArg (Part.mk n w d hh g) h
/-! ### the turns that leave it -/
theorem same_eq {p q : Part} : p.same q = true ↔ p.wide = q.wide ∧ p.deep = q.deep ∧ p.high = q.high ∧ p.places = q.places := by
  unfold Part.same
  rw [Bool.and_eq_true, Bool.and_eq_true, Bool.and_eq_true, beq_iff_eq, beq_iff_eq, beq_iff_eq, beq_iff_eq]
theorem same_refl (p : Part) : p.same p = true := same_eq.mpr ⟨rfl, rfl, rfl, rfl⟩
theorem same_symm {p q : Part} (h : p.same q = true) : q.same p = true := by
  obtain ⟨h1, h2, h3, h4⟩ := same_eq.mp h
  exact same_eq.mpr ⟨h1.symm, h2.symm, h3.symm, h4.symm⟩
theorem same_trans {p q r : Part} (h : p.same q = true) (k : q.same r = true) : p.same r = true := by
  obtain ⟨h1, h2, h3, h4⟩ := same_eq.mp h
  obtain ⟨k1, k2, k3, k4⟩ := same_eq.mp k
  exact same_eq.mpr ⟨h1.trans k1, h2.trans k2, h3.trans k3, h4.trans k4⟩
theorem same_turn {p q : Part} (h : p.same q = true) : p.turn.same q.turn = true := by
  obtain ⟨h1, h2, h3, h4⟩ := same_eq.mp h
  refine same_eq.mpr ⟨h2, h1, h3, ?_⟩
  unfold Part.turn
  dsimp only
  rw [h1, h2, h3, h4]
theorem turned_1 (p : Part) : p.turned 1 = p.turn := rfl
theorem turned_2 (p : Part) : p.turned 2 = p.turn.turn := rfl
theorem turned_3 (p : Part) : p.turned 3 = p.turn.turn.turn := rfl
theorem turns_eq {p : Part} (G : Good p) : p.turns = if (p.turned 1).same p = true then 1 else if (p.turned 2).same p = true then 2 else 4 := by
  have h0 : (p.turned 0).same p = true := same_refl p
  have h12 : (p.turned 1).same p = true → (p.turned 2).same p = true := fun h => same_trans (same_turn h) h
  have h13 : (p.turned 1).same p = true → (p.turned 3).same p = true := fun h => same_trans (same_turn (h12 h)) h
  have h31 : (p.turned 3).same p = true → (p.turned 1).same p = true := fun h => by
    have k := same_turn h
    rw [turned_3, turn4 G] at k
    exact same_symm k
  have e : (List.range 4).filter (fun (r : Nat) => (p.turned r).same p) = [0, 1, 2, 3].filter fun (r : Nat) => (p.turned r).same p := rfl
  unfold Part.turns
  rw [e, List.filter_cons, List.filter_cons, List.filter_cons, List.filter_cons, List.filter_nil, if_pos h0]
  cases c1 : (p.turned 1).same p with
  | true =>
    rw [h12 c1, h13 c1]
    rfl
  | false =>
    have c3 : (p.turned 3).same p = false := by
      cases c : (p.turned 3).same p with
      | false => rfl
      | true => rw [h31 c] at c1; cases c1
    rw [c3]
    cases (p.turned 2).same p <;> rfl
end Geo
set_option Elab.async false
set_option linter.all false
set_option maxRecDepth 100000
set_option maxHeartbeats 4000000
/-! ### == of two dicts whose keys are tuples, their values whole numbers -/
namespace L2
open PySem PySem.Spec PyProof.Rows PySem.Calls
/-- entry by entry: e i tells whether the i-th of the left dict's is the right one's too -/
def Finds {κ : Type} [DecidableEq κ] (A : Around) (s : Shared) (L R : List (κ × Addr × Value)) (e : Nat → Bool) : Prop :=
  ∀ i k p, L[i]? = some (k, p) → (atKey R k = none → e i = false) ∧ ∀ q, atKey R k = some q → SeqAt.EqAt A s p.2 q.2 (e i)
theorem all_upto {n : Nat} {e : Nat → Bool} (h : ∀ j, j < n → e j = true) : (List.range n).all e = true := List.all_eq_true.mpr fun j hj => h j (List.mem_range.mp hj)
theorem all_stop {n i : Nat} {e : Nat → Bool} (hi : i < n) (h : e i = false) : (List.range n).all e = false := by
  cases c : (List.range n).all e with
  | false => rfl
  | true =>
    rw [List.all_eq_true.mp c i (List.mem_range.mpr hi)] at h
    cases h
section
variable {prog : Program} {w : World} {κ : Type} [DecidableEq κ] {kd : HeapKind prog w κ} {A : Around} {E : Value → Shared → Prop} {s : Shared} {x y : Addr} {L R : List (κ × Addr × Value)} {e : Nat → Bool}
theorem same_entries {nm : String} {Q : Bool → Shared → Prop} (rm : kd.room A) (nx : (x == sysModules) = false) (ny : (y == sysModules) = false) (dx : s.heap.DictOfH kd x L) (dy : s.heap.DictOfH kd y R)
    (fs : Finds A s L R e) (q : Q (L.length == R.length && (List.range L.length).all e) s) : wpAny (model prog w) A (Builtin.Dict.samePairs nm x y) Q E s := by
  obtain ⟨_, ex, px, gx, _, dx, mx, kx, _⟩ := dx
  obtain ⟨_, ey, py, gy, _, dy, my, ky, ny2⟩ := dy
  have zx : ex.size = L.length := size_of_entries mx
  have zy : ey.size = R.length := size_of_entries my
  unfold Builtin.Dict.samePairs Builtin.Dict.showsAll
  simp only [nx, ny, Bool.false_eq_true, if_false]
  refine wpAny_bind (wpAny_pure (wpAny_bind (wpAny_pure (wpAny_bind (wpAny_dictEntries gx dx (wpAny_bind (wpAny_dictEntries gy dy ?_)))))))
  by_cases same : L.length = R.length
  · have q : Q ((List.range L.length).all e) s := by rw [beq_iff_eq.mpr same, Bool.true_and] at q; exact q
    rw [if_neg (by rw [zx, zy, same]; simp)]
    refine wpAny_bind (wpAny_dictEpoch gx dx (wpAny_bind ?_))
    rw [Std.Legacy.Range.forIn_eq_forIn_range']
    simp only [Std.Legacy.Range.size, Nat.sub_zero, Nat.add_sub_cancel, Nat.div_one, zx]
    -- all up to i were found
    refine wpAny_forIn_list _ (fun todo z u => u = s ∧ z = (none, ()) ∧ ∃ i, i ≤ L.length ∧ todo = List.range' i (L.length - i) ∧ ∀ j, j < i → e j = true) _ ?_ ?_ _ _
      ⟨rfl, rfl, 0, Nat.zero_le _, by rw [Nat.sub_zero], fun j hj => absurd hj (Nat.not_lt_zero _)⟩
    · rintro n todo z u ⟨rfl, rfl, i, _, ht, up⟩
      have lt : i < L.length := by
        by_cases c : L.length - i = 0
        · rw [c] at ht
          cases ht
        · omega
      have cut : List.range' i (L.length - i) = i :: List.range' (i + 1) (L.length - (i + 1)) := by
        rw [show L.length - i = (L.length - (i + 1)) + 1 by omega, List.range'_succ]
      rw [cut] at ht
      have e1 : n = i := (List.cons.inj ht).1
      have e2 := (List.cons.inj ht).2
      subst e1
      obtain ⟨⟨k, p⟩, hk⟩ : ∃ z, L[n]? = some z := ⟨_, List.getElem?_eq_getElem lt⟩
      have here : ex[n]? = some ⟨kd.hash k, .ref p.1, p.2⟩ := by rw [entry_at mx, hk]; rfl
      obtain ⟨f0, f1⟩ := fs n k p hk
      have no : e n = false → Q false u := fun c => by rw [all_stop lt c] at q; exact q
      refine wpAny_bind (wpAny_dictEntries gx dx ?_)
      rw [here]
      refine wpAny_bind (wpAny_holding (wpAny_bind (wpAny_dictFind_heap rm (kx _ (List.mem_of_getElem? hk)) gy dy my ky ny2 (fun none_there => ?_) fun j r hj => ?_)))
      · refine wpAny_pure ?_
        rw [if_pos (show (!false) = true from rfl)]
        exact wpAny_pure (wpAny_pure (no (f0 (atKey_none_of_get none_there))))
      · have there : ey[j]? = some ⟨kd.hash k, .ref r.1, r.2⟩ := by rw [entry_at my, hj]; rfl
        refine wpAny_bind (wpAny_dictEntries gy dy ?_)
        rw [there]
        refine wpAny_holding (f1 r (atKey_of_get ny2 hj) prog w _ _ ?_)
        cases c : e n with
        | false =>
          rw [if_pos (show (!false) = true from rfl)]
          exact wpAny_pure (wpAny_pure (no c))
        | true =>
          rw [if_neg (show ¬ (!true) = true by decide)]
          refine wpAny_bind (wpAny_dictEpoch gx dx ?_)
          rw [if_neg (by simp)]
          refine wpAny_pure ⟨rfl, rfl, n + 1, lt, e2, fun j hj => ?_⟩
          by_cases cj : j = n
          · rw [cj]
            exact c
          · exact up j (by omega)
    · rintro z u ⟨rfl, rfl, i, hi, ht, up⟩
      have full : i = L.length := by
        have := congrArg List.length ht
        rw [List.length_range', List.length_nil] at this
        omega
      subst full
      rw [all_upto up] at q
      exact wpAny_pure q
  · rw [beq_eq_false_iff_ne.mpr same, Bool.false_and] at q
    rw [if_pos (by rw [zx, zy]; simpa using same)]
    exact wpAny_bind (wpAny_rule (wpAny_pure q))
theorem eq_dicts {Q : Value → Shared → Prop} (rm : kd.room A.in1) (nx : (x == sysModules) = false) (ny : (y == sysModules) = false) (dx : s.heap.DictOfH kd x L) (dy : s.heap.DictOfH kd y R) (hu : A.units < cLine)
    (fs : Finds A.in1 s L R e) (q : Q (.bool (L.length == R.length && (List.range L.length).all e)) s) : wpAny (model prog w) A (compareOp .Eq (.ref x) (.ref y)) Q E s := by
  have tx := dx.typeIs
  have ty := dy.typeIs
  refine wpAny_richCompare_same_room (op := .Eq) tx ty F.slot_dict_eq (wpAny_call_entry F.slot_dict_eq tx F.entry_dict_eq ?_ (F.args_dict_eq_2 _ _)) hu
  show wpAny _ _ (Builtin.Dict.dictSlotArgs "__eq__" ⟨[.ref x, .ref y], []⟩ >>= _) _ _ s
  unfold Builtin.Dict.dictSlotArgs
  refine wpAny_bind (wpAny_bind (wpAny_notOrdered_dict tx (wpAny_pure (wpAny_bind (wpAny_isInstance (T := "dict") ty F.sub_dict_dict ?_)))))
  simp only [Bool.not_true, Bool.false_eq_true, if_false]
  exact wpAny_bind (wpAny_pure (wpAny_bind (wpAny_pure (wpAny_bind (same_entries rm nx ny dx dy fs (wpAny_pure ⟨_, rfl, (fun z => nomatch z), by simpa using q⟩))))))
end
/-- the dicts hold the same -/
def eqD (ks ls : List (List Key × V)) : Bool := ks.length == ls.length && ks.all fun p => decide (valV ls p.1 = some p.2)
def IntsD (ks : List (List Key × V)) : Prop := ∀ p ∈ ks, ∃ n : Int, p.2 = .int n
theorem valV_mem {κ : Type} [DecidableEq κ] : ∀ {kvs : List (κ × V)} {k : κ} {v : V}, valV kvs k = some v → (k, v) ∈ kvs
  | [], k, v, h => by cases h
  | p :: kvs, k, v, h => by
    by_cases e : p.1 = k
    · rw [valV_pos e] at h
      have e2 : p.2 = v := Option.some.inj h
      rw [← e, ← e2]
      exact List.mem_cons_self ..
    · rw [valV_neg e] at h
      exact List.mem_cons_of_mem _ (valV_mem h)
/-- whether the i-th pair of ks stands in ls -/
def isAt (ks ls : List (List Key × V)) (i : Nat) : Bool := match ks[i]? with
  | some p => decide (valV ls p.1 = some p.2)
  | none => false
theorem all_isAt (ls : List (List Key × V)) (ks : List (List Key × V)) : (List.range ks.length).all (isAt ks ls) = ks.all fun p => decide (valV ls p.1 = some p.2) := by
  rw [Bool.eq_iff_iff, List.all_eq_true, List.all_eq_true]
  constructor
  · intro h p hp
    obtain ⟨i, hi⟩ := List.mem_iff_getElem?.mp hp
    have := h i (List.mem_range.mpr (List.getElem?_eq_some_iff.mp hi).1)
    unfold isAt at this
    rw [hi] at this
    exact this
  · intro h i hi
    have hi := List.mem_range.mp hi
    unfold isAt
    rw [List.getElem?_eq_getElem hi]
    exact h _ (List.getElem_mem hi)
theorem kt_get {H : Hp} {ks : List (List Key × V)} {xs : List (List Key × Addr × Value)} (r : KT H ks xs) {i : Nat} {k : List Key} {p : Addr × Value} (h : xs[i]? = some (k, p)) : ∃ v, ks[i]? = some (k, v) ∧ RelV v p.2 := by
  unfold KT at r
  induction r generalizing i with
  | nil => cases h
  | @cons a b as bs h1 _ ih =>
    cases i with
    | zero =>
      have e : b = (k, p) := Option.some.inj h
      subst e
      exact ⟨a.2, by rw [show k = a.1 from h1.1.symm]; rfl, h1.2.2⟩
    | succ i => exact ih h
theorem finds_of {A : Around} {s : Shared} {H : Hp} {ks ls : List (List Key × V)} {xa xb : List (List Key × Addr × Value)} (ra : KT H ks xa) (rb : KT H ls xb) (ia : IntsD ks) (ib : IntsD ls) : Finds A s xa xb (isAt ks ls) := by
  intro i k p h
  obtain ⟨v, hv, rv⟩ := kt_get ra h
  obtain ⟨n, en⟩ := ia _ (List.mem_of_getElem? hv)
  have en : v = .int n := en
  subst en
  obtain ⟨tn, eu⟩ := (show ∃ t, p.2 = Value.int n t from rv)
  have val := rb.val k
  have is : isAt ks ls i = decide (valV ls k = some (.int n)) := by
    unfold isAt
    rw [hv]
  rw [is, eu]
  cases c : valV ls k with
  | none =>
    rw [c] at val
    have none_there : atKey xb k = none := Option.map_eq_none_iff.mp (RelO.none_of val)
    exact ⟨fun _ => decide_eq_false (by intro z; cases z), fun q hq => by rw [none_there] at hq; cases hq⟩
  | some u =>
    obtain ⟨m, em⟩ := ib _ (valV_mem c)
    have em : u = .int m := em
    subst em
    rw [c] at val
    obtain ⟨o, ho, ro⟩ := val.some_of
    obtain ⟨q, hq, eq⟩ := Option.map_eq_some_iff.mp ho
    obtain ⟨tm, eo⟩ := (show ∃ t, o = Value.int m t from ro)
    refine ⟨fun z => (by rw [hq] at z; cases z), fun q' hq' => ?_⟩
    have same : q = q' := Option.some.inj (hq.symm.trans hq')
    rw [← same, eq, eo]
    have b : decide (some (V.int m) = some (V.int n)) = (n == m) := by
      by_cases z : n = m
      · rw [z, decide_eq_true rfl, beq_self_eq_true]
      · rw [beq_eq_false_iff_ne.mpr z]
        exact decide_eq_false fun y => z (V.int.inj (Option.some.inj y)).symm
    rw [b]
    exact SeqAt.EqAt.int_int n tn m tm
def rEqDT : R2 := fun x y H Q => ∃ a b ks ls, x = .ref a ∧ y = .ref b ∧ H a = some (.dT ks) ∧ H b = some (.dT ls) ∧ IntsD ks ∧ IntsD ls ∧ Q (.bl (eqD ks ls)) H
theorem op_eq_dT {X : Cx} (hu : X.A.units + 1 < cLine) : OpR X (compareOp .Eq) rEqDT := by
  intro pins s σ H x y v u Q I rx ry h
  obtain ⟨a, b, ks, ls, rfl, rfl, ea, eb, ia, ib, q⟩ := h
  cases (show v = Value.ref a from rx)
  cases (show u = Value.ref b from ry)
  obtain ⟨_, na, xa, ra, da⟩ := dt_of I.hok ea
  obtain ⟨_, nb, xb, rb, db⟩ := dt_of I.hok eb
  refine eq_dicts (tupleKind_room_in1 hu) na nb da db (by omega) (finds_of ra rb ia ib) ?_
  rw [← Paired.length ra, ← Paired.length rb, all_isAt]
  exact ⟨.bl (eqD ks ls), H, I, rfl, q⟩
end L2
set_option Elab.async false
set_option linter.all false
set_option maxRecDepth 100000
set_option maxHeartbeats 4000000
namespace St
/-- the i-th statement of the program -/
def topS (i : Nat) : PySem.Stmt := PySem.Challenge.pw_studtube_s09_turns.main.body.getD i (.Pass ⟨0, 0, 0, 0⟩)
abbrev s_is_digit : PySem.Stmt := topS 3
abbrev s_is_letter : PySem.Stmt := topS 4
abbrev s_fits_name : PySem.Stmt := topS 5
abbrev s_Refused_init : PySem.Stmt := L2.inClass (topS 7) 0
abbrev s_TooLong_init : PySem.Stmt := L2.inClass (topS 8) 0
abbrev s_NoSuchPart_init : PySem.Stmt := L2.inClass (topS 9) 0
abbrev s_NoCatalogue_init : PySem.Stmt := L2.inClass (topS 10) 0
abbrev s_NotRight_init : PySem.Stmt := L2.inClass (topS 11) 0
abbrev s_signs_in_order : PySem.Stmt := topS 18
abbrev s_is_sign : PySem.Stmt := topS 19
abbrev s_has_stud : PySem.Stmt := topS 20
abbrev s_has_tube : PySem.Stmt := topS 21
abbrev s_Part_init : PySem.Stmt := L2.inClass (topS 22) 0
abbrev s_Part_places_with_stud : PySem.Stmt := L2.inClass (topS 22) 1
abbrev s_Part_places_with_tube : PySem.Stmt := L2.inClass (topS 22) 2
abbrev s_Part_has_place : PySem.Stmt := L2.inClass (topS 22) 3
abbrev s_Part_sign_at : PySem.Stmt := L2.inClass (topS 22) 4
abbrev s_Reader_init : PySem.Stmt := L2.inClass (topS 30) 0
abbrev s_Reader_next_byte : PySem.Stmt := L2.inClass (topS 30) 1
abbrev s_Reader_fail_unless : PySem.Stmt := L2.inClass (topS 30) 2
abbrev s_Reader_need : PySem.Stmt := L2.inClass (topS 30) 3
abbrev s_Reader_read_name : PySem.Stmt := L2.inClass (topS 30) 4
abbrev s_Reader_read_number : PySem.Stmt := L2.inClass (topS 30) 5
abbrev s_Reader_read_sign : PySem.Stmt := L2.inClass (topS 30) 6
abbrev s_Reader_read_cells : PySem.Stmt := L2.inClass (topS 30) 7
abbrev s_Reader_read_part : PySem.Stmt := L2.inClass (topS 30) 8
abbrev s_read_catalogue : PySem.Stmt := topS 31
abbrev s_a_stud_is_covered : PySem.Stmt := topS 33
abbrev s_a_tube_is_stopped : PySem.Stmt := topS 34
abbrev s_spans : PySem.Stmt := topS 35
abbrev s_reaches_all_sides : PySem.Stmt := topS 36
abbrev s_beside : PySem.Stmt := topS 37
abbrev s_reached_from : PySem.Stmt := topS 38
abbrev s_hangs_together : PySem.Stmt := topS 39
abbrev s_broken_point : PySem.Stmt := topS 40
abbrev s_stands_in_order : PySem.Stmt := topS 41
abbrev s_right_catalogue : PySem.Stmt := topS 42
abbrev s_turned_once : PySem.Stmt := topS 45
abbrev s_turned_by : PySem.Stmt := topS 46
abbrev s_same_shape : PySem.Stmt := topS 47
abbrev s_count_of_turns : PySem.Stmt := topS 48
abbrev s_part_in : PySem.Stmt := topS 50
abbrev s_chosen_part : PySem.Stmt := topS 51
abbrev s_turns : PySem.Stmt := topS 52
end St
namespace St
open PySem PySem.Spec PyProof.Rows L2 PySem.Jx RdM BrPart BrRead
/-! ### the heap -/
/-- all stands but what is at r -/
def But (r : Addr) (H H' : Hp) : Prop := ∀ b o, H b = some o → b ≠ r → H' b = some o
theorem But.refl {r : Addr} {H : Hp} : But r H H := fun _ _ e _ => e
theorem But.trans {r : Addr} {H H1 H2 : Hp} (a : But r H H1) (b : But r H1 H2) : But r H H2 := fun c o e n => b c o (a c o e n) n
theorem But.of {r : Addr} {H H' : Hp} (a : Same H H') : But r H H' := fun b o e _ => a b o e
theorem same_new {H : Hp} {p : Addr} {o : HO} (hp : H p = none) : Same H (upd H p o) := fun b u e => by
  rw [upd_ne (ne_of_none e hp)]
  exact e
theorem but_upd {r : Addr} {H : Hp} {o : HO} : But r H (upd H r o) := fun b u e n => by
  rw [upd_ne n]
  exact e
theorem But.seq {K : PySem.W.Frag} {r a : Addr} {H H' : Hp} {xs : List V} {C d : Addr} {fs : List (Str × V)} (e : But r H H') (hr : H r = some (.ins C d fs)) (h : SqL K H a xs) : SqL K H' a xs := by
  rcases h with (h | ⟨o, h⟩) | h
  · exact .inl (.inl (e _ _ h (ne_of h hr (by intro z; cases z))))
  · exact .inl (.inr ⟨o, e _ _ h (ne_of h hr (by intro z; cases z))⟩)
  · exact .inr h
/-- the bytes as the program has them -/
def bytesV (B : Bytes) : List V := B.map fun c => V.int (c.toNat : Int)
theorem bytesV_len (B : Bytes) : (bytesV B).length = B.length := List.length_map ..
def rF (a : Addr) (p : Nat) : List (Str × V) := [("t", .ref a), ("at", .int p)]
theorem lk_here {k : Str} {v : V} {r : List (Str × V)} : List.lookup k ((k, v) :: r) = some v := by
  have e : (k == k) = true := beq_self_eq_true k
  simp only [List.lookup, e]
theorem lk_past {k g : Str} {v : V} {r : List (Str × V)} (h : (k == g) = false) : List.lookup k ((g, v) :: r) = List.lookup k r := by
  simp only [List.lookup, h]
theorem put_here {f : Str} {v x : V} {r : List (Str × V)} : putF f v ((f, x) :: r) = (f, v) :: r := if_pos rfl
theorem put_past {f g : Str} {v x : V} {r : List (Str × V)} (h : ¬ g = f) : putF f v ((g, x) :: r) = (g, x) :: putF f v r := if_neg h
theorem rF_t (a : Addr) (p : Nat) : (rF a p).lookup ("t" : Str) = some (.ref a) := lk_here
theorem rF_at (a : Addr) (p : Nat) : (rF a p).lookup ("at" : Str) = some (.int p) := (lk_past (by decide +kernel)).trans lk_here
theorem rF_no (a : Addr) (p : Nat) {f : Str} (h1 : (f == ("t" : Str)) = false) (h2 : (f == ("at" : Str)) = false) : (rF a p).lookup f = none := (lk_past h1).trans ((lk_past h2).trans rfl)
theorem rF_put (a : Addr) (p q : Nat) : putF "at" (.int (q : Nat)) (rF a p) = rF a q := (put_past (by decide +kernel)).trans (congrArg _ put_here)
/-- the reader at r, its text at a, p bytes on -/
structure RdAt (K : PySem.W.Frag) (CR : Addr) (B : Bytes) (H : Hp) (r a : Addr) (p : Nat) : Prop where
  ob : ∃ dr, H r = some (.ins CR dr (rF a p))
  tx : SqL K H a (bytesV B)
  le : p ≤ B.length
theorem RdAt.but {K : PySem.W.Frag} {CR : Addr} {B : Bytes} {H H' : Hp} {r a : Addr} {p : Nat} (R : RdAt K CR B H r a p) (s : Same H H') : RdAt K CR B H' r a p := by
  obtain ⟨⟨dr, h⟩, t, l⟩ := R
  exact ⟨⟨dr, s _ _ h⟩, s.seq t, l⟩
theorem RdAt.moved {K : PySem.W.Frag} {CR : Addr} {B : Bytes} {H : Hp} {r a dr : Addr} {p q : Nat} (R : RdAt K CR B H r a p) (hr : H r = some (.ins CR dr (rF a p))) (hq : q ≤ B.length) : RdAt K CR B (upd H r (.ins CR dr (rF a q))) r a q :=
  ⟨⟨dr, upd_same⟩, But.seq but_upd hr R.tx, hq⟩
/-! ### what the written part says -/
structure Ad where
  (digit letter fits sgns sgn next fail need rname rnum rsign rcells rpart iR iP CR CP CN iN rcat : Addr)
/-- the def st stands at f -/
def Dn (K : PySem.W.Frag) (x qual : Str) (st : Stmt) (f : Addr) : Prop := ∃ fd, Fun K x qual st f fd
structure Txt (K : PySem.W.Frag) (mg : Str → Option Value) (a : Ad) : Prop where
  ord : mg "ord" = none
  len : mg "len" = none
  range : mg "range" = none
  cName : ∃ t, mg "LONGEST_NAME" = some (.int 8 t)
  cEnd : ∃ t, mg "TEXT_END" = some (.int 256 t)
  cWide : ∃ t, mg "MOST_WIDE" = some (.int 16 t)
  cHigh : ∃ t, mg "MOST_HIGH" = some (.int 18 t)
  cHeavy : ∃ t, mg "MOST_HEAVY" = some (.int 9999 t)
  cParts : ∃ t, mg "MOST_PARTS" = some (.int 64 t)
  cBytes : ∃ t, mg "MOST_BYTES" = some (.int 1048576 t)
  c46 : ∃ t, mg "NO_CELL" = some (.int 46 t)
  c35 : ∃ t, mg "PLAIN" = some (.int 35 t)
  c115 : ∃ t, mg "STUD" = some (.int 115 t)
  c116 : ∃ t, mg "TUBE" = some (.int 116 t)
  c98 : ∃ t, mg "BOTH" = some (.int 98 t)
  gDigit : mg "is_digit" = some (.ref a.digit)
  gLetter : mg "is_letter" = some (.ref a.letter)
  gFits : mg "fits_name" = some (.ref a.fits)
  gSigns : mg "signs_in_order" = some (.ref a.sgns)
  gSign : mg "is_sign" = some (.ref a.sgn)
  gRcat : mg "read_catalogue" = some (.ref a.rcat)
  gR : mg "Reader" = some (.ref a.CR)
  gP : mg "Part" = some (.ref a.CP)
  gN : mg "NoCatalogue" = some (.ref a.CN)
  clR : Cls K a.CR
  nT : NoAttr K a.CR "t"
  nAt : NoAttr K a.CR "at"
  mNext : Meth K a.CR "next_byte" a.next
  mFail : Meth K a.CR "fail_unless" a.fail
  mNeed : Meth K a.CR "need" a.need
  mName : Meth K a.CR "read_name" a.rname
  mNum : Meth K a.CR "read_number" a.rnum
  mSign : Meth K a.CR "read_sign" a.rsign
  mCells : Meth K a.CR "read_cells" a.rcells
  mPart : Meth K a.CR "read_part" a.rpart
  clP : Cls K a.CP
  nName : NoAttr K a.CP "name"
  nWidth : NoAttr K a.CP "width"
  nDepth : NoAttr K a.CP "depth"
  nHeight : NoAttr K a.CP "height"
  nWeight : NoAttr K a.CP "weight"
  nCells : NoAttr K a.CP "cells"
  mkR : Mk K a.CR a.iR
  mkP : Mk K a.CP a.iP
  eN : ErrT K mg a.CN a.iN 1 (fun vs => [("fault", vs.getD 0 .non), ("number", .int (-6))])
  kDigit : PySem.W.keepIn K (.ref a.digit) = true
  kLetter : PySem.W.keepIn K (.ref a.letter) = true
  kFits : PySem.W.keepIn K (.ref a.fits) = true
  kSigns : PySem.W.keepIn K (.ref a.sgns) = true
  kSign : PySem.W.keepIn K (.ref a.sgn) = true
  kRcat : PySem.W.keepIn K (.ref a.rcat) = true
  dDigit : Dn K "is_digit" "is_digit" s_is_digit a.digit
  dLetter : Dn K "is_letter" "is_letter" s_is_letter a.letter
  dFits : Dn K "fits_name" "fits_name" s_fits_name a.fits
  dSigns : Dn K "signs_in_order" "signs_in_order" s_signs_in_order a.sgns
  dSign : Dn K "is_sign" "is_sign" s_is_sign a.sgn
  dNext : Dn K "next_byte" "Reader.next_byte" s_Reader_next_byte a.next
  dFail : Dn K "fail_unless" "Reader.fail_unless" s_Reader_fail_unless a.fail
  dNeed : Dn K "need" "Reader.need" s_Reader_need a.need
  dName : Dn K "read_name" "Reader.read_name" s_Reader_read_name a.rname
  dNum : Dn K "read_number" "Reader.read_number" s_Reader_read_number a.rnum
  dRsign : Dn K "read_sign" "Reader.read_sign" s_Reader_read_sign a.rsign
  dCells : Dn K "read_cells" "Reader.read_cells" s_Reader_read_cells a.rcells
  dPart : Dn K "read_part" "Reader.read_part" s_Reader_read_part a.rpart
  dIR : Dn K "__init__" "Reader.__init__" s_Reader_init a.iR
  dIP : Dn K "__init__" "Part.__init__" s_Part_init a.iP
  dRcat : Dn K "read_catalogue" "read_catalogue" s_read_catalogue a.rcat
/-- the def at f keeps its promise -/
def Ok (P : Program) (w : World) (K : PySem.W.Frag) (mg : Str → Option Value) (base : Heap) (CX : CXT) (k : Nat) (f : Addr) (ps : List Str) (sp : Sp) : Prop := ∃ fd, FnOk P w K mg base CX k f fd ps sp ∧ Binds K fd ps []
/-- no catalogue's: f is the fault -/
def Fails (CN : Addr) (f : Nat) (E : XK) : Prop := ∀ d H', H' d = some (.xd [("fault", .int f), ("number", .int (-6))]) → E (.ref CN) (some d) H'
section
variable {P : Program} {w : World} {K : PySem.W.Frag} {mg : Str → Option Value} {base : Heap} {a : Ad}
theorem iteT' {c : Bool} {A B : Prop} (hc : c = true) (h : A) : if c = true then A else B := by
  rw [if_pos hc]
  exact h
theorem iteF' {c : Bool} {A B : Prop} (hc : c = false) (h : B) : if c = true then A else B := by
  rw [hc, if_neg Bool.false_ne_true]
  exact h
theorem hxT {X : Cx} {E : XK} (t : Takes X (fun cls d _ H => E cls d H)) : Passes (L2.CX X.prog X.w) X E := passes_call t fun _ _ _ _ h => h
/-! ### is_digit, is_letter, fits_name, is_sign -/
def spB (g : Int → Bool) : Sp := fun vs H Q _ => ∃ b : Int, vs = [.int b] ∧ Q (.bl (g b)) H
theorem scDigit : FnScope ["byte"] ["byte"] (defScope s_is_digit) := ⟨rfl, rfl, rfl, by decide +kernel, rfl, by decide +kernel, by decide +kernel⟩
theorem scLetter : FnScope ["byte"] ["byte"] (defScope s_is_letter) := ⟨rfl, rfl, rfl, by decide +kernel, rfl, by decide +kernel, by decide +kernel⟩
theorem ok_digit (T : Txt K mg a) : Ok P w K mg base CX0 1 a.digit ["byte"] (spB digit) := by
  obtain ⟨fd, F⟩ := T.dDigit
  refine ⟨fd, F.ok scDigit (fun vs H Q E h => ?_) (fun cdv A outer s H vs Q E hr h => ⟨_,
    pss_one (ps_ret (pe_chain op_le op_le (pe_callB call_ord (by rfl) T.ord (by decide +kernel) (pa_cons pe_str pa_nil)) (pv 0) (pe_callB call_ord (by rfl) T.ord (by decide +kernel) (pa_cons pe_str pa_nil)))), ?_⟩),
    F.binds fun _ _ _ _ _ _ us hl => match us, hl with | [_], _ => rfl⟩
  · obtain ⟨b, rfl, _⟩ := h
    rfl
  · obtain ⟨b, rfl, h⟩ := h
    refine ⟨_, rfl, rfl, _, rfl, _, _, rfl, rfl, _, rfl, ?_⟩
    by_cases c : (48 : Int) ≤ b
    · have e1 : digit b = decide (b ≤ 57) := by unfold digit; rw [decide_eq_true c, Bool.true_and]
      refine iteT' (decide_eq_true c) ⟨_, rfl, rfl, _, _, rfl, rfl, ?_⟩
      rw [e1] at h
      exact h
    · have e1 : digit b = false := by unfold digit; rw [decide_eq_false c, Bool.false_and]
      rw [e1] at h
      exact iteF' (decide_eq_false c) h
theorem ok_letter (T : Txt K mg a) : Ok P w K mg base CX0 1 a.letter ["byte"] (spB letter) := by
  obtain ⟨fd, F⟩ := T.dLetter
  refine ⟨fd, F.ok scLetter (fun vs H Q E h => ?_) (fun cdv A outer s H vs Q E hr h => ⟨_,
    pss_one (ps_ret (pe_chain op_le op_le (pe_callB call_ord (by rfl) T.ord (by decide +kernel) (pa_cons pe_str pa_nil)) (pv 0) (pe_callB call_ord (by rfl) T.ord (by decide +kernel) (pa_cons pe_str pa_nil)))), ?_⟩),
    F.binds fun _ _ _ _ _ _ us hl => match us, hl with | [_], _ => rfl⟩
  · obtain ⟨b, rfl, _⟩ := h
    rfl
  · obtain ⟨b, rfl, h⟩ := h
    refine ⟨_, rfl, rfl, _, rfl, _, _, rfl, rfl, _, rfl, ?_⟩
    by_cases c : (97 : Int) ≤ b
    · have e1 : letter b = decide (b ≤ 122) := by unfold letter; rw [decide_eq_true c, Bool.true_and]
      refine iteT' (decide_eq_true c) ⟨_, rfl, rfl, _, _, rfl, rfl, ?_⟩
      rw [e1] at h
      exact h
    · have e1 : letter b = false := by unfold letter; rw [decide_eq_false c, Bool.false_and]
      rw [e1] at h
      exact iteF' (decide_eq_false c) h
def spFits : Sp := fun vs H Q _ => ∃ b i : Int, vs = [.int b, .int i] ∧ Q (.bl (fitsN b i)) H
theorem scFits : FnScope ["byte", "index"] ["byte", "index"] (defScope s_fits_name) := ⟨rfl, rfl, rfl, by decide +kernel, rfl, by decide +kernel, by decide +kernel⟩
theorem ok_fits (T : Txt K mg a) : Ok P w K mg base CX0 2 a.fits ["byte", "index"] spFits := by
  obtain ⟨fd, F⟩ := T.dFits
  obtain ⟨fdL, GL, bL⟩ := ok_letter (P := P) (w := w) (base := base) T
  obtain ⟨fdD, GD, bD⟩ := ok_digit (P := P) (w := w) (base := base) T
  refine ⟨fd, F.ok scFits (fun vs H Q E h => ?_) (fun cdv A outer s H vs Q E hr h => ⟨_,
    pss_one (ps_ret (pe_or (pe_call GL hr rfl T.gLetter T.kLetter bL .nil pass0 (pa_cons (pv 0) pa_nil))
      (pe_one (pe_and (pe_cmpR op_gt (pv 1) pe_int (nomark _)) (pe_one (pe_call GD hr rfl T.gDigit T.kDigit bD .nil pass0 (pa_cons (pv 0) pa_nil))))))), ?_⟩),
    F.binds fun _ _ _ _ _ _ us hl => match us, hl with | [_, _], _ => rfl⟩
  · obtain ⟨b, i, rfl, _⟩ := h
    rfl
  · obtain ⟨b, i, rfl, h⟩ := h
    refine ⟨_, rfl, _, rfl, _, rfl, ?_⟩
    unfold fitsN at h
    cases c : letter b with
    | true =>
      rw [c, Bool.true_or] at h
      exact iteT h
    | false =>
      rw [c, Bool.false_or] at h
      refine iteF ⟨_, rfl, _, _, rfl, rfl, _, rfl, ?_⟩
      by_cases z : (0 : Int) < i
      · rw [decide_eq_true (show i > 0 from z), Bool.true_and] at h
        exact iteT' (decide_eq_true z) ⟨_, rfl, _, rfl, h⟩
      · rw [decide_eq_false (show ¬ i > 0 from z), Bool.false_and] at h
        exact iteF' (decide_eq_false z) h
def signsV : List V := [.int 46, .int 35, .int 115, .int 116, .int 98]
def spSigns : Sp := fun vs H Q _ => vs = [] ∧ ∀ p, H p = none → Q (.ref p) (upd H p (.lst signsV))
theorem scSigns : FnScope [] [] (defScope s_signs_in_order) := ⟨rfl, rfl, rfl, by decide +kernel, rfl, by decide +kernel, by decide +kernel⟩
theorem ok_signs (T : Txt K mg a) : Ok P w K mg base CX0 1 a.sgns [] spSigns := by
  obtain ⟨fd, F⟩ := T.dSigns
  obtain ⟨t1, h1⟩ := T.c46
  obtain ⟨t2, h2⟩ := T.c35
  obtain ⟨t3, h3⟩ := T.c115
  obtain ⟨t4, h4⟩ := T.c116
  obtain ⟨t5, h5⟩ := T.c98
  refine ⟨fd, F.ok scSigns (fun vs H Q E h => ?_) (fun cdv A outer s H vs Q E hr h => ⟨_,
    pss_one (ps_ret (pe_lst (pa_cons (pe_glob (v := .int 46) rfl h1 ⟨_, rfl⟩) (pa_cons (pe_glob (v := .int 35) rfl h2 ⟨_, rfl⟩) (pa_cons (pe_glob (v := .int 115) rfl h3 ⟨_, rfl⟩) (pa_cons (pe_glob (v := .int 116) rfl h4 ⟨_, rfl⟩)
      (pa_cons (pe_glob (v := .int 98) rfl h5 ⟨_, rfl⟩) pa_nil))))))), ?_⟩),
    F.binds fun _ _ _ _ _ _ us hl => match us, hl with | [], _ => rfl⟩
  · obtain ⟨rfl, _⟩ := h
    rfl
  · obtain ⟨rfl, h⟩ := h
    exact ⟨(by show 5 ≤ sizeLine; decide), fun p hp => h p hp⟩
def spSign : Sp := fun vs H Q _ => ∃ b : Int, vs = [.int b] ∧ ∀ H', Same H H' → Q (.bl (sign b)) H'
theorem scSign : FnScope ["byte"] ["byte"] (defScope s_is_sign) := ⟨rfl, rfl, rfl, by decide +kernel, rfl, by decide +kernel, by decide +kernel⟩
theorem ok_sign (T : Txt K mg a) : Ok P w K mg base CX0 2 a.sgn ["byte"] spSign := by
  obtain ⟨fd, F⟩ := T.dSign
  obtain ⟨fdG, GG, bG⟩ := ok_signs (P := P) (w := w) (base := base) T
  refine ⟨fd, F.ok scSign (fun vs H Q E h => ?_) (fun cdv A outer s H vs Q E hr h => ⟨_,
    pss_one (ps_ret (pe_cmpR op_in_seq (pv 0) (pe_call0 GG hr rfl T.gSigns T.kSigns bG .nil pass0) (by rfl))), ?_⟩),
    F.binds fun _ _ _ _ _ _ us hl => match us, hl with | [_], _ => rfl⟩
  · obtain ⟨b, rfl, _⟩ := h
    rfl
  · obtain ⟨b, rfl, h⟩ := h
    refine ⟨_, rfl, rfl, fun p hp => ⟨p, _, rfl, .inl (SqL.of upd_same), rfl, rfl, ?_⟩⟩
    have e : inV (.int b) signsV = sign b := by
      have q : ∀ i j : Int, eqV (.int i) (.int j) = (j == i) := fun i j => by
        show (i == j) = (j == i)
        by_cases z : i = j
        · rw [z]
        · rw [beq_eq_false_iff_ne.mpr z, beq_eq_false_iff_ne.mpr (Ne.symm z)]
      unfold inV sign signsV
      simp only [List.any_cons, List.any_nil, q, Bool.or_false, Bool.or_assoc]
    have h' := h _ (same_new (o := .lst signsV) hp)
    show Q (.bl (if false then _ else inV (.int b) signsV)) _
    rw [if_neg Bool.false_ne_true, e]
    exact h'
/-! ### the reader: its next byte, failing, a word -/
def Out {α : Type} (K : PySem.W.Frag) (CR CN : Addr) (B : Bytes) (r a : Addr) (p : Nat) (H : Hp) (m : Rd α) (RV : α → V → Hp → Prop) (Q : VK) (E : XK) : Prop :=
  (∀ x q, m (at_ B p) = .ok (x, at_ B q) → p ≤ q → ∀ v H', RdAt K CR B H' r a q → But r H H' → RV x v H' → Q v H') ∧ ∀ f, m (at_ B p) = .error f → Fails CN f E
theorem Out.er {α : Type} {K : PySem.W.Frag} {CR CN : Addr} {B : Bytes} {r a : Addr} {p : Nat} {H : Hp} {m : Rd α} {RV : α → V → Hp → Prop} {Q : VK} {E : XK} (o : Out K CR CN B r a p H m RV Q E) {f : Nat} (h : m (at_ B p) = .error f) : Fails CN f E := o.2 f h
def spNext (K : PySem.W.Frag) (CR : Addr) (B : Bytes) : Sp := fun vs H Q _ => ∃ r a p, vs = [.ref r] ∧ RdAt K CR B H r a p ∧ Q (.int (nb B p)) H
theorem scNext : FnScope ["self"] ["self"] (defScope s_Reader_next_byte) := ⟨rfl, rfl, rfl, by decide +kernel, rfl, by decide +kernel, by decide +kernel⟩
theorem nb_at {B : Bytes} {p : Nat} (h : p < B.length) : atI (bytesV B) (p : Int) = some (.int (nb B p)) := by
  obtain ⟨c, hc⟩ : ∃ c, B[p]? = some c := ⟨B[p], by simp [h]⟩
  rw [nb_some hc]
  unfold atI ixN
  rw [bytesV_len, if_pos (Int.natCast_nonneg p), if_pos (by omega)]
  show (bytesV B)[(p : Int).toNat]? = _
  unfold bytesV
  rw [Int.toNat_natCast, List.getElem?_map, hc]
  rfl
theorem ok_next (T : Txt K mg a) {B : Bytes} : Ok P w K mg base CX0 1 a.next ["self"] (spNext K a.CR B) := by
  obtain ⟨fd, F⟩ := T.dNext
  obtain ⟨t1, h1⟩ := T.cEnd
  refine ⟨fd, F.ok scNext (fun vs H Q E h => ?_) (fun cdv A outer s H vs Q E hr h => ⟨_,
    pss_cons (ps_if (pt_cmpR op_eq (pe_fld (pv 0) rfl) (pe_callB call_len (by rfl) T.len (by decide +kernel) (pa_cons (pe_fld (pv 0) rfl) pa_nil)) (nomark _)) (pss_one (ps_ret (pe_glob (v := .int 256) rfl h1 ⟨_, rfl⟩))) pss_nil)
      (pss_one (ps_ret (pe_ix ix_list (pe_fld (pv 0) rfl) (pe_fld (pv 0) rfl) (fun _ _ => rfl)))), ?_⟩),
    F.binds fun _ _ _ _ _ _ us hl => match us, hl with | [_], _ => rfl⟩
  · obtain ⟨r, _, p, rfl, _⟩ := h
    rfl
  · obtain ⟨r, ta, p, rfl, ⟨⟨dr, hr1⟩, tx, le⟩, h⟩ := h
    refine ⟨_, rfl, r, _, dr, _, _, rfl, hr1, T.clR, T.nAt, rF_at _ _, _, rfl, r, _, dr, _, _, rfl, hr1, T.clR, T.nT, rF_t _ _, _, _, rfl, .inl ⟨_, tx, rfl⟩, rfl, _, rfl, ?_⟩
    by_cases c : p = B.length
    · subst c
      refine iteT' (decide_eq_true (by rw [bytesV_len])) ?_
      rw [nb_end] at h
      exact h
    · refine iteF' (decide_eq_false (by rw [bytesV_len]; intro z; exact c (Int.ofNat.inj (V.int.inj z)))) ?_
      exact ⟨_, rfl, r, _, dr, _, _, rfl, hr1, T.clR, T.nT, rF_t _ _, _, rfl, r, _, dr, _, _, rfl, hr1, T.clR, T.nAt, rF_at _ _, _, _, _, _, rfl, rfl, tx, nb_at (by omega), h⟩
def spFail (K : PySem.W.Frag) (CR CN : Addr) (B : Bytes) : Sp := fun vs H Q E => ∃ r a p g, vs = [.ref r, .bl g] ∧ RdAt K CR B H r a p ∧ (g = true → Q .non H) ∧ (g = false → Fails CN p E)
theorem scFail : FnScope ["self", "good"] ["self", "good"] (defScope s_Reader_fail_unless) := ⟨rfl, rfl, rfl, by decide +kernel, rfl, by decide +kernel, by decide +kernel⟩
theorem ok_fail (T : Txt K mg a) {B : Bytes} : Ok P w K mg base (L2.CX P w) 2 a.fail ["self", "good"] (spFail K a.CR a.CN B) := by
  obtain ⟨fd, F⟩ := T.dFail
  refine ⟨fd, F.okX scFail (fun vs H Q E h => ?_) (fun cdv A outer s H vs Q E hr h => ⟨_,
    pss_one (ps_if (pt_not (pt_val (pv 1))) (pss_one (ps_raise_err rfl (takes_of rfl rfl rfl rfl) (pmk_err T.eN T.gN hr (pa_cons (pe_fld (pv 0) rfl) pa_nil)))) pss_nil), ?_⟩),
    F.binds fun _ _ _ _ _ _ us hl => match us, hl with | [_, _], _ => rfl⟩
  · obtain ⟨r, _, p, g, rfl, _⟩ := h
    rfl
  · obtain ⟨r, ta, p, g, rfl, ⟨⟨dr, hr1⟩, tx, le⟩, h1, h2⟩ := h
    refine ⟨_, rfl, g, rfl, ?_⟩
    cases g with
    | true => exact iteF (h1 rfl)
    | false =>
      refine iteT ⟨_, rfl, r, _, dr, _, _, rfl, hr1, T.clR, T.nAt, rF_at _ _, rfl, by decide, fun d hd => h2 rfl d _ upd_same⟩
theorem for_str {x : Str} {g : TG} {tb : TS} {D : Ends} {σ : L2.St} {H : Hp} (Pv : Nat → L2.St → Hp → Prop) (h0 : Pv 0 σ H)
    (hs : ∀ i c σ H, x.cps[i]? = some c → Pv i σ H → g (.str ⟨#[c]⟩) σ H fun σ2 H2 => tb { D with nx := Pv (i + 1), ct := Pv (i + 1), bk := D.nx } σ2 H2) (hd : ∀ σ H, Pv x.cps.size σ H → D.nx σ H) :
    ∃ W : Nat → Nat → L2.St → Hp → Prop, (∃ m, W 0 m σ H) ∧ ∀ i m σ H, W i m σ H →
      ((Its x).stop i H ∧ D.nx σ H) ∨ ((Its x).go i H ∧ ∃ N : L2.St → Hp → Prop, (∀ σ' H', N σ' H' → ∃ m', m' < m ∧ W (i + 1) m' σ' H') ∧ ∀ y H', (Its x).yld i H y H' → g y σ H' fun σ2 H2 => tb { D with nx := N, ct := N, bk := D.nx } σ2 H2) := by
  refine ⟨fun i m σ H => m = x.cps.size - i ∧ i ≤ x.cps.size ∧ Pv i σ H, ⟨_, rfl, Nat.zero_le _, h0⟩, ?_⟩
  rintro i m σ H ⟨rfl, hi, p⟩
  by_cases lt : i < x.cps.size
  · refine .inr ⟨lt, Pv (i + 1), fun σ' H' p' => ⟨x.cps.size - (i + 1), by omega, rfl, lt, p'⟩, fun y H' yl => ?_⟩
    obtain ⟨e, c, hc, e2⟩ := yl
    subst e e2
    exact hs i c σ _ hc p
  · have e : i = x.cps.size := by omega
    subst e
    exact .inl ⟨Nat.le_refl _, hd σ H p⟩
def spNeed (K : PySem.W.Frag) (CR CN : Addr) (B : Bytes) : Sp := fun vs H Q E => ∃ r a p wd bs, vs = [.ref r, .str wd] ∧ RdAt K CR B H r a p ∧ wd.cps.toList = bs.map (fun (c : UInt8) => c.toNat) ∧ Out K CR CN B r a p H (bytes_ bs) (fun _ v _ => v = .non) Q E
theorem scNeed : FnScope ["self", "word", "sign"] ["self", "word"] (defScope s_Reader_need) := ⟨rfl, rfl, rfl, by decide +kernel, rfl, by decide +kernel, by decide +kernel⟩
theorem ok_need (T : Txt K mg a) {B : Bytes} : Ok P w K mg base (L2.CX P w) 3 a.need ["self", "word"] (spNeed K a.CR a.CN B) := by
  obtain ⟨fd, F⟩ := T.dNeed
  obtain ⟨fdN, GN, bN⟩ := ok_next (P := P) (w := w) (base := base) (B := B) T
  obtain ⟨fdF, GF, bF⟩ := ok_fail (P := P) (w := w) (base := base) (B := B) T
  refine ⟨fd, F.okX scNeed (fun vs H Q E h => ?_) (fun cdv A outer s H vs Q E hr h => ⟨_,
    pss_one (ps_for (passes_of rfl) rfl (pi_str (pv 1)) (pg_name (i := 2) scNeed.nd rfl (Or.inl rfl))
      (pss_cons (ps_expr (pe_meth (pv 0) T.clR T.mFail GF hr bF .nil (hxT (takes_of rfl rfl rfl rfl)) (pa_cons (pe_cmpR op_eq (pe_meth0 (pv 0) T.clR T.mNext GN (hr.mono (by decide)) bN .nil pass0)
          (pe_callB call_ord (by rfl) T.ord (by decide +kernel) (pa_cons (pv 2) pa_nil)) (nomark _)) pa_nil)))
        (pss_one (ps_fldaug (pv 0) pe_int in_add)))), ?_⟩),
    F.binds fun _ _ _ _ _ _ us hl => match us, hl with | [_, _], _ => rfl⟩
  · obtain ⟨r, _, p, wd, bs, rfl, _⟩ := h
    rfl
  · obtain ⟨r, ta, p, wd, bs, rfl, R, hb, o1, o2⟩ := h
    have hlen : bs.length = wd.cps.size := by
      have := congrArg List.length hb
      simpa using this.symm
    refine ⟨_, rfl, wd, rfl, for_str (fun i σ H' => ∃ v : Option V, σ = [some (.ref r), some (.str wd), v] ∧ RdAt K a.CR B H' r ta (p + i) ∧ But r H H' ∧ bytes_ bs (at_ B p) = bytes_ (bs.drop i) (at_ B (p + i)))
      ⟨none, rfl, R, But.refl, rfl⟩ ?_ ?_⟩
    · rintro i c σ H1 hc ⟨v, rfl, R1, b1, e1⟩
      obtain ⟨d, hd, hdc⟩ : ∃ d : UInt8, bs[i]? = some d ∧ c = d.toNat := by
        have z : wd.cps.toList[i]? = some c := by simpa using hc
        rw [hb, List.getElem?_map] at z
        cases q : bs[i]? with
        | none => rw [q] at z; cases z
        | some d => rw [q] at z; exact ⟨d, rfl, (Option.some.inj z).symm⟩
      subst hdc
      have e2 : bs.drop i = d :: bs.drop (i + 1) := by
        rw [List.drop_eq_getElem?_toList_append, hd]
        rfl
      rw [e2, bytes_cons] at e1
      obtain ⟨dr, hr1⟩ := R1.ob
      refine ⟨_, rfl, r, dr, _, rfl, hr1, rF_no _ _ (by decide +kernel) (by decide +kernel), ⟨_, rfl, r, dr, _, rfl, hr1, rF_no _ _ (by decide +kernel) (by decide +kernel), r, ta, p + i, rfl, R1, _, rfl, _, rfl, rfl, rfl, ?_⟩⟩
      have iff := nb_is (B := B) (p := p + i) (c := d)
      refine ⟨r, ta, p + i, _, rfl, R1, fun g => ?_, fun g => ?_⟩
      · have g1 := V.int.inj (of_decide_eq_true g)
        have g2 : B[p + i]? = some d := iff.mp g1
        refine ⟨_, rfl, r, _, dr, _, _, rfl, hr1, T.clR, T.nAt, rF_at _ _, _, _, rfl, rfl, dr, _, hr1, (by show 2 < 1000; decide), ?_⟩
        have lt : p + i < B.length := (List.getElem?_eq_some_iff.mp g2).1
        have pe : putF "at" (.int ((p + i : Nat) + 1 : Int)) (rF ta (p + i)) = rF ta (p + (i + 1)) := rF_put ta (p + i) (p + i + 1)
        rw [pe]
        refine ⟨_, rfl, R1.moved hr1 (by omega), b1.trans but_upd, ?_⟩
        rw [e1, bind_ok (byte_yes g2)]
        rfl
      · have g1 : ¬ B[p + i]? = some d := fun z => by
          have g2 := of_decide_eq_false g
          exact g2 (congrArg V.int (iff.mpr z))
        rw [bind_er (byte_no g1)] at e1
        exact o2 _ e1
    · rintro σ H1 ⟨v, rfl, R1, b1, e1⟩
      rw [← hlen, List.drop_length] at e1
      rw [← hlen] at R1
      exact o1 () (p + bs.length) e1 (by omega) .non H1 R1 b1 rfl
/-! ### readings in short -/
section
variable {CR : Addr} {B : Bytes} {r ta : Addr} {p i : Nat} {σ : L2.St} {H : Hp} {Q : VK} {E : XK}
theorem r_at (T : Txt K mg a) (hσ : σ[i]? = some (some (.ref r))) (R : RdAt K a.CR B H r ta p) (h : Q (.int p) H) : tFld K (tVar i) "at" σ H Q := by
  obtain ⟨dr, hr1⟩ := R.ob
  exact ⟨_, hσ, r, _, dr, _, _, rfl, hr1, T.clR, T.nAt, rF_at _ _, h⟩
theorem r_t (T : Txt K mg a) (hσ : σ[i]? = some (some (.ref r))) (R : RdAt K a.CR B H r ta p) (h : Q (.ref ta) H) : tFld K (tVar i) "t" σ H Q := by
  obtain ⟨dr, hr1⟩ := R.ob
  exact ⟨_, hσ, r, _, dr, _, _, rfl, hr1, T.clR, T.nT, rF_t _ _, h⟩
theorem r_next (hσ : σ[i]? = some (some (.ref r))) (R : RdAt K CR B H r ta p) (h : Q (.int (nb B p)) H) : tMeth CR "next_byte" (spNext K CR B) [] E0 (tVar i) tNil σ H Q := by
  obtain ⟨dr, hr1⟩ := R.ob
  exact ⟨_, hσ, r, dr, _, rfl, hr1, rF_no _ _ (by decide +kernel) (by decide +kernel), r, ta, p, rfl, R, h⟩
theorem r_meth {m : Str} {sp : Sp} {t : TA} (hσ : σ[i]? = some (some (.ref r))) (R : RdAt K CR B H r ta p) (h1 : (m == ("t" : Str)) = false) (h2 : (m == ("at" : Str)) = false) (h : t σ H fun vs H2 => sp (.ref r :: (vs ++ [])) H2 Q E) : tMeth CR m sp [] E (tVar i) t σ H Q := by
  obtain ⟨dr, hr1⟩ := R.ob
  exact ⟨_, hσ, r, dr, _, rfl, hr1, rF_no _ _ h1 h2, h⟩
/-- self.at += 1 -/
theorem r_step (T : Txt K mg a) {D : Ends} (hσ : σ[i]? = some (some (.ref r))) (R : RdAt K a.CR B H r ta p) (hl : p < B.length) (h : ∀ H', RdAt K a.CR B H' r ta (p + 1) → But r H H' → D.nx σ H') :
    sFldAug K (tVar i) (tC (.int 1)) L2.rAdd "at" D σ H := by
  obtain ⟨dr, hr1⟩ := R.ob
  refine ⟨_, hσ, r, _, dr, _, _, rfl, hr1, T.clR, T.nAt, rF_at _ _, _, _, rfl, rfl, dr, _, hr1, (by show 2 < 1000; decide), ?_⟩
  have pe : putF "at" (.int ((p : Nat) + 1 : Int)) (rF ta p) = rF ta (p + 1) := rF_put ta p (p + 1)
  rw [pe]
  exact h _ (R.moved hr1 hl) but_upd
end
theorem nb_lt {B : Bytes} {q : Nat} (h : nb B q ≠ 256) : q < B.length := by
  rcases nb_cases (B := B) (p := q) with ⟨_, _, _, l⟩ | ⟨_, e⟩
  · exact l
  · exact absurd e h
theorem fits_lt {B : Bytes} {q : Nat} {i : Int} (h : fitsN (nb B q) i = true) : q < B.length := nb_lt fun e => by
  rw [e, fits_end] at h
  cases h
theorem digit_lt {B : Bytes} {q : Nat} (h : digit (nb B q) = true) : q < B.length := nb_lt fun e => by
  rw [e, digit_end] at h
  cases h
theorem cut_V {B : Bytes} {p q : Nat} (h : p ≤ q) (hq : q ≤ B.length) : cutV (bytesV B) (some (p : Int)) (some (q : Int)) = bytesV (cut B p q) := by
  unfold cutV cut
  rw [HT.sIx_nat, HT.sIx_nat, bytesV_len, Nat.min_eq_left (Nat.le_trans h hq), Nat.min_eq_left hq]
  unfold bytesV
  rw [← List.map_drop, ← List.map_take]
/-! ### read_name -/
def NameV (n : Bytes) (v : V) (H : Hp) : Prop := ∃ l, v = .ref l ∧ H l = some (.lst (bytesV n))
def spRd {α : Type} (K : PySem.W.Frag) (CR CN : Addr) (B : Bytes) (m : Rd α) (RV : α → V → Hp → Prop) : Sp := fun vs H Q E => ∃ r ta p, vs = [.ref r] ∧ RdAt K CR B H r ta p ∧ Out K CR CN B r ta p H m RV Q E
theorem scName : FnScope ["self", "start"] ["self"] (defScope s_Reader_read_name) := ⟨rfl, rfl, rfl, by decide +kernel, rfl, by decide +kernel, by decide +kernel⟩
theorem ok_name (T : Txt K mg a) {B : Bytes} : Ok P w K mg base (L2.CX P w) 3 a.rname ["self"] (spRd K a.CR a.CN B name_ NameV) := by
  obtain ⟨fd, F⟩ := T.dName
  obtain ⟨t1, h1⟩ := T.cName
  obtain ⟨fdN, GN, bN⟩ := ok_next (P := P) (w := w) (base := base) (B := B) T
  obtain ⟨fdF, GF, bF⟩ := ok_fail (P := P) (w := w) (base := base) (B := B) T
  obtain ⟨fdI, GI, bI⟩ := ok_fits (P := P) (w := w) (base := base) T
  refine ⟨fd, F.okX scName (fun vs H Q E h => ?_) (fun cdv A outer s H vs Q E hr h => ⟨_,
    pss_cons (ps_set (i := 1) scName.nd rfl (Or.inl rfl) (pe_fld (pv 0) rfl))
      (pss_cons (ps_while (passes_of rfl) (PW.pt (pw_and (pt_cmpR op_lt (pe_op op_sub (pe_fld (pv 0) rfl) (pv 1)) (pe_glob (v := .int 8) rfl h1 ⟨_, rfl⟩) (nomark _))
          (pw_and1 (pt_val (pe_call GI hr rfl T.gFits T.kFits bI .nil pass0 (pa_cons (pe_meth0 (pv 0) T.clR T.mNext GN (hr.mono (by decide)) bN .nil pass0) (pa_cons (pe_op op_sub (pe_fld (pv 0) rfl) (pv 1)) pa_nil)))))))
        (pss_one (ps_fldaug (pv 0) pe_int in_add)))
      (pss_cons (ps_expr (pe_meth (pv 0) T.clR T.mFail GF hr bF .nil (hxT (takes_of rfl rfl rfl rfl)) (pa_cons (pe_cmpR op_gt (pe_fld (pv 0) rfl) (pv 1) (nomark _)) pa_nil)))
      (pss_one (ps_ret (pe_slice sl_list (pe_fld (pv 0) rfl) (po_some (pv 1)) (po_some (pe_fld (pv 0) rfl))))))), ?_⟩),
    F.binds fun _ _ _ _ _ _ us hl => match us, hl with | [_], _ => rfl⟩
  · obtain ⟨r, _, p, rfl, _⟩ := h
    rfl
  · obtain ⟨r, ta, p, rfl, R, o1, o2⟩ := h
    obtain ⟨d0, hr0⟩ := R.ob
    refine ⟨_, rfl, r, _, d0, _, _, rfl, hr0, T.clR, T.nAt, rF_at _ _, fun m σ H' => ∃ q, m = 8 - (q - p) ∧ σ = [some (.ref r), some (.int p)] ∧ RdAt K a.CR B H' r ta q ∧ But r H H' ∧ NameAt B p q, ⟨_, p, rfl, rfl, R, But.refl, NameAt.start R.le⟩, ?_⟩
    rintro m σ H1 ⟨q, rfl, rfl, R1, b1, N⟩
    obtain ⟨dr, hr1⟩ := R1.ob
    -- behind the loop
    have fin : (q - p = 8 ∨ fitsN (nb B q) ((q : Int) - p) = false) → (tSeq (tDrop (tMeth a.CR "fail_unless" (spFail K a.CR a.CN B) [] E (tVar 0) (tCons (tOp (rI0 fun i j => .bl (decide (j < i))) (tFld K (tVar 0) "at") (tVar 1)) tNil)))
        (tRet (tSl (rSlL K) (tFld K (tVar 0) "t") (tPart (tVar 1)) (tPart (tFld K (tVar 0) "at"))))) { nx := fun _ H' => Q .non H', rt := Q } [some (.ref r), some (.int p)] H1 := fun stop => by
      refine ⟨_, rfl, r, dr, _, rfl, hr1, rF_no _ _ (by decide +kernel) (by decide +kernel), _, rfl, r, _, dr, _, _, rfl, hr1, T.clR, T.nAt, rF_at _ _, _, rfl, _, _, rfl, rfl, r, ta, q, _, rfl, R1, fun g => ?_, fun g => ?_⟩
      · have hpq : p < q := by have := of_decide_eq_true g; omega
        refine ⟨_, rfl, r, _, dr, _, _, rfl, hr1, T.clR, T.nT, rF_t _ _, _, rfl, _, rfl, _, rfl, r, _, dr, _, _, rfl, hr1, T.clR, T.nAt, rF_at _ _, _, rfl, ta, _, rfl, R1.tx, fun l hl => ?_⟩
        rw [cut_V (Nat.le_of_lt hpq) R1.le]
        exact o1 _ q (N.stop stop hpq) N.lo _ _ (R1.but (same_new hl)) (b1.trans (But.of (same_new hl))) ⟨l, rfl, upd_same⟩
      · have hpq : q = p := by have := of_decide_eq_false g; have := N.lo; omega
        subst hpq
        refine o2 q (NameAt.none ?_)
        rcases stop with z | z
        · omega
        · exact z
    refine ⟨_, rfl, r, _, dr, _, _, rfl, hr1, T.clR, T.nAt, rF_at _ _, _, rfl, _, _, rfl, rfl, _, _, rfl, rfl, _, rfl, ?_⟩
    by_cases c8 : ((q : Int) - p < 8)
    · refine iteT' (decide_eq_true c8) ⟨_, rfl, r, dr, _, rfl, hr1, rF_no _ _ (by decide +kernel) (by decide +kernel), r, ta, q, rfl, R1, _, rfl, r, _, dr, _, _, rfl, hr1, T.clR, T.nAt, rF_at _ _, _, rfl, _, _, rfl, rfl, _, _, rfl, _, rfl, ?_⟩
      cases cf : fitsN (nb B q) ((q : Int) - p) with
      | true =>
        refine iteT ⟨fun σ' H' => ∃ m', m' < 8 - (q - p) ∧ ∃ q', m' = 8 - (q' - p) ∧ σ' = [some (.ref r), some (.int p)] ∧ RdAt K a.CR B H' r ta q' ∧ But r H H' ∧ NameAt B p q', fun _ _ z => z, ?_⟩
        have lt := fits_lt cf
        have hlo := N.lo
        refine r_step T rfl R1 lt fun H2 R2 b2 => ⟨8 - (q + 1 - p), by omega, q + 1, rfl, rfl, R2, b1.trans b2, N.step (by omega) cf⟩
      | false => exact iteF (fin (.inr cf))
    · refine iteF' (decide_eq_false c8) (iteF (fin (.inl ?_)))
      have := N.lo
      have := N.hi
      omega
/-! ### read_number -/
def IntV (n : Nat) (v : V) (_ : Hp) : Prop := v = .int (n : Nat)
def spNum (K : PySem.W.Frag) (CR CN : Addr) (B : Bytes) : Sp := fun vs H Q E => ∃ r ta p hi, vs = [.ref r, .int ((hi : Nat) : Int)] ∧ hi ≤ 9999 ∧ RdAt K CR B H r ta p ∧ Out K CR CN B r ta p H (num 1 hi) IntV Q E
theorem scNum : FnScope ["self", "most", "value", "longer"] ["self", "most"] (defScope s_Reader_read_number) := ⟨rfl, rfl, rfl, by decide +kernel, rfl, by decide +kernel, by decide +kernel⟩
theorem nb_nat (B : Bytes) (q : Nat) : 0 ≤ nb B q ∧ nb B q ≤ 256 := by
  rcases nb_cases (B := B) (p := q) with ⟨c, _, e, _⟩ | ⟨_, e⟩
  · rw [e]
    have := u8_lt c
    omega
  · rw [e]
    omega
theorem ok_num (T : Txt K mg a) {B : Bytes} : Ok P w K mg base (L2.CX P w) 3 a.rnum ["self", "most"] (spNum K a.CR a.CN B) := by
  obtain ⟨fd, F⟩ := T.dNum
  obtain ⟨fdN, GN, bN⟩ := ok_next (P := P) (w := w) (base := base) (B := B) T
  obtain ⟨fdF, GF, bF⟩ := ok_fail (P := P) (w := w) (base := base) (B := B) T
  obtain ⟨fdD, GD, bD⟩ := ok_digit (P := P) (w := w) (base := base) T
  refine ⟨fd, F.okX scNum (fun vs H Q E h => ?_) (fun cdv A outer s H vs Q E hr h => ⟨_,
    pss_cons (ps_set (i := 2) scNum.nd rfl (Or.inl rfl) pe_int)
      (pss_cons (ps_while (passes_of rfl) (pt_val (pe_call GD (hr.mono (by decide)) rfl T.gDigit T.kDigit bD .nil pass0 (pa_cons (pe_meth0 (pv 0) T.clR T.mNext GN (hr.mono (by decide)) bN .nil pass0) pa_nil)))
        (pss_cons (ps_set (i := 3) scNum.nd rfl (Or.inl rfl) (pe_op op_sub (pe_op op_add (pe_op op_mul (pv 2) pe_int) (pe_meth0 (pv 0) T.clR T.mNext GN (hr.mono (by decide)) bN .nil pass0))
            (pe_callB call_ord (by rfl) T.ord (by decide +kernel) (pa_cons pe_str pa_nil))))
        (pss_cons (ps_if (PW.pt (pw_or (pt_cmpR op_lt (pv 3) pe_int (nomark _)) (pw_or1 (pt_cmpR op_gt (pv 3) (pv 1) (nomark _))))) (pss_one ps_break) pss_nil)
        (pss_cons (ps_set (i := 2) scNum.nd rfl (Or.inl rfl) (pv 3))
        (pss_one (ps_fldaug (pv 0) pe_int in_add))))))
      (pss_cons (ps_expr (pe_meth (pv 0) T.clR T.mFail GF hr bF .nil (hxT (takes_of rfl rfl rfl rfl)) (pa_cons (pe_cmpR op_gt (pv 2) pe_int (nomark _)) pa_nil)))
      (pss_one (ps_ret (pv 2))))), ?_⟩),
    F.binds fun _ _ _ _ _ _ us hl => match us, hl with | [_, _], _ => rfl⟩
  · obtain ⟨r, _, p, hi, rfl, _⟩ := h
    rfl
  · obtain ⟨r, ta, p, hi, rfl, hh, R, o1, o2⟩ := h
    refine ⟨fun m σ H' => ∃ q v x, m = 5 - (q - p) ∧ σ = [some (.ref r), some (.int ((hi : Nat) : Int)), some (.int ((v : Nat) : Int)), x] ∧ RdAt K a.CR B H' r ta q ∧ But r H H' ∧ NumAt hi B p q v,
      ⟨_, p, 0, none, rfl, rfl, R, But.refl, NumAt.start R.le⟩, ?_⟩
    rintro m σ H1 ⟨q, v, x, rfl, rfl, R1, b1, N⟩
    obtain ⟨dr, hr1⟩ := R1.ob
    have few := N.few hh
    have fin : ∀ x, (digit (nb B q) = true → ¬ (1 ≤ v * 10 + nb B q - 48 ∧ v * 10 + nb B q - 48 ≤ (hi : Int))) → (tSeq (tDrop (tMeth a.CR "fail_unless" (spFail K a.CR a.CN B) [] E (tVar 0) (tCons (tOp (rI0 fun i j => .bl (decide (j < i))) (tVar 2) (tC (.int 0))) tNil)))
        (tRet (tVar 2))) { nx := fun _ H' => Q .non H', rt := Q } [some (.ref r), some (.int ((hi : Nat) : Int)), some (.int ((v : Nat) : Int)), x] H1 := fun x stop => by
      have e := N.stop hh stop
      refine ⟨_, rfl, r, dr, _, rfl, hr1, rF_no _ _ (by decide +kernel) (by decide +kernel), _, rfl, _, _, rfl, rfl, r, ta, q, _, rfl, R1, fun g => ?_, fun g => ?_⟩
      · have hv : 0 < v := by have := of_decide_eq_true g; omega
        rw [if_pos hv] at e
        exact ⟨_, rfl, o1 v q e N.lo _ _ R1 b1 rfl⟩
      · have hv : ¬ 0 < v := by have := of_decide_eq_false g; omega
        rw [if_neg hv] at e
        exact o2 q e
    refine ⟨_, rfl, r, dr, _, rfl, hr1, rF_no _ _ (by decide +kernel) (by decide +kernel), r, ta, q, rfl, R1, _, rfl, _, rfl, ?_⟩
    cases cd : digit (nb B q) with
    | false => exact iteF (fin x fun z => by rw [cd] at z; cases z)
    | true =>
      refine iteT ⟨fun σ' H' => ∃ m', m' < 5 - (q - p) ∧ ∃ q' v' x', m' = 5 - (q' - p) ∧ σ' = [some (.ref r), some (.int ((hi : Nat) : Int)), some (.int ((v' : Nat) : Int)), x'] ∧ RdAt K a.CR B H' r ta q' ∧ But r H H' ∧ NumAt hi B p q' v', fun _ _ z => z, ?_⟩
      have hnb := nb_nat B q
      have hvle := N.le
      have lt := digit_lt cd
      refine ⟨_, rfl, _, _, rfl, rfl, .inl ⟨by omega, by omega⟩, _, rfl, r, dr, _, rfl, hr1, rF_no _ _ (by decide +kernel) (by decide +kernel), r, ta, q, rfl, R1, _, _, rfl, rfl, _, rfl, rfl, _, _, rfl, rfl, ?_⟩
      refine ⟨_, rfl, _, _, rfl, rfl, _, rfl, ?_⟩
      by_cases c1 : (v : Int) * 10 + nb B q - 48 < 1
      · refine iteT' (decide_eq_true c1) (iteT ?_)
        exact fin _ fun _ z => by omega
      · refine iteF' (decide_eq_false c1) ⟨_, rfl, _, rfl, _, _, rfl, rfl, _, rfl, ?_⟩
        by_cases c2 : (hi : Int) < (v : Int) * 10 + nb B q - 48
        · refine iteT' (decide_eq_true c2) ?_
          exact fin _ fun _ z => by omega
        · refine iteF' (decide_eq_false c2) ?_
          obtain ⟨u, hu⟩ : ∃ u : Nat, (u : Int) = (v : Int) * 10 + nb B q - 48 := ⟨((v : Int) * 10 + nb B q - 48).toNat, by omega⟩
          refine ⟨_, rfl, r_step T rfl R1 lt fun H2 R2 b2 => ?_⟩
          have hlo := N.lo
          refine ⟨5 - (q + 1 - p), by omega, q + 1, u, some (.int ((u : Nat) : Int)), rfl, ?_, R2, b1.trans b2, N.step hh cd hu (by omega) (by omega)⟩
          show [some (V.ref r), some (V.int ((hi : Nat) : Int)), some (V.int ((v : Int) * 10 + nb B q - 48)), some (V.int ((v : Int) * 10 + nb B q - 48))] = _
          rw [← hu]
/-! ### read_sign -/
def PlaceV (pl : BrPart.Place) (v : V) (_ : Hp) : Prop := v = .int (pl.byte.toNat : Int)
theorem scRsign : FnScope ["self", "sign"] ["self"] (defScope s_Reader_read_sign) := ⟨rfl, rfl, rfl, by decide +kernel, rfl, by decide +kernel, by decide +kernel⟩
theorem ok_rsign (T : Txt K mg a) {B : Bytes} : Ok P w K mg base (L2.CX P w) 3 a.rsign ["self"] (spRd K a.CR a.CN B place_ PlaceV) := by
  obtain ⟨fd, F⟩ := T.dRsign
  obtain ⟨fdN, GN, bN⟩ := ok_next (P := P) (w := w) (base := base) (B := B) T
  obtain ⟨fdF, GF, bF⟩ := ok_fail (P := P) (w := w) (base := base) (B := B) T
  obtain ⟨fdS, GS, bS⟩ := ok_sign (P := P) (w := w) (base := base) T
  refine ⟨fd, F.okX scRsign (fun vs H Q E h => ?_) (fun cdv A outer s H vs Q E hr h => ⟨_,
    pss_cons (ps_set (i := 1) scRsign.nd rfl (Or.inl rfl) (pe_meth0 (pv 0) T.clR T.mNext GN (hr.mono (by decide)) bN .nil pass0))
      (pss_cons (ps_expr (pe_meth (pv 0) T.clR T.mFail GF hr bF .nil (hxT (takes_of rfl rfl rfl rfl)) (pa_cons (pe_call GS (hr.mono (by decide)) rfl T.gSign T.kSign bS .nil pass0 (pa_cons (pv 1) pa_nil)) pa_nil)))
      (pss_cons (ps_fldaug (pv 0) pe_int in_add)
      (pss_one (ps_ret (pv 1))))), ?_⟩),
    F.binds fun _ _ _ _ _ _ us hl => match us, hl with | [_], _ => rfl⟩
  · obtain ⟨r, _, p, rfl, _⟩ := h
    rfl
  · obtain ⟨r, ta, p, rfl, R, o1, o2⟩ := h
    obtain ⟨dr, hr1⟩ := R.ob
    refine ⟨_, rfl, r, dr, _, rfl, hr1, rF_no _ _ (by decide +kernel) (by decide +kernel), r, ta, p, rfl, R, _, rfl, r, dr, _, rfl, hr1, rF_no _ _ (by decide +kernel) (by decide +kernel), _, rfl, _, rfl, fun H1 s1 => ?_⟩
    have R1 := R.but s1
    refine ⟨r, ta, p, _, rfl, R1, fun g => ?_, fun g => ?_⟩
    · obtain ⟨pl, h1, h2, h3⟩ := sign_yes g
      refine r_step T rfl R1 h3 fun H2 R2 b2 => ⟨_, rfl, ?_⟩
      exact o1 pl (p + 1) (place_yes h1) (Nat.le_succ _) _ _ R2 ((But.of s1).trans b2) (by show V.int (nb B p) = _; rw [h2])
    · exact o2 p (place_no (sign_no g))
end
end St
set_option Elab.async false
set_option linter.all false
set_option maxRecDepth 100000
set_option maxHeartbeats 4000000
namespace St
open PySem PySem.Spec PyProof.Rows L2 PySem.Jx RdM BrPart BrRead
/-! ### the dict of the cells -/
def keyOf (wd dp i : Nat) : List Key := [.inl ((i % wd : Nat) : Int), .inl ((i / wd % dp : Nat) : Int), .inl ((i / wd / dp : Nat) : Int)]
def cellAt (wd dp : Nat) (x : BrPart.Place × Nat) : Option (List Key × V) := if x.1 = .none then none else some (keyOf wd dp x.2, .int (x.1.byte.toNat : Int))
def cellsOf (wd dp : Nat) (L : List BrPart.Place) : List (List Key × V) := L.zipIdx.filterMap (cellAt wd dp)
theorem cells_none {wd dp : Nat} {L : List BrPart.Place} : cellsOf wd dp (L ++ [.none]) = cellsOf wd dp L := by
  unfold cellsOf
  rw [List.zipIdx_append, List.filterMap_append]
  simp [cellAt]
theorem cells_some {wd dp : Nat} {L : List BrPart.Place} {pl : BrPart.Place} (h : pl ≠ .none) : cellsOf wd dp (L ++ [pl]) = cellsOf wd dp L ++ [(keyOf wd dp L.length, .int (pl.byte.toNat : Int))] := by
  unfold cellsOf
  rw [List.zipIdx_append, List.filterMap_append]
  simp [cellAt, h]
theorem cells_len {wd dp : Nat} (L : List BrPart.Place) : (cellsOf wd dp L).length ≤ L.length := by
  have h := List.length_filterMap_le (cellAt wd dp) L.zipIdx
  rw [List.length_zipIdx] at h
  exact h
theorem keyOf_inj {wd dp i j : Nat} (h : keyOf wd dp i = keyOf wd dp j) : i = j := by
  unfold keyOf at h
  have h1 := Sum.inl.inj (List.cons.inj h).1
  have h2 := Sum.inl.inj (List.cons.inj (List.cons.inj h).2).1
  have h3 := Sum.inl.inj (List.cons.inj (List.cons.inj (List.cons.inj h).2).2).1
  have e1 : i % wd = j % wd := by omega
  have e2 : i / wd % dp = j / wd % dp := by omega
  have e3 : i / wd / dp = j / wd / dp := by omega
  have e4 : i / wd = j / wd := by
    rw [← Nat.div_add_mod (i / wd) dp, ← Nat.div_add_mod (j / wd) dp, e2, e3]
  rw [← Nat.div_add_mod i wd, ← Nat.div_add_mod j wd, e1, e4]
theorem cells_mem {wd dp : Nat} {L : List BrPart.Place} {k : List Key} {v : V} (h : (k, v) ∈ cellsOf wd dp L) : ∃ i pl, L[i]? = some pl ∧ pl ≠ .none ∧ k = keyOf wd dp i ∧ v = .int (pl.byte.toNat : Int) := by
  unfold cellsOf at h
  obtain ⟨⟨pl, i⟩, hm, hc⟩ := List.mem_filterMap.mp h
  have hm2 := List.mem_zipIdx_iff_getElem?.mp hm
  unfold cellAt at hc
  by_cases z : pl = .none
  · rw [if_pos z] at hc
    cases hc
  · rw [if_neg z] at hc
    have hc2 := Option.some.inj hc
    exact ⟨i, pl, hm2, z, (Prod.mk.inj hc2).1.symm, (Prod.mk.inj hc2).2.symm⟩
theorem cells_new {wd dp : Nat} {L : List BrPart.Place} : valV (cellsOf wd dp L) (keyOf wd dp L.length) = none := by
  cases e : valV (cellsOf wd dp L) (keyOf wd dp L.length) with
  | none => rfl
  | some v =>
    have hm := valV_in e
    obtain ⟨⟨k, v'⟩, hm, hk⟩ := List.mem_map.mp hm
    obtain ⟨i, pl, hi, _, hk2, _⟩ := cells_mem hm
    have hk3 : k = keyOf wd dp L.length := hk
    rw [hk3] at hk2
    have hij := keyOf_inj hk2
    have hlt := (List.getElem?_eq_some_iff.mp hi).1
    omega
theorem key_at {wd dp x y z : Nat} (hx : x < wd) (hy : y < dp) : keyOf wd dp ((z * dp + y) * wd + x) = [.inl (x : Int), .inl (y : Int), .inl (z : Int)] := by
  have hw : 0 < wd := by omega
  have hd : 0 < dp := by omega
  unfold keyOf
  have e1 : ((z * dp + y) * wd + x) % wd = x := by
    rw [Nat.mul_comm, Nat.mul_add_mod, Nat.mod_eq_of_lt hx]
  have e2 : ((z * dp + y) * wd + x) / wd = z * dp + y := by
    rw [Nat.mul_comm, Nat.mul_add_div hw, Nat.div_eq_of_lt hx, Nat.add_zero]
  have e3 : (z * dp + y) % dp = y := by
    rw [Nat.mul_comm, Nat.mul_add_mod, Nat.mod_eq_of_lt hy]
  have e4 : (z * dp + y) / dp = z := by
    rw [Nat.mul_comm, Nat.mul_add_div hd, Nat.div_eq_of_lt hy, Nat.add_zero]
  rw [e1, e2, e3, e4]
theorem byte_ne {pl : BrPart.Place} (h : pl ≠ .none) : (pl.byte.toNat : Int) ≠ 46 := by
  cases pl with
  | none => exact absurd rfl h
  | cell s t => cases s <;> cases t <;> decide
section
variable {P : Program} {w : World} {K : PySem.W.Frag} {mg : Str → Option Value} {base : Heap} {a : Ad}
/-! ### read_cells -/
def CellsV (wd dp : Nat) (L : List BrPart.Place) (v : V) (H : Hp) : Prop := ∃ c, v = .ref c ∧ H c = some (.dT (cellsOf wd dp L))
def spCells (K : PySem.W.Frag) (CR CN : Addr) (B : Bytes) : Sp := fun vs H Q E => ∃ r ta p wd dp ht, vs = [.ref r, .int ((wd : Nat) : Int), .int ((dp : Nat) : Int), .int ((ht : Nat) : Int)] ∧ wd ≤ 16 ∧ dp ≤ 16 ∧ ht ≤ 18 ∧
  RdAt K CR B H r ta p ∧ Out K CR CN B r ta p H (rowsM wd (dp * ht) []) (CellsV wd dp) Q E
theorem scCells : FnScope ["self", "width", "depth", "height", "cells", "z", "y", "x", "sign"] ["self", "width", "depth", "height"] (defScope s_Reader_read_cells) := ⟨rfl, rfl, rfl, by decide +kernel, rfl, by decide +kernel, by decide +kernel⟩
theorem ok_cells (T : Txt K mg a) {B : Bytes} : Ok P w K mg base (L2.CX P w) 4 a.rcells ["self", "width", "depth", "height"] (spCells K a.CR a.CN B) := by
  obtain ⟨fd, F⟩ := T.dCells
  obtain ⟨t1, h46⟩ := T.c46
  obtain ⟨fdS, GS, bS⟩ := ok_rsign (P := P) (w := w) (base := base) (B := B) T
  obtain ⟨fdN, GN, bN⟩ := ok_need (P := P) (w := w) (base := base) (B := B) T
  refine ⟨fd, F.okX scCells (fun vs H Q E h => ?_) (fun cdv A outer s H vs Q E hr h => ⟨_,
    pss_cons (ps_set (i := 4) scCells.nd rfl (Or.inl rfl) pe_dnewT)
      (pss_cons (ps_for (passes_of rfl) rfl (pi_range1 rfl T.range (pa_cons (pv 3) pa_nil)) (pg_name (i := 5) scCells.nd rfl (Or.inl rfl))
        (pss_one (ps_for (passes_of rfl) rfl (pi_range1 rfl T.range (pa_cons (pv 2) pa_nil)) (pg_name (i := 6) scCells.nd rfl (Or.inl rfl))
          (pss_cons (ps_for (passes_of rfl) rfl (pi_range1 rfl T.range (pa_cons (pv 1) pa_nil)) (pg_name (i := 7) scCells.nd rfl (Or.inl rfl))
            (pss_cons (ps_set (i := 8) scCells.nd rfl (Or.inl rfl) (pe_meth0 (pv 0) T.clR T.mSign GS hr bS .nil (hxT (takes_of rfl rfl rfl rfl))))
            (pss_one (ps_if (pt_cmpR op_ne (pv 8) (pe_glob (v := .int 46) rfl h46 ⟨_, rfl⟩) (nomark _))
              (pss_one (ps_dput (hu_of hr) (pv 4) (pe_tup (pa_cons (pv 7) (pa_cons (pv 6) (pa_cons (pv 5) pa_nil)))) (pv 8) rfl)) pss_nil))))
          (pss_one (ps_expr (pe_meth (pv 0) T.clR T.mNeed GN hr bN .nil (hxT (takes_of rfl rfl rfl rfl)) (pa_cons pe_str pa_nil))))))))
      (pss_one (ps_ret (pv 4)))), ?_⟩),
    F.binds fun _ _ _ _ _ _ us hl => match us, hl with | [_, _, _, _], _ => rfl⟩
  · obtain ⟨r, _, p, wd, dp, ht, rfl, _⟩ := h
    rfl
  · obtain ⟨r, ta, p, wd, dp, ht, rfl, hw, hd, hh, R, o1, o2⟩ := h
    intro c hc
    have big : ∀ n, n ≤ 5000 → n < sizeLine := fun n hn => Nat.lt_of_le_of_lt hn (by decide)
    have sz : dp * ht * wd ≤ 4608 := by
      have z1 : dp * ht ≤ 16 * 18 := Nat.mul_le_mul hd hh
      exact Nat.le_trans (Nat.mul_le_mul z1 hw) (by decide)
    refine ⟨_, rfl, ((ht : Nat) : Int), rfl, by omega, by omega, for_range (lo := 0) (n := ht) (fun z σ H' => ∃ (q : Nat) (L : List BrPart.Place) (v1 v2 v3 v4 : Option V),
      σ = [some (.ref r), some (.int ((wd : Nat) : Int)), some (.int ((dp : Nat) : Int)), some (.int ((ht : Nat) : Int)), some (.ref c), v1, v2, v3, v4] ∧ RdAt K a.CR B H' r ta q ∧ But r H H' ∧ H' c = some (.dT (cellsOf wd dp L)) ∧ p ≤ q ∧
      L.length = z * dp * wd ∧ rowsM wd (dp * ht) [] (at_ B p) = rowsM wd (dp * ht - z * dp) L (at_ B q))
      ⟨p, [], none, none, none, none, rfl, R.but (same_new hc), But.of (same_new hc), upd_same, Nat.le_refl _, by simp, by simp⟩ ?_ ?_⟩
    · rintro z σ H1 hz ⟨q, L, v1, v2, v3, v4, rfl, R1, b1, hc1, hq1, hL, e1⟩
      have hzd : z * dp + dp ≤ dp * ht := by
        have z1 : (z + 1) * dp ≤ ht * dp := Nat.mul_le_mul_right dp hz
        rw [Nat.add_mul, Nat.one_mul, Nat.mul_comm ht dp] at z1
        exact z1
      refine ⟨_, rfl, ((dp : Nat) : Int), rfl, by omega, by omega, for_range (lo := 0) (n := dp) (fun y σ H' => ∃ (q : Nat) (L : List BrPart.Place) (v2 v3 v4 : Option V),
        σ = [some (.ref r), some (.int ((wd : Nat) : Int)), some (.int ((dp : Nat) : Int)), some (.int ((ht : Nat) : Int)), some (.ref c), some (.int (0 + (z : Int))), v2, v3, v4] ∧ RdAt K a.CR B H' r ta q ∧ But r H H' ∧ H' c = some (.dT (cellsOf wd dp L)) ∧ p ≤ q ∧
        L.length = (z * dp + y) * wd ∧ rowsM wd (dp * ht) [] (at_ B p) = rowsM wd (dp * ht - (z * dp + y)) L (at_ B q))
        ⟨q, L, v2, v3, v4, rfl, R1, b1, hc1, hq1, by simpa using hL, by simpa using e1⟩ ?_ ?_⟩
      · rintro y σ H2 hy ⟨q2, L2, v2, v3, v4, rfl, R2, b2, hc2, hq2, hL2, e2⟩
        have e2' : rowsM wd (dp * ht) [] (at_ B p) = rowM wd wd (dp * ht - (z * dp + y) - 1) L2 (at_ B q2) := by
          rw [e2]
          have z1 : dp * ht - (z * dp + y) = (dp * ht - (z * dp + y) - 1) + 1 := by omega
          rw [z1, rows_succ]
          rfl
        have hrow : (z * dp + y) * wd + wd ≤ dp * ht * wd := by
          have z1 : (z * dp + y + 1) * wd ≤ dp * ht * wd := Nat.mul_le_mul_right wd (by omega)
          rw [Nat.add_mul, Nat.one_mul] at z1
          exact z1
        refine ⟨_, rfl, ((wd : Nat) : Int), rfl, by omega, by omega, for_range (lo := 0) (n := wd) (fun x σ H' => ∃ (q : Nat) (L : List BrPart.Place) (v3 v4 : Option V),
          σ = [some (.ref r), some (.int ((wd : Nat) : Int)), some (.int ((dp : Nat) : Int)), some (.int ((ht : Nat) : Int)), some (.ref c), some (.int (0 + (z : Int))), some (.int (0 + (y : Int))), v3, v4] ∧ RdAt K a.CR B H' r ta q ∧ But r H H' ∧ H' c = some (.dT (cellsOf wd dp L)) ∧ p ≤ q ∧
          L.length = (z * dp + y) * wd + x ∧ rowsM wd (dp * ht) [] (at_ B p) = rowM wd (wd - x) (dp * ht - (z * dp + y) - 1) L (at_ B q))
          ⟨q2, L2, v3, v4, rfl, R2, b2, hc2, hq2, by simpa using hL2, by simpa using e2'⟩ ?_ ?_⟩
        · rintro x σ H3 hx ⟨q3, L3, v3, v4, rfl, R3, b3, hc3, hq3, hL3, e3⟩
          have z1 : wd - x = (wd - (x + 1)) + 1 := by omega
          rw [z1, row_succ] at e3
          obtain ⟨dr, hr3⟩ := R3.ob
          refine ⟨_, rfl, r, dr, _, rfl, hr3, rF_no _ _ (by decide +kernel) (by decide +kernel), r, ta, q3, rfl, R3, fun pl q4 hpl hle v H4 R4 b4 rv => ?_, fun f hf => o2 f (by rw [e3, bind_er hf])⟩
          have rv' : v = .int (pl.byte.toNat : Int) := rv
          subst rv'
          rw [bind_ok hpl] at e3
          have hc4 := b4 c _ hc3 (ne_of hc3 hr3 (by intro z; cases z))
          refine ⟨_, rfl, rfl, _, rfl, ?_⟩
          by_cases hn : pl = .none
          · subst hn
            refine iteF' (by decide) ⟨q4, L3 ++ [.none], some (.int (0 + (x : Int))), _, rfl, R4, b3.trans b4, by rw [cells_none]; exact hc4, by omega, by rw [List.length_append, hL3, List.length_singleton, Nat.add_assoc], e3⟩
          · refine iteT' (by rw [decide_eq_false (fun z => byte_ne hn (V.int.inj z))]; rfl) ⟨_, rfl, _, rfl, _, rfl, _, rfl, _, rfl, (by show 3 ≤ sizeLine; decide), fun t0 ht0 => ?_⟩
            have hct : upd H4 t0 (.tup [.int (0 + (x : Int)), .int (0 + (y : Int)), .int (0 + (z : Int))]) c = some (.dT (cellsOf wd dp L3)) := same_new ht0 _ _ hc4
            have lenL : (cellsOf wd dp L3).length < sizeLine := big _ (by have := cells_len (wd := wd) (dp := dp) L3; omega)
            have kx : ([.inl (x : Int), .inl (y : Int), .inl (z : Int)] : List Key).map kV = [.int (0 + (x : Int)), .int (0 + (y : Int)), .int (0 + (z : Int))] := by
              simp only [List.map_cons, List.map_nil, kV, Int.zero_add]
            refine ⟨c, _, rfl, DPut.t (k := [.inl (x : Int), .inl (y : Int), .inl (z : Int)]) hct (by rw [kx]; exact upd_same) lenL, ?_⟩
            have kk := key_at (z := z) hx hy
            have pk : putK (cellsOf wd dp L3) [.inl (x : Int), .inl (y : Int), .inl (z : Int)] (.int (pl.byte.toNat : Int)) = cellsOf wd dp (L3 ++ [pl]) := by
              rw [← kk, ← hL3, putK_new _ cells_new, cells_some hn]
            rw [pk]
            have hc0 : ∀ b o, H b = some o → b ≠ c := fun b o e z => by rw [z, hc] at e; cases e
            have R5 := R4.but (same_new (o := .tup [.int (0 + (x : Int)), .int (0 + (y : Int)), .int (0 + (z : Int))]) ht0)
            obtain ⟨⟨d5, hr5⟩, tx5, le5⟩ := R5
            have rc : r ≠ c := ne_of hr5 hct (by intro z; cases z)
            have tx6 : SqL K (upd (upd H4 t0 (.tup [.int (0 + (x : Int)), .int (0 + (y : Int)), .int (0 + (z : Int))])) c (.dT (cellsOf wd dp (L3 ++ [pl])))) ta (bytesV B) := by
              rcases tx5 with (h | ⟨o, h⟩) | h
              · exact .inl (.inl (by rw [upd_ne (ne_of h hct (by intro z; cases z))]; exact h))
              · exact .inl (.inr ⟨o, by rw [upd_ne (ne_of h hct (by intro z; cases z))]; exact h⟩)
              · exact .inr h
            refine ⟨q4, L3 ++ [pl], some (.int (0 + (x : Int))), _, rfl, ⟨⟨d5, by rw [upd_ne rc]; exact hr5⟩, tx6, le5⟩, fun b o e n => ?_, upd_same, by omega, by rw [List.length_append, hL3, List.length_singleton, Nat.add_assoc], e3⟩
            rw [upd_ne (hc0 b o e)]
            exact same_new ht0 _ _ (b4 b o (b3 b o e n) n)
        · rintro σ H3 ⟨q3, L3, v3, v4, rfl, R3, b3, hc3, hq3, hL3, e3⟩
          rw [Nat.sub_self, row_zero] at e3
          obtain ⟨dr, hr3⟩ := R3.ob
          refine ⟨_, rfl, r, dr, _, rfl, hr3, rF_no _ _ (by decide +kernel) (by decide +kernel), r, ta, q3, _, [10], rfl, R3, by decide +kernel, fun _ q4 hb hle v H4 R4 b4 rv => ?_, fun f hf => o2 f (by rw [bytes_one] at hf; rw [e3, bind_er hf])⟩
          rw [bytes_one] at hb
          rw [bind_ok hb] at e3
          refine ⟨q4, L3, _, v3, v4, rfl, R4, b3.trans b4, b4 c _ hc3 (ne_of hc3 hr3 (by intro z; cases z)), by omega, ?_, ?_⟩
          · rw [hL3, ← Nat.add_assoc, Nat.add_mul (z * dp + y) 1, Nat.one_mul]
          · rw [e3, Nat.sub_sub, Nat.add_assoc]
      · rintro σ H2 ⟨q2, L2, v2, v3, v4, rfl, R2, b2, hc2, hq2, hL2, e2⟩
        have z1 : (z + 1) * dp = z * dp + dp := by rw [Nat.add_mul, Nat.one_mul]
        exact ⟨q2, L2, _, v2, v3, v4, rfl, R2, b2, hc2, hq2, by rw [z1]; exact hL2, by rw [z1]; exact e2⟩
    · rintro σ H1 ⟨q, L, v1, v2, v3, v4, rfl, R1, b1, hc1, hq1, hL, e1⟩
      have z1 : dp * ht - ht * dp = 0 := by rw [Nat.mul_comm]; exact Nat.sub_self _
      rw [z1, rows_zero] at e1
      exact ⟨_, rfl, o1 L q e1 hq1 _ H1 R1 b1 ⟨c, rfl, hc1⟩⟩
end
end St
set_option Elab.async false
set_option linter.all false
set_option maxRecDepth 100000
set_option maxHeartbeats 4000000
namespace St
open PySem PySem.Spec PyProof.Rows L2 PySem.Jx RdM BrPart BrRead
/-! ### parts in the heap -/
def pF (nl : Addr) (w d h g : Nat) (c : Addr) : List (Str × V) := [("name", .ref nl), ("width", .int (w : Nat)), ("depth", .int (d : Nat)), ("height", .int (h : Nat)), ("weight", .int (g : Nat)), ("cells", .ref c)]
theorem pF_name {nl c : Addr} {w d h g : Nat} : (pF nl w d h g c).lookup ("name" : Str) = some (.ref nl) := lk_here
theorem pF_width {nl c : Addr} {w d h g : Nat} : (pF nl w d h g c).lookup ("width" : Str) = some (.int (w : Nat)) := (lk_past (by decide +kernel)).trans lk_here
theorem pF_depth {nl c : Addr} {w d h g : Nat} : (pF nl w d h g c).lookup ("depth" : Str) = some (.int (d : Nat)) := (lk_past (by decide +kernel)).trans ((lk_past (by decide +kernel)).trans lk_here)
theorem pF_height {nl c : Addr} {w d h g : Nat} : (pF nl w d h g c).lookup ("height" : Str) = some (.int (h : Nat)) := (lk_past (by decide +kernel)).trans ((lk_past (by decide +kernel)).trans ((lk_past (by decide +kernel)).trans lk_here))
theorem pF_weight {nl c : Addr} {w d h g : Nat} : (pF nl w d h g c).lookup ("weight" : Str) = some (.int (g : Nat)) := (lk_past (by decide +kernel)).trans ((lk_past (by decide +kernel)).trans ((lk_past (by decide +kernel)).trans ((lk_past (by decide +kernel)).trans lk_here)))
theorem pF_cells {nl c : Addr} {w d h g : Nat} : (pF nl w d h g c).lookup ("cells" : Str) = some (.ref c) := (lk_past (by decide +kernel)).trans ((lk_past (by decide +kernel)).trans ((lk_past (by decide +kernel)).trans ((lk_past (by decide +kernel)).trans ((lk_past (by decide +kernel)).trans lk_here))))
structure PartAt (CP : Addr) (H : Hp) (pp : Addr) (x : Part) (dp nl c : Addr) : Prop where
  ob : H pp = some (.ins CP dp (pF nl x.wide x.deep x.high x.weight c))
  nm : H nl = some (.lst (bytesV x.name))
  cl : H c = some (.dT (cellsOf x.wide x.deep x.places))
theorem PartAt.same {CP : Addr} {H H' : Hp} {pp dp nl c : Addr} {x : Part} (A : PartAt CP H pp x dp nl c) (s : Same H H') : PartAt CP H' pp x dp nl c := ⟨s _ _ A.ob, s _ _ A.nm, s _ _ A.cl⟩
def IsPart (CP : Addr) (H : Hp) (pp : Addr) (x : Part) : Prop := ∃ dp nl c, PartAt CP H pp x dp nl c
theorem IsPart.same {CP : Addr} {H H' : Hp} {pp : Addr} {x : Part} (A : IsPart CP H pp x) (s : Same H H') : IsPart CP H' pp x := by
  obtain ⟨dp, nl, c, h⟩ := A
  exact ⟨dp, nl, c, h.same s⟩
theorem rF_pF {CR CP dr dp : Addr} {ta nl c : Addr} {q w d h g : Nat} : HO.ins CP dp (pF nl w d h g c) ≠ HO.ins CR dr (rF ta q) := by
  intro z
  have e := (HO.ins.inj z).2.2
  have e2 := congrArg List.length e
  exact absurd e2 (by show (6 : Nat) ≠ 2; decide)
theorem IsPart.but {CP CR : Addr} {H H' : Hp} {pp r dr ta : Addr} {q : Nat} {x : Part} (A : IsPart CP H pp x) (hr : H r = some (.ins CR dr (rF ta q))) (b : But r H H') : IsPart CP H' pp x := by
  obtain ⟨dp, nl, c, h1, h2, h3⟩ := A
  exact ⟨dp, nl, c, b _ _ h1 (ne_of h1 hr rF_pF), b _ _ h2 (ne_of h2 hr (by intro z; cases z)), b _ _ h3 (ne_of h3 hr (by intro z; cases z))⟩
def PartV (CP : Addr) (x : Part) (v : V) (H : Hp) : Prop := ∃ pp, v = .ref pp ∧ IsPart CP H pp x
structure PartsAt (CP : Addr) (H : Hp) (l : Addr) (as : List Addr) (ps : List Part) : Prop where
  ob : H l = some (.lst (as.map V.ref))
  len : as.length = ps.length
  it : ∀ (i : Nat) (pp : Addr) (x : Part), as[i]? = some pp → ps[i]? = some x → IsPart CP H pp x
theorem PartsAt.same {CP : Addr} {H H' : Hp} {l : Addr} {as : List Addr} {ps : List Part} (A : PartsAt CP H l as ps) (s : Same H H') : PartsAt CP H' l as ps := ⟨s _ _ A.ob, A.len, fun i pp x h1 h2 => (A.it i pp x h1 h2).same s⟩
section
variable {P : Program} {w : World} {K : PySem.W.Frag} {mg : Str → Option Value} {base : Heap} {a : Ad}
/-! ### Reader.__init__, Part.__init__ -/
def spIR (C : Addr) : Sp := fun vs H Q _ => ∃ (p dx ta : Addr), vs = [.ref p, .ref ta] ∧ H p = some (.ins C dx []) ∧ ∀ H' : Hp, H' p = some (.ins C dx (rF ta 0)) → (∀ b o, H b = some o → b ≠ p → H' b = some o) → Q .non H'
theorem scIR : FnScope ["self", "t"] ["self", "t"] (defScope s_Reader_init) := ⟨rfl, rfl, rfl, by decide +kernel, rfl, by decide +kernel, by decide +kernel⟩
theorem ok_iR (T : Txt K mg a) : Ok P w K mg base CX0 1 a.iR ["self", "t"] (spIR a.CR) := by
  obtain ⟨fd, F⟩ := T.dIR
  refine ⟨fd, F.ok scIR (fun vs H Q E h => ?_) (fun cdv A outer s H vs Q E hr h => ⟨_, pss_cons (ps_fld (pv 0) (pv 1) rfl) (pss_one (ps_fld (pv 0) pe_int rfl)), ?_⟩),
    F.binds fun _ _ _ _ _ _ us hl => match us, hl with | [_, _], _ => rfl⟩
  · obtain ⟨p, dx, ta, rfl, _⟩ := h
    rfl
  · obtain ⟨p, dx, ta, rfl, hp, k⟩ := h
    refine ⟨_, rfl, _, rfl, p, _, dx, [], rfl, hp, T.clR, T.nT, (by show 0 < 1000; decide), ?_⟩
    refine ⟨_, rfl, p, _, dx, _, rfl, upd_same, T.clR, T.nAt, (by show 1 < 1000; decide), ?_⟩
    refine k _ (Eq.trans upd_same (congrArg (fun q => some (HO.ins a.CR dx q)) ?_)) fun b o e hb => by
      rw [upd_ne hb, upd_ne hb]
      exact e
    exact (put_past (by decide +kernel)).trans rfl
def spIP (C : Addr) : Sp := fun vs H Q _ => ∃ (p dx nl c : Addr) (wd dp ht g : Nat), vs = [.ref p, .ref nl, .int (wd : Nat), .int (dp : Nat), .int (ht : Nat), .int (g : Nat), .ref c] ∧ H p = some (.ins C dx []) ∧
  ∀ H' : Hp, H' p = some (.ins C dx (pF nl wd dp ht g c)) → (∀ b o, H b = some o → b ≠ p → H' b = some o) → Q .non H'
theorem scIP : FnScope ["self", "name", "width", "depth", "height", "weight", "cells"] ["self", "name", "width", "depth", "height", "weight", "cells"] (defScope s_Part_init) := ⟨rfl, rfl, rfl, by decide +kernel, rfl, by decide +kernel, by decide +kernel⟩
theorem ok_iP (T : Txt K mg a) : Ok P w K mg base CX0 1 a.iP ["self", "name", "width", "depth", "height", "weight", "cells"] (spIP a.CP) := by
  obtain ⟨fd, F⟩ := T.dIP
  refine ⟨fd, F.ok scIP (fun vs H Q E h => ?_) (fun cdv A outer s H vs Q E hr h => ⟨_, pss_cons (ps_fld (pv 0) (pv 1) rfl) (pss_cons (ps_fld (pv 0) (pv 2) rfl) (pss_cons (ps_fld (pv 0) (pv 3) rfl)
      (pss_cons (ps_fld (pv 0) (pv 4) rfl) (pss_cons (ps_fld (pv 0) (pv 5) rfl) (pss_one (ps_fld (pv 0) (pv 6) rfl)))))), ?_⟩),
    F.binds fun _ _ _ _ _ _ us hl => match us, hl with | [_, _, _, _, _, _, _], _ => rfl⟩
  · obtain ⟨p, dx, nl, c, wd, dp, ht, g, rfl, _⟩ := h
    rfl
  · obtain ⟨p, dx, nl, c, wd, dp, ht, g, rfl, hp, k⟩ := h
    refine ⟨_, rfl, _, rfl, p, _, dx, [], rfl, hp, T.clP, T.nName, (by show 0 < 1000; decide), ?_⟩
    refine ⟨_, rfl, _, rfl, p, _, dx, [("name", .ref nl)], rfl, upd_same, T.clP, T.nWidth, (by show 1 < 1000; decide), ?_⟩
    refine ⟨_, rfl, _, rfl, p, _, dx, [("name", .ref nl), ("width", .int (wd : Nat))], rfl, Eq.trans upd_same (congrArg (fun q => some (HO.ins a.CP dx q)) ((put_past (by decide +kernel)).trans rfl)), T.clP, T.nDepth, (by show 2 < 1000; decide), ?_⟩
    refine ⟨_, rfl, _, rfl, p, _, dx, [("name", .ref nl), ("width", .int (wd : Nat)), ("depth", .int (dp : Nat))], rfl, Eq.trans upd_same (congrArg (fun q => some (HO.ins a.CP dx q)) ((put_past (by decide +kernel)).trans (congrArg _ ((put_past (by decide +kernel)).trans rfl)))), T.clP, T.nHeight, (by show 3 < 1000; decide), ?_⟩
    refine ⟨_, rfl, _, rfl, p, _, dx, [("name", .ref nl), ("width", .int (wd : Nat)), ("depth", .int (dp : Nat)), ("height", .int (ht : Nat))], rfl,
      Eq.trans upd_same (congrArg (fun q => some (HO.ins a.CP dx q)) ((put_past (by decide +kernel)).trans (congrArg _ ((put_past (by decide +kernel)).trans (congrArg _ ((put_past (by decide +kernel)).trans rfl)))))), T.clP, T.nWeight, (by show 4 < 1000; decide), ?_⟩
    refine ⟨_, rfl, _, rfl, p, _, dx, [("name", .ref nl), ("width", .int (wd : Nat)), ("depth", .int (dp : Nat)), ("height", .int (ht : Nat)), ("weight", .int (g : Nat))], rfl,
      Eq.trans upd_same (congrArg (fun q => some (HO.ins a.CP dx q)) ((put_past (by decide +kernel)).trans (congrArg _ ((put_past (by decide +kernel)).trans (congrArg _ ((put_past (by decide +kernel)).trans (congrArg _ ((put_past (by decide +kernel)).trans rfl)))))))), T.clP, T.nCells, (by show 5 < 1000; decide), ?_⟩
    refine k _ (Eq.trans upd_same (congrArg (fun q => some (HO.ins a.CP dx q)) ?_)) fun b o e hb => by
      rw [upd_ne hb, upd_ne hb, upd_ne hb, upd_ne hb, upd_ne hb, upd_ne hb]
      exact e
    exact (put_past (by decide +kernel)).trans (congrArg _ ((put_past (by decide +kernel)).trans (congrArg _ ((put_past (by decide +kernel)).trans (congrArg _ ((put_past (by decide +kernel)).trans (congrArg _ ((put_past (by decide +kernel)).trans rfl))))))))
/-! ### read_part -/
theorem num_range {B : Bytes} {hi p n : Nat} {s : Nat × Bytes} (hh : hi ≤ 9999) : ∀ fu v q, v ≤ hi → digits 1 hi fu (so v) (at_ B q) = .ok (n, s) → 1 ≤ n ∧ n ≤ hi
  | 0, v, q, _, h => by
    rw [digits.eq_def] at h
    cases h
  | fu + 1, v, q, hv, h => by
    by_cases c : ∃ c, B[q]? = some c ∧ isDigit c = true ∧ 1 ≤ 10 * v + (c.toNat - 48) ∧ 10 * v + (c.toNat - 48) ≤ hi
    · obtain ⟨c, h1, h2, h3, h4⟩ := c
      rw [digits_yes h1 h2 h3 h4] at h
      exact num_range (p := p) hh fu _ _ h4 h
    · rw [digits_no hv (fun d h1 h2 h3 => c ⟨d, h1, h2, h3⟩)] at h
      by_cases h0 : 0 < v
      · rw [if_pos h0] at h
        have e := Except.ok.inj h
        have e1 : v = n := (Prod.mk.inj e).1
        omega
      · rw [if_neg h0] at h
        cases h
theorem num_in {B : Bytes} {hi p n : Nat} {s : Nat × Bytes} (hh : hi ≤ 9999) (h : num 1 hi (at_ B p) = .ok (n, s)) : 1 ≤ n ∧ n ≤ hi := num_range (p := p) hh 20 0 p (Nat.zero_le _) h
theorem scPart : FnScope ["self", "name", "width", "depth", "height", "weight"] ["self"] (defScope s_Reader_read_part) := ⟨rfl, rfl, rfl, by decide +kernel, rfl, by decide +kernel, by decide +kernel⟩
theorem ok_part (T : Txt K mg a) {B : Bytes} : Ok P w K mg base (L2.CX P w) 5 a.rpart ["self"] (spRd K a.CR a.CN B part_ (PartV a.CP)) := by
  obtain ⟨fd, F⟩ := T.dPart
  obtain ⟨t1, hWide⟩ := T.cWide
  obtain ⟨t2, hHigh⟩ := T.cHigh
  obtain ⟨t3, hHeavy⟩ := T.cHeavy
  obtain ⟨fdE, GE, bE⟩ := ok_need (P := P) (w := w) (base := base) (B := B) T
  obtain ⟨fdN, GN, bN⟩ := ok_name (P := P) (w := w) (base := base) (B := B) T
  obtain ⟨fdU, GU, bU⟩ := ok_num (P := P) (w := w) (base := base) (B := B) T
  obtain ⟨fdC, GC, bC⟩ := ok_cells (P := P) (w := w) (base := base) (B := B) T
  obtain ⟨fdI, GI, bI⟩ := ok_iP (P := P) (w := w) (base := base) T
  refine ⟨fd, F.okX (k := 4) scPart (fun vs H Q E h => ?_) (fun cdv A outer s H vs Q E hr h => ⟨_,
    pss_cons (ps_expr (pe_meth (pv 0) T.clR T.mNeed GE (hr.mono (by decide)) bE .nil (hxT (takes_of rfl rfl rfl rfl)) (pa_cons pe_str pa_nil)))
    (pss_cons (ps_set (i := 1) scPart.nd rfl (Or.inl rfl) (pe_meth0 (pv 0) T.clR T.mName GN (hr.mono (by decide)) bN .nil (hxT (takes_of rfl rfl rfl rfl))))
    (pss_cons (ps_expr (pe_meth (pv 0) T.clR T.mNeed GE (hr.mono (by decide)) bE .nil (hxT (takes_of rfl rfl rfl rfl)) (pa_cons pe_str pa_nil)))
    (pss_cons (ps_set (i := 2) scPart.nd rfl (Or.inl rfl) (pe_meth (pv 0) T.clR T.mNum GU (hr.mono (by decide)) bU .nil (hxT (takes_of rfl rfl rfl rfl)) (pa_cons (pe_glob (v := .int 16) rfl hWide ⟨_, rfl⟩) pa_nil)))
    (pss_cons (ps_expr (pe_meth (pv 0) T.clR T.mNeed GE (hr.mono (by decide)) bE .nil (hxT (takes_of rfl rfl rfl rfl)) (pa_cons pe_str pa_nil)))
    (pss_cons (ps_set (i := 3) scPart.nd rfl (Or.inl rfl) (pe_meth (pv 0) T.clR T.mNum GU (hr.mono (by decide)) bU .nil (hxT (takes_of rfl rfl rfl rfl)) (pa_cons (pe_glob (v := .int 16) rfl hWide ⟨_, rfl⟩) pa_nil)))
    (pss_cons (ps_expr (pe_meth (pv 0) T.clR T.mNeed GE (hr.mono (by decide)) bE .nil (hxT (takes_of rfl rfl rfl rfl)) (pa_cons pe_str pa_nil)))
    (pss_cons (ps_set (i := 4) scPart.nd rfl (Or.inl rfl) (pe_meth (pv 0) T.clR T.mNum GU (hr.mono (by decide)) bU .nil (hxT (takes_of rfl rfl rfl rfl)) (pa_cons (pe_glob (v := .int 18) rfl hHigh ⟨_, rfl⟩) pa_nil)))
    (pss_cons (ps_expr (pe_meth (pv 0) T.clR T.mNeed GE (hr.mono (by decide)) bE .nil (hxT (takes_of rfl rfl rfl rfl)) (pa_cons pe_str pa_nil)))
    (pss_cons (ps_set (i := 5) scPart.nd rfl (Or.inl rfl) (pe_meth (pv 0) T.clR T.mNum GU (hr.mono (by decide)) bU .nil (hxT (takes_of rfl rfl rfl rfl)) (pa_cons (pe_glob (v := .int 9999) rfl hHeavy ⟨_, rfl⟩) pa_nil)))
    (pss_cons (ps_expr (pe_meth (pv 0) T.clR T.mNeed GE (hr.mono (by decide)) bE .nil (hxT (takes_of rfl rfl rfl rfl)) (pa_cons pe_str pa_nil)))
    (pss_one (ps_ret (pe_make T.mkP GI (hr.mono (by decide)) rfl T.gP bI .nil pass0 (pa_cons (pv 1) (pa_cons (pv 2) (pa_cons (pv 3) (pa_cons (pv 4) (pa_cons (pv 5) (pa_cons (pe_meth (pv 0) T.clR T.mCells GC hr bC .nil (hxT (takes_of rfl rfl rfl rfl)) (pa_cons (pv 2) (pa_cons (pv 3) (pa_cons (pv 4) pa_nil)))) pa_nil))))))))))))))))))), ?_⟩),
    F.binds fun _ _ _ _ _ _ us hl => match us, hl with | [_], _ => rfl⟩
  · obtain ⟨r, _, p, rfl, _⟩ := h
    rfl
  · obtain ⟨r, ta, p, rfl, R, o1, o2⟩ := h
    have e := congrFun (part_eq) (at_ B p)
    obtain ⟨d0, h0⟩ := R.ob
    refine ⟨_, rfl, r, d0, _, rfl, h0, rF_no _ _ (by decide +kernel) (by decide +kernel), r, ta, p, _, ascii "part ", rfl, R, by decide +kernel, fun _ q1 s1 l1 v1 H1 R1 b1 _ => ?_, fun f hf => o2 f (by rw [e, bind_er hf])⟩
    rw [bind_ok s1] at e
    obtain ⟨d1, h1⟩ := R1.ob
    refine ⟨_, rfl, r, d1, _, rfl, h1, rF_no _ _ (by decide +kernel) (by decide +kernel), r, ta, q1, rfl, R1, fun nm q2 s2 l2 v2 H2 R2 b2 ⟨nl, ev, hnl⟩ => ?_, fun f hf => o2 f (by rw [e, bind_er hf])⟩
    subst ev
    rw [bind_ok s2] at e
    obtain ⟨d2, h2⟩ := R2.ob
    refine ⟨_, rfl, r, d2, _, rfl, h2, rF_no _ _ (by decide +kernel) (by decide +kernel), r, ta, q2, _, [32], rfl, R2, by decide +kernel, fun _ q3 s3 l3 v3 H3 R3 b3 _ => ?_, fun f hf => o2 f (by rw [e, bind_er hf])⟩
    rw [bind_ok s3] at e
    have n3 := b3 _ _ hnl (ne_of hnl h2 (by intro z; cases z))
    obtain ⟨d3, h3⟩ := R3.ob
    refine ⟨_, rfl, r, d3, _, rfl, h3, rF_no _ _ (by decide +kernel) (by decide +kernel), r, ta, q3, 16, rfl, by decide, R3, fun wd q4 s4 l4 v4 H4 R4 b4 ev => ?_, fun f hf => o2 f (by rw [e, bind_er hf])⟩
    unfold IntV at ev
    subst ev
    rw [bind_ok s4] at e
    have n4 := b4 _ _ n3 (ne_of n3 h3 (by intro z; cases z))
    obtain ⟨d4, h4⟩ := R4.ob
    refine ⟨_, rfl, r, d4, _, rfl, h4, rF_no _ _ (by decide +kernel) (by decide +kernel), r, ta, q4, _, [32], rfl, R4, by decide +kernel, fun _ q5 s5 l5 v5 H5 R5 b5 _ => ?_, fun f hf => o2 f (by rw [e, bind_er hf])⟩
    rw [bind_ok s5] at e
    have n5 := b5 _ _ n4 (ne_of n4 h4 (by intro z; cases z))
    obtain ⟨d5, h5⟩ := R5.ob
    refine ⟨_, rfl, r, d5, _, rfl, h5, rF_no _ _ (by decide +kernel) (by decide +kernel), r, ta, q5, 16, rfl, by decide, R5, fun dp q6 s6 l6 v6 H6 R6 b6 ev => ?_, fun f hf => o2 f (by rw [e, bind_er hf])⟩
    unfold IntV at ev
    subst ev
    rw [bind_ok s6] at e
    have n6 := b6 _ _ n5 (ne_of n5 h5 (by intro z; cases z))
    obtain ⟨d6, h6⟩ := R6.ob
    refine ⟨_, rfl, r, d6, _, rfl, h6, rF_no _ _ (by decide +kernel) (by decide +kernel), r, ta, q6, _, [32], rfl, R6, by decide +kernel, fun _ q7 s7 l7 v7 H7 R7 b7 _ => ?_, fun f hf => o2 f (by rw [e, bind_er hf])⟩
    rw [bind_ok s7] at e
    have n7 := b7 _ _ n6 (ne_of n6 h6 (by intro z; cases z))
    obtain ⟨d7, h7⟩ := R7.ob
    refine ⟨_, rfl, r, d7, _, rfl, h7, rF_no _ _ (by decide +kernel) (by decide +kernel), r, ta, q7, 18, rfl, by decide, R7, fun ht q8 s8 l8 v8 H8 R8 b8 ev => ?_, fun f hf => o2 f (by rw [e, bind_er hf])⟩
    unfold IntV at ev
    subst ev
    rw [bind_ok s8] at e
    have n8 := b8 _ _ n7 (ne_of n7 h7 (by intro z; cases z))
    obtain ⟨d8, h8⟩ := R8.ob
    refine ⟨_, rfl, r, d8, _, rfl, h8, rF_no _ _ (by decide +kernel) (by decide +kernel), r, ta, q8, _, [32], rfl, R8, by decide +kernel, fun _ q9 s9 l9 v9 H9 R9 b9 _ => ?_, fun f hf => o2 f (by rw [e, bind_er hf])⟩
    rw [bind_ok s9] at e
    have n9 := b9 _ _ n8 (ne_of n8 h8 (by intro z; cases z))
    obtain ⟨d9, h9⟩ := R9.ob
    refine ⟨_, rfl, r, d9, _, rfl, h9, rF_no _ _ (by decide +kernel) (by decide +kernel), r, ta, q9, 9999, rfl, by decide, R9, fun g qa sa la va Ha Ra ba ev => ?_, fun f hf => o2 f (by rw [e, bind_er hf])⟩
    unfold IntV at ev
    subst ev
    rw [bind_ok sa] at e
    have na := ba _ _ n9 (ne_of n9 h9 (by intro z; cases z))
    obtain ⟨da, ha⟩ := Ra.ob
    refine ⟨_, rfl, r, da, _, rfl, ha, rF_no _ _ (by decide +kernel) (by decide +kernel), r, ta, qa, _, [10], rfl, Ra, by decide +kernel, fun _ qb sb lb vb Hb Rb bb _ => ?_, fun f hf => o2 f (by rw [e, bind_er hf])⟩
    rw [bind_ok sb] at e
    have nb := bb _ _ na (ne_of na ha (by intro z; cases z))
    obtain ⟨db, hb⟩ := Rb.ob
    have w1 := num_in (by decide) s4
    have w2 := num_in (by decide) s6
    have w3 := num_in (by decide) s8
    refine ⟨_, rfl, _, rfl, _, rfl, _, rfl, _, rfl, _, rfl, r, db, _, rfl, hb, rF_no _ _ (by decide +kernel) (by decide +kernel), _, rfl, _, rfl, _, rfl, r, ta, qb, wd, dp, ht, rfl, w1.2, w2.2, w3.2, Rb, fun L qc sc lc vc Hc Rc bc ⟨c, evc, hc⟩ => ?_, fun f hf => o2 f (by rw [e, bind_er hf])⟩
    subst evc
    rw [bind_ok sc] at e
    have nc := bc _ _ nb (ne_of nb hb (by intro z; cases z))
    intro x dx nx ndx nex
    have sN : Same Hc (upd (upd Hc dx (.own x)) x (.ins a.CP dx [])) := fun b o q => by
      rw [upd_ne (ne_of_none q nx), upd_ne (ne_of_none q ndx)]
      exact q
    refine ⟨x, dx, nl, c, wd, dp, ht, g, rfl, upd_same, fun Hd hob hkp => ⟨rfl, ?_⟩⟩
    have sD : Same Hc Hd := fun b o q => hkp b o (sN b o q) (ne_of_none q nx)
    refine o1 ⟨nm, wd, dp, ht, g, L⟩ qc e (by omega) _ Hd (Rc.but sD) ?_ ⟨x, rfl, dx, nl, c, hob, sD _ _ nc, sD _ _ hc⟩
    exact b1.trans (b2.trans (b3.trans (b4.trans (b5.trans (b6.trans (b7.trans (b8.trans (b9.trans (ba.trans (bb.trans (bc.trans (But.of sD))))))))))))
end
end St
set_option Elab.async false
set_option linter.all false
set_option maxRecDepth 100000
set_option maxHeartbeats 4000000
namespace St
open PySem PySem.Spec PyProof.Rows L2 PySem.Jx RdM BrPart BrRead
theorem ref_ne_bytes {l : List Addr} {n : Bytes} (h : l ≠ []) : HO.lst (bytesV n) ≠ HO.lst (l.map V.ref) := by
  intro z
  have e := HO.lst.inj z
  cases l with
  | nil => exact h rfl
  | cons x l =>
    cases n with
    | nil => cases e
    | cons c n => cases (List.cons.inj e).1
theorem IsPart.list {CP : Addr} {H : Hp} {pp l : Addr} {x : Part} {as : List Addr} {o : HO} (A : IsPart CP H pp x) (hl : H l = some (.lst (as.map V.ref))) (h : as ≠ []) : IsPart CP (upd H l o) pp x := by
  obtain ⟨dp, nl, c, h1, h2, h3⟩ := A
  exact ⟨dp, nl, c, by rw [upd_ne (ne_of h1 hl (by intro z; cases z))]; exact h1, by rw [upd_ne (ne_of h2 hl (ref_ne_bytes h))]; exact h2, by rw [upd_ne (ne_of h3 hl (by intro z; cases z))]; exact h3⟩
section
variable {P : Program} {w : World} {K : PySem.W.Frag} {mg : Str → Option Value} {base : Heap} {a : Ad}
def spRcat (K : PySem.W.Frag) (CP CN : Addr) : Sp := fun vs H Q E => ∃ (ta : Addr) (B : Bytes), vs = [.ref ta] ∧ SqL K H ta (bytesV B) ∧ B.length ≤ 100000 ∧
  (∀ ps, readC B = .ok ps → ∀ l as H', Same H H' → PartsAt CP H' l as ps → Q (.ref l) H') ∧ ∀ f, readC B = .error f → Fails CN f E
theorem scRcat : FnScope ["t", "reader", "parts"] ["t"] (defScope s_read_catalogue) := ⟨rfl, rfl, rfl, by decide +kernel, rfl, by decide +kernel, by decide +kernel⟩
theorem ok_rcat (T : Txt K mg a) : Ok P w K mg base (L2.CX P w) 6 a.rcat ["t"] (spRcat K a.CP a.CN) := by
  obtain ⟨fd, F⟩ := T.dRcat
  obtain ⟨t1, hBytes⟩ := T.cBytes
  obtain ⟨t2, hParts⟩ := T.cParts
  refine ⟨fd, F.okX (k := 5) scRcat (fun vs H Q E h => ?_) (fun cdv A outer s H vs Q E hr h => ?_), F.binds fun _ _ _ _ _ _ us hl => match us, hl with | [_], _ => rfl⟩
  · obtain ⟨ta, B, rfl, _⟩ := h
    rfl
  obtain ⟨ta, B, rfl, tx, hB, o1, o2⟩ := h
  obtain ⟨fdP, GP, bP⟩ := ok_part (P := P) (w := w) (base := base) (B := B) T
  obtain ⟨fdF, GF, bF⟩ := ok_fail (P := P) (w := w) (base := base) (B := B) T
  obtain ⟨fdI, GI, bI⟩ := ok_iR (P := P) (w := w) (base := base) T
  refine ⟨_, pss_cons (ps_if (pt_cmpR op_gt (pe_callB call_len (by rfl) T.len (by decide +kernel) (pa_cons (pv 0) pa_nil)) (pe_glob (v := .int 1048576) rfl hBytes ⟨_, rfl⟩) (nomark _)) (pss_one ps_never) pss_nil)
    (pss_cons (ps_set (i := 1) scRcat.nd rfl (Or.inl rfl) (pe_make T.mkR GI (hr.mono (by decide)) rfl T.gR bI .nil pass0 (pa_cons (pv 0) pa_nil)))
    (pss_cons (ps_set (i := 2) scRcat.nd rfl (Or.inl rfl) (pe_lst (pa_cons (pe_meth0 (pv 1) T.clR T.mPart GP hr bP .nil (hxT (takes_of rfl rfl rfl rfl))) pa_nil)))
    (pss_cons (ps_while (passes_of rfl) (pt_cmpR op_lt (pe_fld (pv 1) rfl) (pe_callB call_len (by rfl) T.len (by decide +kernel) (pa_cons (pv 0) pa_nil)) (nomark _))
      (pss_cons (ps_expr (pe_meth (pv 1) T.clR T.mFail GF (hr.mono (by decide)) bF .nil (hxT (takes_of rfl rfl rfl rfl)) (pa_cons (pe_cmpR op_lt (pe_callB call_len (by rfl) T.len (by decide +kernel) (pa_cons (pv 2) pa_nil)) (pe_glob (v := .int 64) rfl hParts ⟨_, rfl⟩) (nomark _)) pa_nil)))
      (pss_one (ps_expr (pe_bm PySem.F.plainAttrs_list PySem.F.slot_list_append PySem.F.type_list_append mt_append (pv 2) (pa_cons (pe_meth0 (pv 1) T.clR T.mPart GP hr bP .nil (hxT (takes_of rfl rfl rfl rfl))) pa_nil))))))
    (pss_one (ps_ret (pv 2)))))), ?_⟩
  have e0 : readC B = ((part_ >>= fun x => restM 63 [x]) (at_ B 0)).map (·.1) := readC_eq
  have er : ∀ f, ((part_ >>= fun x => restM 63 [x]) : Rd Catalogue) (at_ B 0) = .error f → Fails a.CN f E := fun f hf => o2 f (by rw [e0, hf]; rfl)
  refine ⟨_, rfl, _, _, rfl, .inl ⟨_, tx, rfl⟩, _, _, rfl, rfl, _, rfl, ?_⟩
  refine iteF' (decide_eq_false (by rw [bytesV_len]; omega)) ?_
  refine ⟨_, rfl, ?_⟩
  intro r dx nr ndx nex
  have sN : Same H (upd (upd H dx (.own r)) r (.ins a.CR dx [])) := fun b o q => by
    rw [upd_ne (ne_of_none q nr), upd_ne (ne_of_none q ndx)]
    exact q
  refine ⟨r, dx, ta, rfl, upd_same, fun H1 hob hkp => ⟨rfl, ?_⟩⟩
  have s1 : Same H H1 := fun b o q => hkp b o (sN b o q) (ne_of_none q nr)
  have R1 : RdAt K a.CR B H1 r ta 0 := ⟨⟨dx, hob⟩, s1.seq tx, Nat.zero_le _⟩
  refine ⟨_, rfl, r, dx, _, rfl, hob, rF_no _ _ (by decide +kernel) (by decide +kernel), r, ta, 0, rfl, R1, fun x q hx hq v H2 R2 b2 ⟨pp, ev, hp⟩ => ?_, fun f hf => er f (bind_er hf)⟩
  subst ev
  have s2 : Same H H2 := fun b o e => b2 b o (s1 b o e) (ne_of_none e nr)
  refine ⟨(by show 1 ≤ sizeLine; decide), fun l hl => ?_⟩
  have eq1 : ((part_ >>= fun x => restM 63 [x]) : Rd Catalogue) (at_ B 0) = restM 63 [x] (at_ B q) := bind_ok hx
  have nl : H l = none := s2.free hl
  refine ⟨fun m σ H' => ∃ (q : Nat) (ps : List Part) (as : List Addr), m = 64 - ps.length ∧ σ = [some (.ref ta), some (.ref r), some (.ref l)] ∧ RdAt K a.CR B H' r ta q ∧ Same H H' ∧ PartsAt a.CP H' l as ps ∧ as ≠ [] ∧ ps.length ≤ 64 ∧
    ((part_ >>= fun x => restM 63 [x]) : Rd Catalogue) (at_ B 0) = restM (64 - ps.length) ps (at_ B q), ⟨63, q, [x], [pp], rfl, rfl, R2.but (same_new hl), s2.trans (same_new hl), ⟨upd_same, rfl, fun i pp' x' h1 h2 => ?_⟩, by simp, by simp, eq1⟩, ?_⟩
  · cases i with
    | zero =>
      have z1 : pp = pp' := Option.some.inj h1
      have z2 : x = x' := Option.some.inj h2
      subst z1 z2
      exact hp.same (same_new hl)
    | succ i => exact nomatch h1
  rintro m σ H3 ⟨q3, ps, as, rfl, rfl, R3, s3, A3, ne3, le3, eq3⟩
  obtain ⟨dr, hr3⟩ := R3.ob
  refine ⟨_, rfl, r, _, dr, _, _, rfl, hr3, T.clR, T.nAt, rF_at _ _, _, rfl, _, _, rfl, .inl ⟨_, R3.tx, rfl⟩, _, _, rfl, rfl, _, rfl, ?_⟩
  rw [bytesV_len]
  by_cases c : (q3 : Int) < (B.length : Int)
  · have c' : q3 < B.length := by omega
    refine iteT' (decide_eq_true c) ⟨fun σ' H' => ∃ m', m' < 64 - ps.length ∧ ∃ (q : Nat) (ps : List Part) (as : List Addr), m' = 64 - ps.length ∧ σ' = [some (.ref ta), some (.ref r), some (.ref l)] ∧ RdAt K a.CR B H' r ta q ∧ Same H H' ∧ PartsAt a.CP H' l as ps ∧ as ≠ [] ∧ ps.length ≤ 64 ∧
      ((part_ >>= fun x => restM 63 [x]) : Rd Catalogue) (at_ B 0) = restM (64 - ps.length) ps (at_ B q), fun _ _ z => z, ?_⟩
    have hlen : (as.map V.ref).length = ps.length := by rw [List.length_map]; exact A3.len
    refine ⟨_, rfl, r, dr, _, rfl, hr3, rF_no _ _ (by decide +kernel) (by decide +kernel), _, rfl, _, _, rfl, .inl ⟨_, SqL.of A3.ob, rfl⟩, _, _, rfl, rfl, r, ta, q3, _, rfl, R3, fun g => ?_, fun g => ?_⟩
    · have lt : ps.length < 64 := by
        have := of_decide_eq_true g
        rw [hlen] at this
        omega
      have z1 : 64 - ps.length = (64 - (ps.length + 1)) + 1 := by omega
      rw [z1, rest_more c'] at eq3
      refine ⟨_, rfl, .inl ⟨rfl, _, SqL.of A3.ob⟩, _, rfl, r, dr, _, rfl, hr3, rF_no _ _ (by decide +kernel) (by decide +kernel), r, ta, q3, rfl, R3, fun x4 q4 hx4 hq4 v4 H4 R4 b4 ⟨p4, ev4, hp4⟩ => ?_, fun f hf => er f (by rw [eq3, bind_er hf])⟩
      subst ev4
      rw [bind_ok hx4] at eq3
      have A4 := b4 _ _ A3.ob (ne_of A3.ob hr3 (by intro z; cases z))
      refine ⟨l, _, _, rfl, rfl, A4, (by rw [hlen]; exact Nat.lt_of_lt_of_le lt (by decide)), ?_⟩
      have s4 : Same H H4 := fun b o e => b4 b o (s3 b o e) (ne_of_none e nr)
      have lr : l ≠ r := ne_of A3.ob hr3 (by intro z; cases z)
      have R4' : RdAt K a.CR B (upd H4 l (.lst (as.map V.ref ++ [.ref p4]))) r ta q4 := by
        obtain ⟨⟨d4, h4⟩, tx4, le4⟩ := R4
        refine ⟨⟨d4, by rw [upd_ne (Ne.symm lr)]; exact h4⟩, ?_, le4⟩
        have sq : SqL K H ta (bytesV B) := tx
        have sU : Same H (upd H4 l (.lst (as.map V.ref ++ [.ref p4]))) := fun b o e => by rw [upd_ne (ne_of_none e nl)]; exact s4 b o e
        exact sU.seq sq
      refine ⟨64 - (ps.length + 1), by omega, q4, ps ++ [x4], as ++ [p4], by rw [List.length_append]; rfl, rfl, R4', fun b o e => by rw [upd_ne (ne_of_none e nl)]; exact s4 b o e, ⟨?_, ?_, fun i pp' x' h1 h2 => ?_⟩, by simp, by rw [List.length_append, List.length_singleton]; omega, ?_⟩
      · rw [List.map_append]
        exact upd_same
      · rw [List.length_append, List.length_append, A3.len]
        rfl
      · by_cases hi : i < ps.length
        · rw [List.getElem?_append_left hi] at h2
          rw [List.getElem?_append_left (by rw [A3.len]; exact hi)] at h1
          exact ((A3.it i pp' x' h1 h2).but hr3 b4).list A4 ne3
        · have h2l := (List.getElem?_eq_some_iff.mp h2).1
          rw [List.length_append, List.length_singleton] at h2l
          have hi2 : i = ps.length := by omega
          subst hi2
          rw [List.getElem?_append_right (Nat.le_refl _), Nat.sub_self] at h2
          rw [← A3.len, List.getElem?_append_right (Nat.le_refl _), Nat.sub_self] at h1
          have z1 : p4 = pp' := Option.some.inj h1
          have z2 : x4 = x' := Option.some.inj h2
          subst z1 z2
          exact hp4.list A4 ne3
      · rw [List.length_append]
        exact eq3
    · have eq64 : ps.length = 64 := by
        have := of_decide_eq_false g
        rw [hlen] at this
        omega
      rw [eq64, Nat.sub_self, rest_full c'] at eq3
      exact er q3 eq3
  · refine iteF' (decide_eq_false c) ⟨_, rfl, ?_⟩
    rw [rest_end (by omega)] at eq3
    exact o1 ps (by rw [e0, eq3]; rfl) l as H3 s3 A3
end
end St
set_option Elab.async false
set_option linter.all false
set_option maxRecDepth 100000
set_option maxHeartbeats 4000000
namespace St
open PySem PySem.Spec PyProof.Rows L2 PySem.Jx RdM BrPart BrRead Geo
/-! ### two rules: lists in order; a dict of one tuple -/
def rLtL (K : PySem.W.Frag) : R2 := fun x y H Q => ∃ a b ns ms, x = .ref a ∧ y = .ref b ∧ SqL K H a (ns.map V.int) ∧ SqL K H b (ms.map V.int) ∧ Q (.bl (HT.lexLt ns ms)) H
theorem first_lex (ns ms : List Int) : ∀ k i, k = min ns.length ms.length - i → i ≤ min ns.length ms.length →
    SeqAt.firstLt (fun j => decide (ns.getD j 0 = ms.getD j 0)) (fun j => decide (ns.getD j 0 < ms.getD j 0)) (decide (ns.length < ms.length)) (List.range' i k) = HT.lexLt (ns.drop i) (ms.drop i)
  | 0, i, hk, hi => by
    show decide (ns.length < ms.length) = _
    have hi2 : i = min ns.length ms.length := by omega
    by_cases h : ns.length ≤ ms.length
    · have e1 : ns.drop i = [] := List.drop_eq_nil_of_le (by omega)
      rw [e1]
      by_cases h2 : ns.length < ms.length
      · obtain ⟨y, ys, e2⟩ : ∃ y ys, ms.drop i = y :: ys := ⟨ms[i]'(by omega), ms.drop (i + 1), List.drop_eq_getElem_cons (by omega)⟩
        rw [e2, decide_eq_true h2]
        rfl
      · have e2 : ms.drop i = [] := List.drop_eq_nil_of_le (by omega)
        rw [e2, decide_eq_false h2]
        rfl
    · have e2 : ms.drop i = [] := List.drop_eq_nil_of_le (by omega)
      obtain ⟨y, ys, e1⟩ : ∃ y ys, ns.drop i = y :: ys := ⟨ns[i]'(by omega), ns.drop (i + 1), List.drop_eq_getElem_cons (by omega)⟩
      rw [e1, e2, decide_eq_false (by omega)]
      rfl
  | k + 1, i, hk, hi => by
    have h1 : i < ns.length := by omega
    have h2 : i < ms.length := by omega
    rw [List.range'_succ, List.drop_eq_getElem_cons h1, List.drop_eq_getElem_cons h2, HT.lexLt_cons]
    have ih := first_lex ns ms k (i + 1) (by omega) (by omega)
    have g1 : ns.getD i 0 = ns[i] := by rw [List.getD_eq_getElem?_getD, List.getElem?_eq_getElem h1]; rfl
    have g2 : ms.getD i 0 = ms[i] := by rw [List.getD_eq_getElem?_getD, List.getElem?_eq_getElem h2]; rfl
    by_cases e : ns[i] = ms[i]
    · rw [if_pos e, SeqAt.firstLt_yes (by rw [g1, g2]; exact decide_eq_true e)]
      exact ih
    · rw [if_neg e, SeqAt.firstLt_no (by rw [g1, g2]; exact decide_eq_false e)]
      rw [g1, g2]
theorem ints_get {ns : List Int} {its : List Value} (r : Vals (ns.map V.int) its) {j : Nat} (h : j < its.length) : ∃ t, its[j] = .int (ns.getD j 0) t := by
  have hl : j < ns.length := by
    have := r.length
    rw [List.length_map] at this
    omega
  have h1 : (ns.map V.int)[j]? = some (V.int (ns.getD j 0)) := by
    rw [List.getElem?_map, List.getD_eq_getElem?_getD, List.getElem?_eq_getElem hl]
    rfl
  obtain ⟨u, hu, ru⟩ := r.get h1
  rw [List.getElem?_eq_getElem h] at hu
  obtain ⟨t, e⟩ := (show ∃ t, u = Value.int (ns.getD j 0) t from ru)
  exact ⟨t, (Option.some.inj hu).trans e⟩
theorem op_ltL {X : Cx} (hu : X.A.units < cLine) : OpR X (compareOp .Lt) (rLtL X.K) := by
  intro pins s σ H x y v u Q I rx ry h
  obtain ⟨a, b, ns, ms, rfl, rfl, ha, hb, q⟩ := h
  cases rx
  cases ry
  obtain ⟨its, r1, p1, _⟩ := I.list ha
  obtain ⟨its2, r2, p2, _⟩ := I.list hb
  have l1 : its.length = ns.length := by have := r1.length; rw [List.length_map] at this; exact this.symm
  have l2 : its2.length = ms.length := by have := r2.length; rw [List.length_map] at this; exact this.symm
  have key := SeqAt.RcLt.lists (A := X.A) (s := s) (e := fun j => decide (ns.getD j 0 = ms.getD j 0)) (r := fun j => decide (ns.getD j 0 < ms.getD j 0)) p1.isList p2.isList hu
    (fun j h1 h2 => by
      obtain ⟨t1, e1⟩ := ints_get r1 (j := j) (by simpa using h1)
      obtain ⟨t2, e2⟩ := ints_get r2 (j := j) (by simpa using h2)
      have g1 : its.toArray[j] = .int (ns.getD j 0) t1 := by simpa using e1
      have g2 : its2.toArray[j] = .int (ms.getD j 0) t2 := by simpa using e2
      rw [g1, g2]
      have q := SeqAt.EqAt.int_int (A := X.A.in1) (s := s) (ns.getD j 0) t1 (ms.getD j 0) t2
      have e : (ns.getD j 0 == ms.getD j 0) = decide (ns.getD j 0 = ms.getD j 0) := by
        by_cases z : ns.getD j 0 = ms.getD j 0
        · rw [z, decide_eq_true rfl, beq_self_eq_true]
        · rw [decide_eq_false z, beq_eq_false_iff_ne.mpr z]
      rw [e] at q
      exact q)
    (fun j h1 h2 _ => by
      obtain ⟨t1, e1⟩ := ints_get r1 (j := j) (by simpa using h1)
      obtain ⟨t2, e2⟩ := ints_get r2 (j := j) (by simpa using h2)
      have g1 : its.toArray[j] = .int (ns.getD j 0) t1 := by simpa using e1
      have g2 : its2.toArray[j] = .int (ms.getD j 0) t2 := by simpa using e2
      rw [g1, g2]
      exact fun prog w E Q h => HT.rcLt_int _ _ _ _ _ _ prog w E Q h)
  have e := first_lex ns ms (min ns.length ms.length) 0 (by omega) (Nat.zero_le _)
  rw [List.drop_zero, List.drop_zero, ← List.range_eq_range'] at e
  rw [List.size_toArray, List.size_toArray, l1, l2, e] at key
  exact key X.prog X.w _ _ ⟨.bl (HT.lexLt ns ms), H, I, rfl, q⟩
/-- {k: v}, k a tuple -/
def tDisp1 (tk tv : TE) : TE := fun σ H Q => ∀ p, H p = none → tk σ (upd H p (.dT [])) fun x H1 => tv σ H1 fun y H2 => H2 p = some (.dT []) ∧ ∃ (b : Addr) (k : List Key), x = .ref b ∧ H2 b = some (.tup (k.map kV)) ∧ Q (.ref p) (upd H2 p (.dT [(k, y)]))
theorem pe_disp1 {X : Cx} {pos : Pos} {k v : Expr} {tk tv : TE} (hu : X.A.units + 1 < cLine) (hk : PE X k tk) (hv : PE X v tv) : PE X (.Dict [some k] [v] pos) (tDisp1 tk tv) := by
  refine ⟨fun pins s σ H Q I q => ?_⟩
  have hn := I.hok.fresh (Nat.le_refl s.heap.objs.size)
  have I1 := I.laid (a := s.heap.objs.size) (o := .dT []) (h' := s.heap.push { cls := .type "dict", data := .dict #[] }) (t' := s.toks) (fun _ _ z => Heap.get?_push_of_some _ z) (Nat.le_refl _) (dt_empty s.heap I.big)
  have hp : PPs X pos [some k] [v] [(tk, tv)] := pps_cons hk hv pps_nil
  have w1 := hp.run pins { s with heap := s.heap.push { cls := .type "dict", data := .dict #[] } } σ _ (fun ps H2 => ∃ x y, ps = [(x, y)] ∧ H2 s.heap.objs.size = some (.dT []) ∧ ∃ (b : Addr) (k : List Key), x = .ref b ∧ H2 b = some (.tup (k.map kV)) ∧ Q (.ref s.heap.objs.size) (upd H2 s.heap.objs.size (.dT [(k, y)]))) I1 (by
    have q1 := q _ hn
    have sub : ∀ (t u : TE) (H0 : Hp) (R R' : V → V → Hp → Prop), (t σ H0 fun x H1 => u σ H1 fun y H2 => R x y H2) = (t σ H0 fun x H1 => u σ H1 fun y H2 => R x y H2) := fun _ _ _ _ _ => rfl
    show tk σ (upd H s.heap.objs.size (.dT [])) fun x H1 => tv σ H1 fun y H2 => _
    refine Eq.mp ?_ q1
    congr 1
    funext x H1
    congr 1
    funext y H2
    refine propext ⟨fun ⟨z1, z2⟩ => ⟨x, y, rfl, z1, z2⟩, fun ⟨x', y', e, z1, z2⟩ => ?_⟩
    have e1 := (List.cons.inj e).1
    cases e1
    exact ⟨z1, z2⟩)
  rw [arm_eval_Dict, zip_pairTrees [some k] [v] X.env pos rfl rfl, dictDisplay_pairs _ (by intro z; cases z) (by show 1 < 17; decide)]
  refine wpAny_bind (wpAny_standAt (wpAny_bind (wpAny_subDictH (knd := tupleKind (mixKind X.prog X.w)) (Q := fun d s' => wpAny (model X.prog X.w) X.A (pure (Value.ref d)) (EP X pins σ Q) X.xe s') (by show X.A.units < cLine; omega) (by show 1 ≤ 15; decide) (thn w1 fun ws s2 hw => ?_))))
  obtain ⟨ps, H2, I2, rel, x, y, ep, e, b, k0, ex, eb, q2⟩ := hw
  subst ep ex
  cases rel with
  | @cons _ c _ ws' rc rt =>
    cases rt
    obtain ⟨u1, u2⟩ := c
    have ru1 : u1 = Value.ref b := rc.1
    have ru2 : RelV y u2 := rc.2
    subst ru1
    obtain ⟨_, hd, xs, rx, dd⟩ := dt_of I2.hok e
    cases rx
    refine ⟨[(k0, b, u2)], ⟨rfl, rfl, key_of I2.hok eb, True.intro⟩, dd, fun h' tk2 dd' hs => wpAny_pure ?_⟩
    obtain ⟨o, es, ep, ho, h2, h3, h4, _, h5⟩ := dd'
    refine ⟨.ref s.heap.objs.size, _, d_write (ob := .dT [(k0, y)]) I2 (by rw [e]; exact True.intro) hs ⟨o, ho⟩ ⟨by show 1 ≤ sizeLine; decide, hd, [(k0, b, u2)], ?_, o, es, ep, ho, h2, h3, h4, h5⟩, rfl, q2⟩
    refine .cons ⟨rfl, ?_, ru2⟩ .nil
    show upd H2 s.heap.objs.size _ b = _
    rw [upd_ne (ne_of eb e (by intro z; cases z))]
    exact eb
/-! ### a comprehension over a dict's keys -/
theorem lc_keys {d : Addr} {o : Obj} {kvs : List (List Key × V)} {g : TG} {tt : TT} {te : TE} {vs : List Nat} {σ : L2.St} {H1 : Hp} {D : Addr} {Qd : Hp → Prop} (Pv : Nat → Hp → Prop) (h0 : Pv 0 (upd H1 D (.lst [])))
    (hl : ∀ i H, i ≤ kvs.length → Pv i H → H d = some (.frz o (.dT kvs)))
    (hs : ∀ i k v q H, kvs[i]? = some (k, v) → H q = some (.tup (k.map kV)) → Pv i H → g (.ref q) (wipe σ vs) H fun σ2 H2 => wipe σ2 vs = wipe σ vs ∧ tt σ2 H2 fun b H3 =>
      if b = true then te σ2 H3 fun y H4 => ∃ acc, H4 D = some (.lst acc) ∧ acc.length < sizeLine ∧ Pv (i + 1) (upd H4 D (.lst (acc ++ [y]))) else Pv (i + 1) H3) (hd : ∀ H, Pv kvs.length H → Qd H) :
    ∃ W : Nat → Nat → Hp → Prop, (∃ m, W 0 m (upd H1 D (.lst []))) ∧ ∀ i m H, W i m H →
      ((Itkt d o kvs).stop i H ∧ Qd H) ∨ ((Itkt d o kvs).go i H ∧ ∃ Nx : Hp → Prop, (∀ H', Nx H' → ∃ m', m' < m ∧ W (i + 1) m' H') ∧ ∀ x H', (Itkt d o kvs).yld i H x H' → g x (wipe σ vs) H' fun σ2 H2 => wipe σ2 vs = wipe σ vs ∧ tt σ2 H2 fun b H3 =>
        if b = true then te σ2 H3 fun y H4 => ∃ acc, H4 D = some (.lst acc) ∧ acc.length < sizeLine ∧ Nx (upd H4 D (.lst (acc ++ [y]))) else Nx H3) := by
  refine ⟨fun i m H => m = kvs.length - i ∧ i ≤ kvs.length ∧ Pv i H, ⟨_, rfl, Nat.zero_le _, h0⟩, ?_⟩
  rintro i m H ⟨rfl, hi, p⟩
  have q := hl i H hi p
  by_cases lt : i < kvs.length
  · refine .inr ⟨⟨q, lt⟩, Pv (i + 1), fun H' p' => ⟨kvs.length - (i + 1), by omega, rfl, lt, p'⟩, fun x H' y => ?_⟩
    obtain ⟨e, k, v, b, h1, h2, h3⟩ := y
    subst e h2
    exact hs i k v b _ h1 h3 p
  · have e : i = kvs.length := by omega
    subst e
    exact .inl ⟨⟨q, Nat.le_refl _⟩, hd H p⟩
/-! ### the cells' keys -/
def key (t : Tri) : List Key := [.inl t.1, .inl t.2.1, .inl t.2.2]
theorem key_inj {t u : Tri} (h : key t = key u) : t = u := by
  obtain ⟨t1, t2, t3⟩ := t
  obtain ⟨u1, u2, u3⟩ := u
  have h1 := Sum.inl.inj (List.cons.inj h).1
  have h2 := Sum.inl.inj (List.cons.inj (List.cons.inj h).2).1
  have h3 := Sum.inl.inj (List.cons.inj (List.cons.inj (List.cons.inj h).2).2).1
  simp only at h1 h2 h3
  rw [h1, h2, h3]
theorem key_of_place {wd dp i : Nat} : keyOf wd dp i = key (cI (co wd dp i)) := rfl
/-- those of the dict's pairs whose sign is such -/
theorem cells_such {wd dp : Nat} {g : V → Bool} {f : BrPart.Place → Bool} (h : ∀ pl, pl ≠ .none → g (.int (pl.byte.toNat : Int)) = f pl) (hn : f .none = false) : ∀ (L : List BrPart.Place) (k : Nat),
    (((L.zipIdx k).filterMap (cellAt wd dp)).filter fun kv => g kv.2).map (·.1) = (((L.zipIdx k).filter fun q => f q.1).map fun q => co wd dp q.2).map fun c => key (cI c)
  | [], _ => rfl
  | pl :: L, k => by
    have ih := cells_such h hn (wd := wd) (dp := dp) L (k + 1)
    rw [List.zipIdx_cons, List.filterMap_cons, List.filter_cons]
    by_cases z : pl = .none
    · subst z
      have e : cellAt wd dp (BrPart.Place.none, k) = none := rfl
      rw [e, if_neg (by rw [hn]; exact Bool.false_ne_true)]
      exact ih
    · have e : cellAt wd dp (pl, k) = some (keyOf wd dp k, .int (pl.byte.toNat : Int)) := if_neg z
      rw [e]
      dsimp only
      rw [List.filter_cons]
      dsimp only
      rw [h pl z]
      cases f pl with
      | true =>
        rw [if_pos rfl, if_pos rfl, List.map_cons, List.map_cons, List.map_cons, ih]
        rfl
      | false =>
        rw [if_neg Bool.false_ne_true, if_neg Bool.false_ne_true]
        exact ih
theorem keys_all {x : Part} (G : Good x) : (cellsOf x.wide x.deep x.places).map (·.1) = x.cells.map fun c => key (cI c) := by
  have h := cells_such (wd := x.wide) (dp := x.deep) (g := fun _ => true) (f := Place.isCell) (fun pl z => by cases pl with | none => exact absurd rfl z | cell s t => rfl) rfl x.places 0
  rw [List.filter_eq_self.mpr (fun _ _ => rfl)] at h
  unfold cellsOf Part.cells
  rw [such_eq G]
  exact h
theorem nodup_cells {x : Part} (G : Good x) : x.cells.Nodup := by
  unfold Part.cells
  rw [such_eq G]
  exact nodup_such x.places 0
theorem get_cell {x : Part} (G : Good x) (t : Tri) : (valV (cellsOf x.wide x.deep x.places) (key t)).isSome = decide (t ∈ x.cells.map cI) := by
  by_cases h : t ∈ x.cells.map cI
  · rw [decide_eq_true h]
    obtain ⟨c, hc, e⟩ := List.mem_map.mp h
    subst e
    cases q : valV (cellsOf x.wide x.deep x.places) (key (cI c)) with
    | some v => rfl
    | none =>
      refine absurd ?_ (valV_not q)
      rw [keys_all G]
      exact List.mem_map_of_mem (f := fun c => key (cI c)) hc
  · rw [decide_eq_false h]
    cases q : valV (cellsOf x.wide x.deep x.places) (key t) with
    | none => rfl
    | some v =>
      have hm := valV_in q
      rw [keys_all G] at hm
      obtain ⟨c, hc, e⟩ := List.mem_map.mp hm
      exact absurd (List.mem_map.mpr ⟨c, hc, key_inj e⟩) h
theorem val_at : ∀ {kvs : List (List Key × V)} {i : Nat} {k : List Key} {v : V}, (kvs.map (·.1)).Nodup → kvs[i]? = some (k, v) → valV kvs k = some v
  | [], _, _, _, _, h => by cases h
  | p :: kvs, 0, k, v, _, h => by
    have e : p = (k, v) := Option.some.inj h
    subst e
    exact valV_pos rfl
  | p :: kvs, i + 1, k, v, hn, h => by
    rw [List.map_cons, List.nodup_cons] at hn
    have h' : kvs[i]? = some (k, v) := h
    have hm : k ∈ kvs.map (·.1) := List.mem_map.mpr ⟨(k, v), List.mem_of_getElem? h', rfl⟩
    rw [valV_neg fun z => hn.1 (z ▸ hm)]
    exact val_at hn.2 h'
theorem keys_nodup {x : Part} (G : Good x) : ((cellsOf x.wide x.deep x.places).map (·.1)).Nodup := by
  rw [keys_all G]
  exact List.Pairwise.map _ (fun a b h z => h (cI_inj (key_inj z))) (nodup_cells G)
/-- the objects at bs are these keys' -/
def KeysAt (H : Hp) (bs : List Addr) (ks : List (List Key)) : Prop := PySem.Paired (fun b k => H b = some (.tup (k.map kV))) bs ks
end St
set_option Elab.async false
set_option linter.all false
set_option maxRecDepth 100000
set_option maxHeartbeats 4000000
namespace St
open PySem PySem.Spec PyProof.Rows L2 PySem.Jx RdM BrPart BrRead Geo
structure Ad2 where
  (hstud htube pstud ptube acov astop spans sides besd reach togth broken order right CW iW : Addr)
structure Txt2 (K : PySem.W.Frag) (mg : Str → Option Value) (a : Ad) (b : Ad2) : Prop where
  any : mg "any" = none
  lst : mg "list" = none
  enm : mg "enumerate" = none
  gHs : mg "has_stud" = some (.ref b.hstud)
  gHt : mg "has_tube" = some (.ref b.htube)
  gCov : mg "a_stud_is_covered" = some (.ref b.acov)
  gStop : mg "a_tube_is_stopped" = some (.ref b.astop)
  gSpans : mg "spans" = some (.ref b.spans)
  gSides : mg "reaches_all_sides" = some (.ref b.sides)
  gBesd : mg "beside" = some (.ref b.besd)
  gReach : mg "reached_from" = some (.ref b.reach)
  gTogth : mg "hangs_together" = some (.ref b.togth)
  gBroken : mg "broken_point" = some (.ref b.broken)
  gOrder : mg "stands_in_order" = some (.ref b.order)
  gRight : mg "right_catalogue" = some (.ref b.right)
  gW : mg "NotRight" = some (.ref b.CW)
  mPs : Meth K a.CP "places_with_stud" b.pstud
  mPt : Meth K a.CP "places_with_tube" b.ptube
  eW : ErrT K mg b.CW b.iW 2 (fun vs => [("where", vs.getD 1 .non), ("point", vs.getD 0 .non), ("number", .int (-8))])
  kHs : PySem.W.keepIn K (.ref b.hstud) = true
  kHt : PySem.W.keepIn K (.ref b.htube) = true
  kCov : PySem.W.keepIn K (.ref b.acov) = true
  kStop : PySem.W.keepIn K (.ref b.astop) = true
  kSpans : PySem.W.keepIn K (.ref b.spans) = true
  kSides : PySem.W.keepIn K (.ref b.sides) = true
  kBesd : PySem.W.keepIn K (.ref b.besd) = true
  kReach : PySem.W.keepIn K (.ref b.reach) = true
  kTogth : PySem.W.keepIn K (.ref b.togth) = true
  kBroken : PySem.W.keepIn K (.ref b.broken) = true
  kOrder : PySem.W.keepIn K (.ref b.order) = true
  kRight : PySem.W.keepIn K (.ref b.right) = true
  dHs : Dn K "has_stud" "has_stud" s_has_stud b.hstud
  dHt : Dn K "has_tube" "has_tube" s_has_tube b.htube
  dPs : Dn K "places_with_stud" "Part.places_with_stud" s_Part_places_with_stud b.pstud
  dPt : Dn K "places_with_tube" "Part.places_with_tube" s_Part_places_with_tube b.ptube
  dCov : Dn K "a_stud_is_covered" "a_stud_is_covered" s_a_stud_is_covered b.acov
  dStop : Dn K "a_tube_is_stopped" "a_tube_is_stopped" s_a_tube_is_stopped b.astop
  dSpans : Dn K "spans" "spans" s_spans b.spans
  dSides : Dn K "reaches_all_sides" "reaches_all_sides" s_reaches_all_sides b.sides
  dBesd : Dn K "beside" "beside" s_beside b.besd
  dReach : Dn K "reached_from" "reached_from" s_reached_from b.reach
  dTogth : Dn K "hangs_together" "hangs_together" s_hangs_together b.togth
  dBroken : Dn K "broken_point" "broken_point" s_broken_point b.broken
  dOrder : Dn K "stands_in_order" "stands_in_order" s_stands_in_order b.order
  dRight : Dn K "right_catalogue" "right_catalogue" s_right_catalogue b.right
theorem take_more {α : Type} : ∀ {l : List α} {i : Nat} {x : α}, l[i]? = some x → l.take (i + 1) = l.take i ++ [x]
  | [], i, x, h => by simp at h
  | a :: l, 0, x, h => by
    have e : a = x := Option.some.inj h
    subst e
    rfl
  | a :: l, i + 1, x, h => by
    have ih := take_more (l := l) (i := i) (x := x) h
    show a :: l.take (i + 1) = a :: l.take i ++ [x]
    rw [ih]
    rfl
theorem cells_small {x : Part} (G : Good x) : (cellsOf x.wide x.deep x.places).length ≤ 4608 := by
  have h1 := cells_len (wd := x.wide) (dp := x.deep) x.places
  rw [G.len] at h1
  have h2 : x.high * (x.deep * x.wide) ≤ 18 * (16 * 16) := Nat.mul_le_mul G.h2 (Nat.mul_le_mul G.d2 G.w2)
  omega
theorem small4 {n : Nat} (h : n ≤ 4608) : n < sizeLine := Nat.lt_of_le_of_lt h (by decide)
def gStud (v : V) : Bool := match v with
  | .int n => n == 115 || n == 98
  | _ => false
def gTube (v : V) : Bool := match v with
  | .int n => n == 116 || n == 98
  | _ => false
theorem gStud_is (pl : BrPart.Place) (h : pl ≠ .none) : gStud (.int (pl.byte.toNat : Int)) = pl.stud := by
  cases pl with
  | none => exact absurd rfl h
  | cell s t => cases s <;> cases t <;> rfl
theorem gTube_is (pl : BrPart.Place) (h : pl ≠ .none) : gTube (.int (pl.byte.toNat : Int)) = pl.tube := by
  cases pl with
  | none => exact absurd rfl h
  | cell s t => cases s <;> cases t <;> rfl
theorem KeysAt.same {H H' : Hp} {bs : List Addr} {ks : List (List Key)} (k : KeysAt H bs ks) (s : Same H H') : KeysAt H' bs ks := L2.Paired.mapP k fun _ _ h => s _ _ h
theorem KeysAt.snoc {H : Hp} {bs : List Addr} {ks : List (List Key)} {b : Addr} {k : List Key} (h : KeysAt H bs ks) (e : H b = some (.tup (k.map kV))) : KeysAt H (bs ++ [b]) (ks ++ [k]) := by
  unfold KeysAt at *
  induction h with
  | nil => exact .cons e .nil
  | cons h t ih => exact .cons h ih
theorem KeysAt.get {H : Hp} {bs : List Addr} {ks : List (List Key)} {i : Nat} {b : Addr} (h : KeysAt H bs ks) (e : bs[i]? = some b) : ∃ k, ks[i]? = some k ∧ H b = some (.tup (k.map kV)) := by
  unfold KeysAt at h
  induction h generalizing i with
  | nil => cases e
  | @cons x y xs ys h t ih =>
    cases i with
    | zero =>
      have e' : x = b := Option.some.inj e
      subst e'
      exact ⟨y, rfl, h⟩
    | succ i => exact ih e
theorem KeysAt.len {H : Hp} {bs : List Addr} {ks : List (List Key)} (h : KeysAt H bs ks) : bs.length = ks.length := PySem.Paired.length h
section
variable {P : Program} {w : World} {K : PySem.W.Frag} {mg : Str → Option Value} {base : Heap} {a : Ad} {b : Ad2}
def spPlaces (CP : Addr) (f : BrPart.Place → Bool) : Sp := fun vs H Q _ => ∃ pp x, vs = [.ref pp] ∧ IsPart CP H pp x ∧ Good x ∧ ∀ l bs H', Same H H' → H' l = some (.lst (bs.map V.ref)) → KeysAt H' bs ((x.such f).map fun c => key (cI c)) → Q (.ref l) H'
/-! ### has_stud, places_with_stud -/
theorem scHStud : FnScope ["sign"] ["sign"] (defScope s_has_stud) := ⟨rfl, rfl, rfl, by decide +kernel, rfl, by decide +kernel, by decide +kernel⟩
theorem ok_hStud (T : Txt K mg a) (U : Txt2 K mg a b) : Ok P w K mg base CX0 1 b.hstud ["sign"] (spB fun n => n == 115 || n == 98) := by
  obtain ⟨fd, F⟩ := U.dHs
  obtain ⟨t1, h1⟩ := T.c115
  obtain ⟨t2, h2⟩ := T.c98
  refine ⟨fd, F.ok scHStud (fun vs H Q E h => ?_) (fun cdv A outer s H vs Q E hr h => ⟨_,
    pss_one (ps_ret (pe_or (pe_cmpR op_eq (pv 0) (pe_glob (v := .int 115) rfl h1 ⟨_, rfl⟩) (nomark _)) (pe_one (pe_cmpR op_eq (pv 0) (pe_glob (v := .int 98) rfl h2 ⟨_, rfl⟩) (nomark _))))), ?_⟩),
    F.binds fun _ _ _ _ _ _ us hl => match us, hl with | [_], _ => rfl⟩
  · obtain ⟨n, rfl, _⟩ := h
    rfl
  · obtain ⟨n, rfl, h⟩ := h
    dsimp only at h
    have q : ∀ m : Int, decide (V.int n = V.int m) = (n == m) := fun m => dec_int
    refine ⟨_, rfl, rfl, _, rfl, ?_⟩
    rw [q]
    cases c : (n == 115 : Bool) with
    | true =>
      rw [c, Bool.true_or] at h
      exact iteT h
    | false =>
      rw [c, Bool.false_or] at h
      refine iteF ⟨_, rfl, rfl, ?_⟩
      rw [q]
      exact h
theorem scPStud : FnScope ["self", "place"] ["self"] (defScope s_Part_places_with_stud) := ⟨rfl, rfl, rfl, by decide +kernel, rfl, by decide +kernel, by decide +kernel⟩
theorem ok_pStud (T : Txt K mg a) (U : Txt2 K mg a b) : Ok P w K mg base CX0 2 b.pstud ["self"] (spPlaces a.CP Place.stud) := by
  obtain ⟨fd, F⟩ := U.dPs
  obtain ⟨fdH, GH, bH⟩ := ok_hStud (P := P) (w := w) (base := base) T U
  refine ⟨fd, F.ok scPStud (fun vs H Q E h => ?_) (fun cdv A outer s H vs Q E hr h => ⟨_,
    pss_one (ps_ret (pe_lock (pe_lc (own := [("place", 1)]) (g := gName 1) (tt := tB (tCall (spB fun n => n == 115 || n == 98) [] E0 (tCons (tDGet (tFld K (tVar 0) "cells") (tVar 1)) tNil))) (te := tVar 1) rfl scPStud.nd (pi_keys (pe_fld (pv 0) rfl)) (blkOk_by (own := [("place", 1)]) (N := ["self", "place"]) (sc := defScope s_Part_places_with_stud) (by decide +kernel))
      (fun _ _ _ _ _ => pg_name (i := 1) scPStud.nd rfl (Or.inl rfl)) (fun _ _ _ _ _ => pts_one (pt_val (by exact (pe_call GH hr rfl U.gHs U.kHs bH .nil pass0 (by exact (pa_cons (by exact (pe_dget (hu_of hr) (pe_fld (pv 0) rfl) (pv 1) (fun _ _ => rfl))) pa_nil))))))
      (fun _ _ _ _ _ => pv 1)))), ?_⟩),
    F.binds fun _ _ _ _ _ _ us hl => match us, hl with | [_], _ => rfl⟩
  · obtain ⟨pp, x, rfl, _⟩ := h
    rfl
  · obtain ⟨pp, x, rfl, ⟨dp, nl, c, hp, hn, hc⟩, G, h⟩ := h
    have pc : pp ≠ c := ne_of hp hc (by intro z; cases z)
    have hlen := cells_small G
    have hnd := keys_nodup G
    have hcm : ∀ {k v}, (k, v) ∈ cellsOf x.wide x.deep x.places → ∃ n : Nat, v = .int (n : Int) := fun {k v} hm => by
      obtain ⟨i, pl, _, _, _, e⟩ := cells_mem hm
      exact ⟨_, e⟩
    have hres : ((cellsOf x.wide x.deep x.places).filter fun kv => gStud kv.2).map (·.1) = (x.such Place.stud).map fun c => key (cI c) := by
      rw [such_eq G]
      exact cells_such gStud_is rfl x.places 0
    generalize cellsOf x.wide x.deep x.places = kvs at hc hlen hnd hcm hres
    refine ⟨c, .dT kvs, hc, True.intro, fun od => ?_⟩
    have hpL : upd H c (.frz od (.dT kvs)) pp = some (.ins a.CP dp (pF nl x.wide x.deep x.high x.weight c)) := by rw [upd_ne pc]; exact hp
    refine ⟨_, rfl, pp, _, dp, _, _, rfl, hpL, T.clP, T.nCells, pF_cells, c, od, rfl, .inr ⟨kvs, upd_same, fun D hD => ?_⟩⟩
    have Dc : D ≠ c := fun z => by rw [z, upd_same] at hD; cases hD
    have oldD : ∀ d o, H d = some o → d ≠ D := fun d o e z => by
      by_cases q : d = c
      · exact Dc (z ▸ q)
      · rw [← z, upd_ne q, e] at hD
        cases hD
    refine lc_keys (fun i H' => H' c = some (.frz od (.dT kvs)) ∧ (∀ d o, H d = some o → d ≠ c → H' d = some o) ∧ ∃ bs : List Addr, H' D = some (.lst (bs.map V.ref)) ∧ KeysAt H' bs (((kvs.take i).filter fun kv => gStud kv.2).map (·.1)))
      ⟨by rw [upd_ne (Ne.symm Dc)]; exact upd_same, fun d o e n => by rw [upd_ne (oldD d o e), upd_ne n]; exact e, [], upd_same, .nil⟩ (fun i H' _ p => p.1) ?_ ?_
    · rintro i k v q H1 hi hq ⟨p1, p2, bs, p3, p4⟩
      obtain ⟨n, ev⟩ := hcm (List.mem_of_getElem? hi)
      subst ev
      refine ⟨rfl, _, rfl, pp, _, dp, _, _, rfl, p2 _ _ hp pc, T.clP, T.nCells, pF_cells, _, rfl, c, _, rfl, .inr ⟨kvs, k, q, .inr ⟨od, p1⟩, rfl, hq, (val_at hnd hi).symm⟩, _, rfl, _, rfl, ?_⟩
      have tk := take_more hi
      show (if ((n : Int) == 115 || (n : Int) == 98) = true then (_ : Prop) else (_ : Prop))
      cases c1 : ((n : Int) == 115 || (n : Int) == 98) with
      | true =>
        refine iteT ⟨_, rfl, _, p3, ?_, ?_, ?_, bs ++ [q], ?_, ?_⟩
        · have h1 := p4.len
          have h2 := List.length_filter_le (fun kv : List Key × V => gStud kv.2) (kvs.take i)
          rw [List.length_map] at h1 ⊢
          rw [List.length_take] at h2
          exact small4 (by omega)
        · rw [upd_ne (Ne.symm Dc)]
          exact p1
        · intro d o e n2
          rw [upd_ne (oldD d o e)]
          exact p2 d o e n2
        · rw [List.map_append]
          exact upd_same
        · have e : ((kvs.take (i + 1)).filter fun kv => gStud kv.2).map (·.1) = ((kvs.take i).filter fun kv => gStud kv.2).map (·.1) ++ [k] := by
            rw [tk, List.filter_append, List.map_append]
            have e2 : ([(k, V.int (n : Int))] : List (List Key × V)).filter (fun kv => gStud kv.2) = [(k, V.int (n : Int))] := by
              rw [List.filter_cons]
              exact if_pos c1
            rw [e2]
            rfl
          rw [e]
          refine KeysAt.snoc (L2.Paired.mapP p4 fun z kk hz => ?_) ?_
          · rw [upd_ne (ne_of hz p3 (by intro y; cases y))]
            exact hz
          · rw [upd_ne (ne_of hq p3 (by intro y; cases y))]
            exact hq
      | false =>
        refine iteF ⟨p1, p2, bs, p3, ?_⟩
        have e : ((kvs.take (i + 1)).filter fun kv => gStud kv.2).map (·.1) = ((kvs.take i).filter fun kv => gStud kv.2).map (·.1) := by
          rw [tk, List.filter_append, List.map_append]
          have e2 : ([(k, V.int (n : Int))] : List (List Key × V)).filter (fun kv => gStud kv.2) = [] := by
            rw [List.filter_cons]
            exact if_neg (by rw [show gStud (V.int (n : Int)) = false from c1]; exact Bool.false_ne_true)
          rw [e2]
          simp
        rw [e]
        exact p4
    · rintro H1 ⟨p1, p2, bs, p3, p4⟩
      rw [List.take_length, hres] at p4
      refine ⟨p1, h D bs _ (fun d o e => ?_) ?_ ?_⟩
      · by_cases q : d = c
        · subst q
          rw [hc] at e
          cases e
          exact upd_same
        · rw [upd_ne q]
          exact p2 d o e q
      · rw [upd_ne Dc]
        exact p3
      · refine L2.Paired.mapP p4 fun z kk hz => ?_
        rw [upd_ne (ne_of hz p1 (by intro y; cases y))]
        exact hz
/-! ### has_tube, places_with_tube -/
theorem scHTube : FnScope ["sign"] ["sign"] (defScope s_has_tube) := ⟨rfl, rfl, rfl, by decide +kernel, rfl, by decide +kernel, by decide +kernel⟩
theorem ok_hTube (T : Txt K mg a) (U : Txt2 K mg a b) : Ok P w K mg base CX0 1 b.htube ["sign"] (spB fun n => n == 116 || n == 98) := by
  obtain ⟨fd, F⟩ := U.dHt
  obtain ⟨t1, h1⟩ := T.c116
  obtain ⟨t2, h2⟩ := T.c98
  refine ⟨fd, F.ok scHTube (fun vs H Q E h => ?_) (fun cdv A outer s H vs Q E hr h => ⟨_,
    pss_one (ps_ret (pe_or (pe_cmpR op_eq (pv 0) (pe_glob (v := .int 116) rfl h1 ⟨_, rfl⟩) (nomark _)) (pe_one (pe_cmpR op_eq (pv 0) (pe_glob (v := .int 98) rfl h2 ⟨_, rfl⟩) (nomark _))))), ?_⟩),
    F.binds fun _ _ _ _ _ _ us hl => match us, hl with | [_], _ => rfl⟩
  · obtain ⟨n, rfl, _⟩ := h
    rfl
  · obtain ⟨n, rfl, h⟩ := h
    dsimp only at h
    have q : ∀ m : Int, decide (V.int n = V.int m) = (n == m) := fun m => dec_int
    refine ⟨_, rfl, rfl, _, rfl, ?_⟩
    rw [q]
    cases c : (n == 116 : Bool) with
    | true =>
      rw [c, Bool.true_or] at h
      exact iteT h
    | false =>
      rw [c, Bool.false_or] at h
      refine iteF ⟨_, rfl, rfl, ?_⟩
      rw [q]
      exact h
theorem scPTube : FnScope ["self", "place"] ["self"] (defScope s_Part_places_with_tube) := ⟨rfl, rfl, rfl, by decide +kernel, rfl, by decide +kernel, by decide +kernel⟩
theorem ok_pTube (T : Txt K mg a) (U : Txt2 K mg a b) : Ok P w K mg base CX0 2 b.ptube ["self"] (spPlaces a.CP Place.tube) := by
  obtain ⟨fd, F⟩ := U.dPt
  obtain ⟨fdH, GH, bH⟩ := ok_hTube (P := P) (w := w) (base := base) T U
  refine ⟨fd, F.ok scPTube (fun vs H Q E h => ?_) (fun cdv A outer s H vs Q E hr h => ⟨_,
    pss_one (ps_ret (pe_lock (pe_lc (own := [("place", 1)]) (g := gName 1) (tt := tB (tCall (spB fun n => n == 116 || n == 98) [] E0 (tCons (tDGet (tFld K (tVar 0) "cells") (tVar 1)) tNil))) (te := tVar 1) rfl scPTube.nd (pi_keys (pe_fld (pv 0) rfl)) (blkOk_by (own := [("place", 1)]) (N := ["self", "place"]) (sc := defScope s_Part_places_with_tube) (by decide +kernel))
      (fun _ _ _ _ _ => pg_name (i := 1) scPTube.nd rfl (Or.inl rfl)) (fun _ _ _ _ _ => pts_one (pt_val (by exact (pe_call GH hr rfl U.gHt U.kHt bH .nil pass0 (by exact (pa_cons (by exact (pe_dget (hu_of hr) (pe_fld (pv 0) rfl) (pv 1) (fun _ _ => rfl))) pa_nil))))))
      (fun _ _ _ _ _ => pv 1)))), ?_⟩),
    F.binds fun _ _ _ _ _ _ us hl => match us, hl with | [_], _ => rfl⟩
  · obtain ⟨pp, x, rfl, _⟩ := h
    rfl
  · obtain ⟨pp, x, rfl, ⟨dp, nl, c, hp, hn, hc⟩, G, h⟩ := h
    have pc : pp ≠ c := ne_of hp hc (by intro z; cases z)
    have hlen := cells_small G
    have hnd := keys_nodup G
    have hcm : ∀ {k v}, (k, v) ∈ cellsOf x.wide x.deep x.places → ∃ n : Nat, v = .int (n : Int) := fun {k v} hm => by
      obtain ⟨i, pl, _, _, _, e⟩ := cells_mem hm
      exact ⟨_, e⟩
    have hres : ((cellsOf x.wide x.deep x.places).filter fun kv => gTube kv.2).map (·.1) = (x.such Place.tube).map fun c => key (cI c) := by
      rw [such_eq G]
      exact cells_such gTube_is rfl x.places 0
    generalize cellsOf x.wide x.deep x.places = kvs at hc hlen hnd hcm hres
    refine ⟨c, .dT kvs, hc, True.intro, fun od => ?_⟩
    have hpL : upd H c (.frz od (.dT kvs)) pp = some (.ins a.CP dp (pF nl x.wide x.deep x.high x.weight c)) := by rw [upd_ne pc]; exact hp
    refine ⟨_, rfl, pp, _, dp, _, _, rfl, hpL, T.clP, T.nCells, pF_cells, c, od, rfl, .inr ⟨kvs, upd_same, fun D hD => ?_⟩⟩
    have Dc : D ≠ c := fun z => by rw [z, upd_same] at hD; cases hD
    have oldD : ∀ d o, H d = some o → d ≠ D := fun d o e z => by
      by_cases q : d = c
      · exact Dc (z ▸ q)
      · rw [← z, upd_ne q, e] at hD
        cases hD
    refine lc_keys (fun i H' => H' c = some (.frz od (.dT kvs)) ∧ (∀ d o, H d = some o → d ≠ c → H' d = some o) ∧ ∃ bs : List Addr, H' D = some (.lst (bs.map V.ref)) ∧ KeysAt H' bs (((kvs.take i).filter fun kv => gTube kv.2).map (·.1)))
      ⟨by rw [upd_ne (Ne.symm Dc)]; exact upd_same, fun d o e n => by rw [upd_ne (oldD d o e), upd_ne n]; exact e, [], upd_same, .nil⟩ (fun i H' _ p => p.1) ?_ ?_
    · rintro i k v q H1 hi hq ⟨p1, p2, bs, p3, p4⟩
      obtain ⟨n, ev⟩ := hcm (List.mem_of_getElem? hi)
      subst ev
      refine ⟨rfl, _, rfl, pp, _, dp, _, _, rfl, p2 _ _ hp pc, T.clP, T.nCells, pF_cells, _, rfl, c, _, rfl, .inr ⟨kvs, k, q, .inr ⟨od, p1⟩, rfl, hq, (val_at hnd hi).symm⟩, _, rfl, _, rfl, ?_⟩
      have tk := take_more hi
      show (if ((n : Int) == 116 || (n : Int) == 98) = true then (_ : Prop) else (_ : Prop))
      cases c1 : ((n : Int) == 116 || (n : Int) == 98) with
      | true =>
        refine iteT ⟨_, rfl, _, p3, ?_, ?_, ?_, bs ++ [q], ?_, ?_⟩
        · have h1 := p4.len
          have h2 := List.length_filter_le (fun kv : List Key × V => gTube kv.2) (kvs.take i)
          rw [List.length_map] at h1 ⊢
          rw [List.length_take] at h2
          exact small4 (by omega)
        · rw [upd_ne (Ne.symm Dc)]
          exact p1
        · intro d o e n2
          rw [upd_ne (oldD d o e)]
          exact p2 d o e n2
        · rw [List.map_append]
          exact upd_same
        · have e : ((kvs.take (i + 1)).filter fun kv => gTube kv.2).map (·.1) = ((kvs.take i).filter fun kv => gTube kv.2).map (·.1) ++ [k] := by
            rw [tk, List.filter_append, List.map_append]
            have e2 : ([(k, V.int (n : Int))] : List (List Key × V)).filter (fun kv => gTube kv.2) = [(k, V.int (n : Int))] := by
              rw [List.filter_cons]
              exact if_pos c1
            rw [e2]
            rfl
          rw [e]
          refine KeysAt.snoc (L2.Paired.mapP p4 fun z kk hz => ?_) ?_
          · rw [upd_ne (ne_of hz p3 (by intro y; cases y))]
            exact hz
          · rw [upd_ne (ne_of hq p3 (by intro y; cases y))]
            exact hq
      | false =>
        refine iteF ⟨p1, p2, bs, p3, ?_⟩
        have e : ((kvs.take (i + 1)).filter fun kv => gTube kv.2).map (·.1) = ((kvs.take i).filter fun kv => gTube kv.2).map (·.1) := by
          rw [tk, List.filter_append, List.map_append]
          have e2 : ([(k, V.int (n : Int))] : List (List Key × V)).filter (fun kv => gTube kv.2) = [] := by
            rw [List.filter_cons]
            exact if_neg (by rw [show gTube (V.int (n : Int)) = false from c1]; exact Bool.false_ne_true)
          rw [e2]
          simp
        rw [e]
        exact p4
    · rintro H1 ⟨p1, p2, bs, p3, p4⟩
      rw [List.take_length, hres] at p4
      refine ⟨p1, h D bs _ (fun d o e => ?_) ?_ ?_⟩
      · by_cases q : d = c
        · subst q
          rw [hc] at e
          cases e
          exact upd_same
        · rw [upd_ne q]
          exact p2 d o e q
      · rw [upd_ne Dc]
        exact p3
      · refine L2.Paired.mapP p4 fun z kk hz => ?_
        rw [upd_ne (ne_of hz p1 (by intro y; cases y))]
        exact hz
end
end St
set_option Elab.async false
set_option linter.all false
set_option maxRecDepth 100000
set_option maxHeartbeats 4000000
namespace St
open PySem PySem.Spec PyProof.Rows L2 PySem.Jx RdM BrPart BrRead Geo
theorem any_all {α : Type} {f g : α → Bool} (h : ∀ c, f c = !g c) : ∀ l : List α, (l.map g).any id = !(l.all f)
  | [] => rfl
  | a :: l => by
    rw [List.map_cons, List.any_cons, List.all_cons, any_all h l, h a]
    cases g a <;> rfl
theorem cs_cell {x : Part} (G : Good x) (i j k : Nat) : decide (((i : Int), (j : Int), (k : Int)) ∈ x.cells.map cI) = (x.at_ i j k).isCell := by
  cases c : (x.at_ i j k).isCell with
  | true => exact decide_eq_true (List.mem_map.mpr ⟨(i, j, k), (cell_at G i j k).mp c, rfl⟩)
  | false =>
    refine decide_eq_false fun h => ?_
    obtain ⟨u, hu, e⟩ := List.mem_map.mp h
    have e2 : u = (i, j, k) := cI_inj (b := (i, j, k)) e
    subst e2
    rw [(cell_at G i j k).mpr hu] at c
    cases c
def upT (c : C3) : Tri := ((c.1 : Int), (c.2.1 : Int), (c.2.2 : Int) + 1)
def dnT (c : C3) : Tri := ((c.1 : Int), (c.2.1 : Int), (c.2.2 : Int) - 1)
theorem studs_any {x : Part} (G : Good x) : ((x.such Place.stud).map fun c => decide (upT c ∈ x.cells.map cI)).any id = !x.studsOk := by
  refine any_all (fun c => ?_) _
  have e := cs_cell G c.1 c.2.1 (c.2.2 + 1)
  show (!(x.at_ c.1 c.2.1 (c.2.2 + 1)).isCell) = _
  rw [← e]
  rfl
theorem tubes_any {x : Part} (G : Good x) : ((x.such Place.tube).map fun c => decide (dnT c ∈ x.cells.map cI)).any id = !x.tubesOk := by
  refine any_all (fun c => ?_) _
  show (c.2.2 == 0 || !(x.at_ c.1 c.2.1 (c.2.2 - 1)).isCell) = _
  by_cases z : c.2.2 = 0
  · have e1 : (c.2.2 == 0) = true := by rw [z]; rfl
    have e2 : decide (dnT c ∈ x.cells.map cI) = false := by
      refine decide_eq_false fun h => ?_
      obtain ⟨u, _, e⟩ := List.mem_map.mp h
      have e3 : (u.2.2 : Int) = (c.2.2 : Int) - 1 := (Prod.mk.inj (Prod.mk.inj e).2).2
      omega
    rw [e1, e2]
    rfl
  · have e1 : (c.2.2 == 0) = false := beq_eq_false_iff_ne.mpr z
    have e := cs_cell G c.1 c.2.1 (c.2.2 - 1)
    have e2 : dnT c = ((c.1 : Int), (c.2.1 : Int), ((c.2.2 - 1 : Nat) : Int)) := by
      unfold dnT
      have : ((c.2.2 - 1 : Nat) : Int) = (c.2.2 : Int) - 1 := by omega
      rw [this]
    rw [e1, e2, e, Bool.false_or]
theorem pF_no {nl c : Addr} {w d h g : Nat} {m : Str} (h1 : (m == ("name" : Str)) = false) (h2 : (m == ("width" : Str)) = false) (h3 : (m == ("depth" : Str)) = false) (h4 : (m == ("height" : Str)) = false) (h5 : (m == ("weight" : Str)) = false) (h6 : (m == ("cells" : Str)) = false) :
    (pF nl w d h g c).lookup m = none := (lk_past h1).trans ((lk_past h2).trans ((lk_past h3).trans ((lk_past h4).trans ((lk_past h5).trans ((lk_past h6).trans rfl)))))
section
variable {P : Program} {w : World} {K : PySem.W.Frag} {mg : Str → Option Value} {base : Heap} {a : Ad} {b : Ad2}
def spPart (CP : Addr) (g : Part → V) : Sp := fun vs H Q _ => ∃ pp x, vs = [.ref pp] ∧ IsPart CP H pp x ∧ Good x ∧ ∀ H', Same H H' → Q (g x) H'
theorem sccov : FnScope ["part", "x", "y", "z"] ["part"] (defScope s_a_stud_is_covered) := ⟨rfl, rfl, rfl, by decide +kernel, rfl, by decide +kernel, by decide +kernel⟩
theorem ok_cov (T : Txt K mg a) (U : Txt2 K mg a b) : Ok P w K mg base CX0 3 b.acov ["part"] (spPart a.CP fun x => .bl (!x.studsOk)) := by
  obtain ⟨fd, F⟩ := U.dCov
  obtain ⟨fdP, GP, bP⟩ := ok_pStud (P := P) (w := w) (base := base) T U
  refine ⟨fd, F.ok sccov (fun vs H Q E h => ?_) (fun cdv A outer s H vs Q E hr h => ⟨_,
    pss_one (ps_ret (pe_callB (cr_any rfl) (by rfl) U.any (by decide +kernel) (pa_cons (pe_lc (own := [("x", 1), ("y", 2), ("z", 3)]) (g := gTup K 3 (gCons (gName 1) (gCons (gName 2) (gCons (gName 3) gNil)))) (tt := tYes)
        (te := tDIn (tTup (tCons (tVar 1) (tCons (tVar 2) (tCons (tOp (rI0 fun i j => .int (i + j)) (tVar 3) (tC (.int 1))) tNil)))) (tFld K (tVar 0) "cells")) rfl sccov.nd (pi_list (pe_meth0 (pv 0) T.clP U.mPs GP hr bP .nil pass0))
      (blkOk_by (own := [("x", 1), ("y", 2), ("z", 3)]) (N := ["part", "x", "y", "z"]) (sc := defScope s_a_stud_is_covered) (by decide +kernel))
      (fun _ _ _ _ _ => pg_tup rfl (pgs_cons (pg_name (i := 1) sccov.nd rfl (Or.inl rfl)) (pgs_cons (pg_name (i := 2) sccov.nd rfl (Or.inl rfl)) (pgs_cons (pg_name (i := 3) sccov.nd rfl (Or.inl rfl)) pgs_nil)))) (fun _ _ _ _ _ => pts_nil)
      (fun _ _ _ _ _ => by exact (pe_cmp (pc_din (hu_of hr) (pe_tup (by exact (pa_cons (pv 1) (pa_cons (pv 2) (pa_cons (pe_op op_add (pv 3) pe_int) pa_nil))))) (pe_fld (pv 0) rfl)) rfl))) pa_nil))), ?_⟩),
    F.binds fun _ _ _ _ _ _ us hl => match us, hl with | [_], _ => rfl⟩
  · obtain ⟨pp, x, rfl, _⟩ := h
    rfl
  · obtain ⟨pp, x, rfl, ⟨dp, nl, c, hp, hn, hc⟩, G, h⟩ := h
    have hany := studs_any G
    refine ⟨_, rfl, pp, dp, _, rfl, hp, pF_no (by decide +kernel) (by decide +kernel) (by decide +kernel) (by decide +kernel) (by decide +kernel) (by decide +kernel), pp, x, rfl, ⟨dp, nl, c, hp, hn, hc⟩, G, fun l bs H1 s1 hl1 k1 => ?_⟩
    refine ⟨l, rfl, ⟨_, SqL.of hl1⟩, fun D hD => ?_⟩
    have oldD : ∀ d o, H1 d = some o → d ≠ D := fun d o e z => by rw [← z, e] at hD; cases hD
    have lenL : (x.such Place.stud).length ≤ 4608 := by
      rw [such_eq G]
      unfold such
      rw [List.length_map]
      refine Nat.le_trans (List.length_filter_le ..) ?_
      rw [List.length_zipIdx, G.len]
      exact Nat.mul_le_mul G.h2 (Nat.mul_le_mul G.d2 G.w2)
    have lenB : bs.length = (x.such Place.stud).length := by rw [k1.len, List.length_map]
    refine lc_list (K := K) (a := l) (xs := bs.map V.ref) (fun i H' => Same H1 H' ∧ H' D = some (.lst ((((x.such Place.stud).take i).map fun c => decide (upT c ∈ x.cells.map cI)).map V.bl))) ⟨same_new hD, upd_same⟩ (fun i H' _ p => p.1.seq (SqL.of hl1)) ?_ ?_
    · rintro i y H2 hi ⟨s2, h2⟩
      rw [List.getElem?_map] at hi
      obtain ⟨q, hq, ey⟩ := Option.map_eq_some_iff.mp hi
      subst ey
      obtain ⟨k, hk, hqk⟩ := k1.get hq
      rw [List.getElem?_map] at hk
      obtain ⟨u, hu, ek⟩ := Option.map_eq_some_iff.mp hk
      subst ek
      refine ⟨q, _, rfl, .inl (.inl (s2 _ _ hqk)), rfl, _, _, rfl, _, _, rfl, _, _, rfl, rfl, ?_⟩
      refine ⟨rfl, _, rfl, _, rfl, _, rfl, _, _, rfl, rfl, (by show 3 ≤ sizeLine; decide), fun t0 ht0 => ?_⟩
      have s3 : Same H2 _ := same_new (o := .tup [.int (u.1 : Int), .int (u.2.1 : Int), .int ((u.2.2 : Int) + 1)]) ht0
      refine ⟨_, rfl, pp, _, dp, _, _, rfl, s3 _ _ (s2 _ _ (s1 _ _ hp)), T.clP, T.nCells, pF_cells, c, _, rfl, .inr ⟨_, key (upT u), t0, .inl (s3 _ _ (s2 _ _ (s1 _ _ hc))), rfl, upd_same, rfl⟩, _, s3 _ _ h2, ?_, ?_, ?_⟩
      · rw [List.length_map, List.length_map, List.length_take]
        exact small4 (by omega)
      · intro d o e
        rw [upd_ne (oldD d o e)]
        exact s3 _ _ (s2 _ _ e)
      · rw [get_cell G, take_more hu, List.map_append, List.map_append]
        exact upd_same
    · rintro H2 ⟨s2, h2⟩
      rw [List.length_map, lenB, List.take_length] at h2
      refine ⟨D, _, rfl, SqL.of h2, ?_⟩
      rw [hany]
      exact h H2 (s1.trans s2)
theorem scstop : FnScope ["part", "x", "y", "z"] ["part"] (defScope s_a_tube_is_stopped) := ⟨rfl, rfl, rfl, by decide +kernel, rfl, by decide +kernel, by decide +kernel⟩
theorem ok_stop (T : Txt K mg a) (U : Txt2 K mg a b) : Ok P w K mg base CX0 3 b.astop ["part"] (spPart a.CP fun x => .bl (!x.tubesOk)) := by
  obtain ⟨fd, F⟩ := U.dStop
  obtain ⟨fdP, GP, bP⟩ := ok_pTube (P := P) (w := w) (base := base) T U
  refine ⟨fd, F.ok scstop (fun vs H Q E h => ?_) (fun cdv A outer s H vs Q E hr h => ⟨_,
    pss_one (ps_ret (pe_callB (cr_any rfl) (by rfl) U.any (by decide +kernel) (pa_cons (pe_lc (own := [("x", 1), ("y", 2), ("z", 3)]) (g := gTup K 3 (gCons (gName 1) (gCons (gName 2) (gCons (gName 3) gNil)))) (tt := tYes)
        (te := tDIn (tTup (tCons (tVar 1) (tCons (tVar 2) (tCons (tOp (rI0 fun i j => .int (i - j)) (tVar 3) (tC (.int 1))) tNil)))) (tFld K (tVar 0) "cells")) rfl scstop.nd (pi_list (pe_meth0 (pv 0) T.clP U.mPt GP hr bP .nil pass0))
      (blkOk_by (own := [("x", 1), ("y", 2), ("z", 3)]) (N := ["part", "x", "y", "z"]) (sc := defScope s_a_tube_is_stopped) (by decide +kernel))
      (fun _ _ _ _ _ => pg_tup rfl (pgs_cons (pg_name (i := 1) scstop.nd rfl (Or.inl rfl)) (pgs_cons (pg_name (i := 2) scstop.nd rfl (Or.inl rfl)) (pgs_cons (pg_name (i := 3) scstop.nd rfl (Or.inl rfl)) pgs_nil)))) (fun _ _ _ _ _ => pts_nil)
      (fun _ _ _ _ _ => by exact (pe_cmp (pc_din (hu_of hr) (pe_tup (by exact (pa_cons (pv 1) (pa_cons (pv 2) (pa_cons (pe_op op_sub (pv 3) pe_int) pa_nil))))) (pe_fld (pv 0) rfl)) rfl))) pa_nil))), ?_⟩),
    F.binds fun _ _ _ _ _ _ us hl => match us, hl with | [_], _ => rfl⟩
  · obtain ⟨pp, x, rfl, _⟩ := h
    rfl
  · obtain ⟨pp, x, rfl, ⟨dp, nl, c, hp, hn, hc⟩, G, h⟩ := h
    have hany := tubes_any G
    refine ⟨_, rfl, pp, dp, _, rfl, hp, pF_no (by decide +kernel) (by decide +kernel) (by decide +kernel) (by decide +kernel) (by decide +kernel) (by decide +kernel), pp, x, rfl, ⟨dp, nl, c, hp, hn, hc⟩, G, fun l bs H1 s1 hl1 k1 => ?_⟩
    refine ⟨l, rfl, ⟨_, SqL.of hl1⟩, fun D hD => ?_⟩
    have oldD : ∀ d o, H1 d = some o → d ≠ D := fun d o e z => by rw [← z, e] at hD; cases hD
    have lenL : (x.such Place.tube).length ≤ 4608 := by
      rw [such_eq G]
      unfold such
      rw [List.length_map]
      refine Nat.le_trans (List.length_filter_le ..) ?_
      rw [List.length_zipIdx, G.len]
      exact Nat.mul_le_mul G.h2 (Nat.mul_le_mul G.d2 G.w2)
    have lenB : bs.length = (x.such Place.tube).length := by rw [k1.len, List.length_map]
    refine lc_list (K := K) (a := l) (xs := bs.map V.ref) (fun i H' => Same H1 H' ∧ H' D = some (.lst ((((x.such Place.tube).take i).map fun c => decide (dnT c ∈ x.cells.map cI)).map V.bl))) ⟨same_new hD, upd_same⟩ (fun i H' _ p => p.1.seq (SqL.of hl1)) ?_ ?_
    · rintro i y H2 hi ⟨s2, h2⟩
      rw [List.getElem?_map] at hi
      obtain ⟨q, hq, ey⟩ := Option.map_eq_some_iff.mp hi
      subst ey
      obtain ⟨k, hk, hqk⟩ := k1.get hq
      rw [List.getElem?_map] at hk
      obtain ⟨u, hu, ek⟩ := Option.map_eq_some_iff.mp hk
      subst ek
      refine ⟨q, _, rfl, .inl (.inl (s2 _ _ hqk)), rfl, _, _, rfl, _, _, rfl, _, _, rfl, rfl, ?_⟩
      refine ⟨rfl, _, rfl, _, rfl, _, rfl, _, _, rfl, rfl, (by show 3 ≤ sizeLine; decide), fun t0 ht0 => ?_⟩
      have s3 : Same H2 _ := same_new (o := .tup [.int (u.1 : Int), .int (u.2.1 : Int), .int ((u.2.2 : Int) - 1)]) ht0
      refine ⟨_, rfl, pp, _, dp, _, _, rfl, s3 _ _ (s2 _ _ (s1 _ _ hp)), T.clP, T.nCells, pF_cells, c, _, rfl, .inr ⟨_, key (dnT u), t0, .inl (s3 _ _ (s2 _ _ (s1 _ _ hc))), rfl, upd_same, rfl⟩, _, s3 _ _ h2, ?_, ?_, ?_⟩
      · rw [List.length_map, List.length_map, List.length_take]
        exact small4 (by omega)
      · intro d o e
        rw [upd_ne (oldD d o e)]
        exact s3 _ _ (s2 _ _ e)
      · rw [get_cell G, take_more hu, List.map_append, List.map_append]
        exact upd_same
    · rintro H2 ⟨s2, h2⟩
      rw [List.length_map, lenB, List.take_length] at h2
      refine ⟨D, _, rfl, SqL.of h2, ?_⟩
      rw [hany]
      exact h H2 (s1.trans s2)
/-! ### spans, reaches_all_sides -/
theorem inV_int (i : Int) : ∀ ns : List Int, inV (.int i) (ns.map V.int) = decide (i ∈ ns)
  | [] => rfl
  | n :: ns => by
    have ih := inV_int i ns
    unfold inV at ih ⊢
    rw [List.map_cons, List.any_cons, ih]
    show ((n == i) || decide (i ∈ ns)) = _
    by_cases z : n = i
    · subst z
      rw [beq_self_eq_true, decide_eq_true (List.mem_cons_self ..)]
      rfl
    · rw [beq_eq_false_iff_ne.mpr z, Bool.false_or]
      exact decide_eq_decide.mpr ⟨fun h => List.mem_cons_of_mem _ h, fun h => (List.mem_cons.mp h).resolve_left (Ne.symm z)⟩
theorem flat_ints : ∀ ns : List Int, (ns.map V.int).all flatV = true
  | [] => rfl
  | n :: ns => by
    rw [List.map_cons, List.all_cons, flat_ints ns]
    rfl
def spanB (ns : List Int) (n : Int) : Bool := decide (0 ∈ ns) && decide (n - 1 ∈ ns)
def spSpans (K : PySem.W.Frag) : Sp := fun vs H Q _ => ∃ (l : Addr) (ns : List Int) (n : Int), vs = [.ref l, .int n] ∧ SqL K H l (ns.map V.int) ∧ Q (.bl (spanB ns n)) H
theorem scSpans : FnScope ["steps", "length"] ["steps", "length"] (defScope s_spans) := ⟨rfl, rfl, rfl, by decide +kernel, rfl, by decide +kernel, by decide +kernel⟩
theorem ok_spans (U : Txt2 K mg a b) : Ok P w K mg base CX0 1 b.spans ["steps", "length"] (spSpans K) := by
  obtain ⟨fd, F⟩ := U.dSpans
  refine ⟨fd, F.ok scSpans (fun vs H Q E h => ?_) (fun cdv A outer s H vs Q E hr h => ⟨_,
    pss_one (ps_ret (pe_and (pe_cmpR op_in_seq pe_int (pv 0) (by rfl)) (pe_one (pe_cmpR op_in_seq (pe_op op_sub (pv 1) pe_int) (pv 0) (by rfl))))), ?_⟩),
    F.binds fun _ _ _ _ _ _ us hl => match us, hl with | [_, _], _ => rfl⟩
  · obtain ⟨l, ns, n, rfl, _⟩ := h
    rfl
  · obtain ⟨l, ns, n, rfl, hl, h⟩ := h
    unfold spanB at h
    refine ⟨_, rfl, l, _, rfl, .inl hl, rfl, flat_ints ns, _, rfl, ?_⟩
    rw [if_neg Bool.false_ne_true, inV_int]
    cases c : decide ((0 : Int) ∈ ns) with
    | true =>
      rw [c, Bool.true_and] at h
      refine iteT ⟨_, rfl, _, _, rfl, rfl, _, rfl, l, _, rfl, .inl hl, rfl, flat_ints ns, ?_⟩
      rw [if_neg Bool.false_ne_true, inV_int]
      exact h
    | false =>
      rw [c, Bool.false_and] at h
      exact iteF h
/-- [place[j] for place in part.cells] -/
theorem col_read {pp : Addr} {x : Part} {v : Option V} {j : Int} (pr : Tri → Int) (hj : ∀ t : Tri, atI ((key t).map kV) j = some (.int (pr t))) (T : Txt K mg a) (G : Good x) {H : Hp} {Q : VK} (hp : IsPart a.CP H pp x)
    (h : ∀ l H', Same H H' → H' l = some (.lst ((x.cells.map fun c => pr (cI c)).map V.int)) → Q (.ref l) H') :
    tLockE (tLc (iKeys (tFld K (tVar 0) "cells")) (gName 1) tYes (tOp (rIxT K) (tVar 1) (tC (.int j))) [1]) [some (.ref pp), v] H Q := by
  obtain ⟨dp, nl, c, hp, hn, hc⟩ := hp
  have pc : pp ≠ c := ne_of hp hc (by intro z; cases z)
  have hlen := cells_small G
  have hks := keys_all G
  generalize cellsOf x.wide x.deep x.places = kvs at hc hlen hks
  refine ⟨c, .dT kvs, hc, True.intro, fun od => ?_⟩
  have hpL : upd H c (.frz od (.dT kvs)) pp = some (.ins a.CP dp (pF nl x.wide x.deep x.high x.weight c)) := by rw [upd_ne pc]; exact hp
  refine ⟨_, rfl, pp, _, dp, _, _, rfl, hpL, T.clP, T.nCells, pF_cells, c, od, rfl, .inr ⟨kvs, upd_same, fun D hD => ?_⟩⟩
  have Dc : D ≠ c := fun z => by rw [z, upd_same] at hD; cases hD
  have oldD : ∀ d o, H d = some o → d ≠ D := fun d o e z => by
    by_cases q : d = c
    · exact Dc (z ▸ q)
    · rw [← z, upd_ne q, e] at hD
      cases hD
  have lenC : kvs.length = x.cells.length := by
    have := congrArg List.length hks
    rw [List.length_map, List.length_map] at this
    exact this
  refine lc_keys (fun i H' => H' c = some (.frz od (.dT kvs)) ∧ (∀ d o, H d = some o → d ≠ c → H' d = some o) ∧ H' D = some (.lst (((x.cells.take i).map fun c => pr (cI c)).map V.int)))
    ⟨by rw [upd_ne (Ne.symm Dc)]; exact upd_same, fun d o e n => by rw [upd_ne (oldD d o e), upd_ne n]; exact e, upd_same⟩ (fun i H' _ p => p.1) ?_ ?_
  · rintro i k v1 q H1 hi hq ⟨p1, p2, p3⟩
    have hk : (kvs.map (·.1))[i]? = some k := by rw [List.getElem?_map, hi]; rfl
    rw [hks, List.getElem?_map] at hk
    obtain ⟨u, hu, ek⟩ := Option.map_eq_some_iff.mp hk
    subst ek
    refine ⟨rfl, _, rfl, q, _, j, _, rfl, rfl, .inl (.inl hq), hj _, _, p3, ?_, ?_, ?_, ?_⟩
    · have := (List.getElem?_eq_some_iff.mp hi).1
      rw [List.length_map, List.length_map, List.length_take]
      exact small4 (by omega)
    · rw [upd_ne (Ne.symm Dc)]
      exact p1
    · intro d o e n2
      rw [upd_ne (oldD d o e)]
      exact p2 d o e n2
    · rw [take_more hu, List.map_append, List.map_append]
      exact upd_same
  · rintro H1 ⟨p1, p2, p3⟩
    rw [lenC, List.take_length] at p3
    refine ⟨p1, h D _ (fun d o e => ?_) ?_⟩
    · by_cases q : d = c
      · subst q
        rw [hc] at e
        cases e
        exact upd_same
      · rw [upd_ne q]
        exact p2 d o e q
    · rw [upd_ne Dc]
      exact p3
theorem span_any {x : Part} (pr : Tri → Int) (pn : C3 → Nat) (h : ∀ c, pr (cI c) = (pn c : Int)) (n : Nat) : spanB (x.cells.map fun c => pr (cI c)) (n : Int) = ((x.cells.any fun s => pn s == 0) && (x.cells.any fun s => pn s + 1 == n)) := by
  unfold spanB
  congr 1
  · cases c : (x.cells.any fun s => pn s == 0) with
    | true =>
      obtain ⟨u, hu, e⟩ := List.any_eq_true.mp c
      refine decide_eq_true (List.mem_map.mpr ⟨u, hu, ?_⟩)
      rw [h]
      have := beq_iff_eq.mp e
      omega
    | false =>
      refine decide_eq_false fun z => ?_
      obtain ⟨u, hu, e⟩ := List.mem_map.mp z
      rw [h] at e
      have c2 : (x.cells.any fun s => pn s == 0) = true := List.any_eq_true.mpr ⟨u, hu, beq_iff_eq.mpr (by omega)⟩
      rw [c2] at c
      cases c
  · cases c : (x.cells.any fun s => pn s + 1 == n) with
    | true =>
      obtain ⟨u, hu, e⟩ := List.any_eq_true.mp c
      refine decide_eq_true (List.mem_map.mpr ⟨u, hu, ?_⟩)
      rw [h]
      have := beq_iff_eq.mp e
      omega
    | false =>
      refine decide_eq_false fun z => ?_
      obtain ⟨u, hu, e⟩ := List.mem_map.mp z
      rw [h] at e
      have c2 : (x.cells.any fun s => pn s + 1 == n) = true := List.any_eq_true.mpr ⟨u, hu, beq_iff_eq.mpr (by omega)⟩
      rw [c2] at c
      cases c
theorem tight_eq (x : Part) : x.tight = (spanB (x.cells.map fun c => (cI c).1) (x.wide : Nat) && (spanB (x.cells.map fun c => (cI c).2.1) (x.deep : Nat) && spanB (x.cells.map fun c => (cI c).2.2) (x.high : Nat))) := by
  rw [span_any (fun t => t.1) (fun c => c.1) (fun _ => rfl), span_any (fun t => t.2.1) (fun c => c.2.1) (fun _ => rfl), span_any (fun t => t.2.2) (fun c => c.2.2) (fun _ => rfl)]
  unfold Part.tight
  simp only [Bool.and_assoc]
theorem scSides : FnScope ["part", "place"] ["part"] (defScope s_reaches_all_sides) := ⟨rfl, rfl, rfl, by decide +kernel, rfl, by decide +kernel, by decide +kernel⟩
theorem ok_sides (T : Txt K mg a) (U : Txt2 K mg a b) : Ok P w K mg base CX0 2 b.sides ["part"] (spPart a.CP fun x => .bl x.tight) := by
  obtain ⟨fd, F⟩ := U.dSides
  obtain ⟨fdS, GS, bS⟩ := ok_spans (P := P) (w := w) (base := base) U
  refine ⟨fd, F.ok scSides (fun vs H Q E h => ?_) (fun cdv A outer s H vs Q E hr h => ⟨_,
    pss_one (ps_ret (pe_and (pe_call GS hr rfl U.gSpans U.kSpans bS .nil pass0 (pa_cons (pe_lock (pe_lc (own := [("place", 1)]) (g := gName 1) (tt := tYes) (te := tOp (rIxT K) (tVar 1) (tC (.int 0))) rfl scSides.nd (pi_keys (pe_fld (pv 0) rfl))
        (blkOk_by (own := [("place", 1)]) (N := ["part", "place"]) (sc := defScope s_reaches_all_sides) (by decide +kernel)) (fun _ _ _ _ _ => pg_name (i := 1) scSides.nd rfl (Or.inl rfl)) (fun _ _ _ _ _ => pts_nil) (fun _ _ _ _ _ => by exact (pe_ix ix_tup (pv 1) pe_int (fun _ _ => rfl))))) (pa_cons (pe_fld (pv 0) rfl) pa_nil)))
      (pe_and (pe_call GS hr rfl U.gSpans U.kSpans bS .nil pass0 (pa_cons (pe_lock (pe_lc (own := [("place", 1)]) (g := gName 1) (tt := tYes) (te := tOp (rIxT K) (tVar 1) (tC (.int 1))) rfl scSides.nd (pi_keys (pe_fld (pv 0) rfl))
        (blkOk_by (own := [("place", 1)]) (N := ["part", "place"]) (sc := defScope s_reaches_all_sides) (by decide +kernel)) (fun _ _ _ _ _ => pg_name (i := 1) scSides.nd rfl (Or.inl rfl)) (fun _ _ _ _ _ => pts_nil) (fun _ _ _ _ _ => by exact (pe_ix ix_tup (pv 1) pe_int (fun _ _ => rfl))))) (pa_cons (pe_fld (pv 0) rfl) pa_nil)))
      (pe_one (pe_call GS hr rfl U.gSpans U.kSpans bS .nil pass0 (pa_cons (pe_lock (pe_lc (own := [("place", 1)]) (g := gName 1) (tt := tYes) (te := tOp (rIxT K) (tVar 1) (tC (.int 2))) rfl scSides.nd (pi_keys (pe_fld (pv 0) rfl))
        (blkOk_by (own := [("place", 1)]) (N := ["part", "place"]) (sc := defScope s_reaches_all_sides) (by decide +kernel)) (fun _ _ _ _ _ => pg_name (i := 1) scSides.nd rfl (Or.inl rfl)) (fun _ _ _ _ _ => pts_nil) (fun _ _ _ _ _ => by exact (pe_ix ix_tup (pv 1) pe_int (fun _ _ => rfl))))) (pa_cons (pe_fld (pv 0) rfl) pa_nil))))))), ?_⟩),
    F.binds fun _ _ _ _ _ _ us hl => match us, hl with | [_], _ => rfl⟩
  · obtain ⟨pp, x, rfl, _⟩ := h
    rfl
  · obtain ⟨pp, x, rfl, A1, G, h⟩ := h
    dsimp only at h
    rw [tight_eq] at h
    unfold tRet tAndV tCall tCons
    refine col_read (j := 0) (fun t => t.1) (fun t => rfl) T G A1 fun l1 H1 s1 hl1 => ?_
    obtain ⟨d1, n1, c1, hp1, hn1, hc1⟩ := A1.same s1
    refine ⟨_, rfl, pp, _, d1, _, _, rfl, hp1, T.clP, T.nWidth, pF_width, l1, _, _, rfl, SqL.of hl1, _, rfl, ?_⟩
    cases q1 : spanB (x.cells.map fun c => (cI c).1) (x.wide : Nat) with
    | false =>
      rw [q1, Bool.false_and] at h
      exact iteF (h H1 s1)
    | true =>
      rw [q1, Bool.true_and] at h
      refine iteT ?_
      refine col_read (j := 1) (fun t => t.2.1) (fun t => rfl) T G (A1.same s1) fun l2 H2 s2 hl2 => ?_
      obtain ⟨d2, n2, c2, hp2, hn2, hc2⟩ := (A1.same s1).same s2
      refine ⟨_, rfl, pp, _, d2, _, _, rfl, hp2, T.clP, T.nDepth, pF_depth, l2, _, _, rfl, SqL.of hl2, _, rfl, ?_⟩
      cases q2 : spanB (x.cells.map fun c => (cI c).2.1) (x.deep : Nat) with
      | false =>
        rw [q2, Bool.false_and] at h
        exact iteF (h H2 (s1.trans s2))
      | true =>
        rw [q2, Bool.true_and] at h
        refine iteT ?_
        refine col_read (j := 2) (fun t => t.2.2) (fun t => rfl) T G ((A1.same s1).same s2) fun l3 H3 s3 hl3 => ?_
        obtain ⟨d3, n3, c3, hp3, hn3, hc3⟩ := ((A1.same s1).same s2).same s3
        exact ⟨_, rfl, pp, _, d3, _, _, rfl, hp3, T.clP, T.nHeight, pF_height, l3, _, _, rfl, SqL.of hl3, h H3 ((s1.trans s2).trans s3)⟩
end
end St
set_option Elab.async false
set_option linter.all false
set_option maxRecDepth 100000
set_option maxHeartbeats 4000000
namespace St
open PySem PySem.Spec PyProof.Rows L2 PySem.Jx RdM BrPart BrRead Geo
/-! ### the search's words -/
theorem nd1 (x : Tri) : [x].Nodup := List.nodup_cons.mpr ⟨List.not_mem_nil, List.nodup_nil⟩
structure DInv (cs : List Tri) (s0 : Tri) (R Wt : List Tri) (ok : Tri → Prop) : Prop where
  nd : R.Nodup
  sub : ∀ t ∈ R, t ∈ cs
  st : s0 ∈ R
  rch : ∀ t ∈ R, Geo.Reach cs s0 t
  wr : ∀ t ∈ Wt, t ∈ R
  cl : ∀ t ∈ R, t ∈ Wt ∨ ok t ∨ ∀ n ∈ nbs t, n ∈ cs → n ∈ R
theorem DInv.le {cs R Wt : List Tri} {st : Tri} {ok : Tri → Prop} (I : DInv cs st R Wt ok) : R.length ≤ cs.length := length_le_of_sub I.nd I.sub
theorem DInv.pop {cs R Wt : List Tri} {st p : Tri} (I : DInv cs st R (Wt ++ [p]) fun _ => False) : DInv cs st R Wt fun t => t = p :=
  ⟨I.nd, I.sub, I.st, I.rch, fun t h => I.wr t (List.mem_append_left _ h), fun t h => by
    rcases I.cl t h with h1 | h1 | h1
    · rcases List.mem_append.mp h1 with h2 | h2
      · exact .inl h2
      · exact .inr (.inl (List.mem_singleton.mp h2))
    · exact h1.elim
    · exact .inr (.inr h1)⟩
theorem DInv.add {cs R Wt : List Tri} {st p n : Tri} (I : DInv cs st R Wt fun t => t = p) (hp : p ∈ R) (hn : n ∈ nbs p) (hc : n ∈ cs) (hr : n ∉ R) : DInv cs st (R ++ [n]) (Wt ++ [n]) fun t => t = p := by
  refine ⟨List.nodup_append.mpr ⟨I.nd, nd1 _, fun x hx y hy => ?_⟩, fun t h => ?_, List.mem_append_left _ I.st, fun t h => ?_, fun t h => ?_, fun t h => ?_⟩
  · rw [List.mem_singleton.mp hy]
    exact fun z => hr (z ▸ hx)
  · rcases List.mem_append.mp h with h | h
    · exact I.sub t h
    · rw [List.mem_singleton.mp h]
      exact hc
  · rcases List.mem_append.mp h with h | h
    · exact I.rch t h
    · rw [List.mem_singleton.mp h]
      exact .step (I.rch p hp) hn hc
  · rcases List.mem_append.mp h with h | h
    · exact List.mem_append_left _ (I.wr t h)
    · exact List.mem_append_right _ h
  · rcases List.mem_append.mp h with h | h
    · rcases I.cl t h with h1 | h1 | h1
      · exact .inl (List.mem_append_left _ h1)
      · exact .inr (.inl h1)
      · exact .inr (.inr fun m hm hmc => List.mem_append_left _ (h1 m hm hmc))
    · exact .inl (List.mem_append_right _ h)
theorem DInv.shut {cs R Wt : List Tri} {st p : Tri} (I : DInv cs st R Wt fun t => t = p) (h : ∀ n ∈ nbs p, n ∈ cs → n ∈ R) : DInv cs st R Wt fun _ => False :=
  ⟨I.nd, I.sub, I.st, I.rch, I.wr, fun t ht => by
    rcases I.cl t ht with h1 | h1 | h1
    · exact .inl h1
    · subst h1
      exact .inr (.inr h)
    · exact .inr (.inr h1)⟩
theorem DInv.done {cs R : List Tri} {st : Tri} (I : DInv cs st R [] fun _ => False) : ∀ t, Geo.Reach cs st t → t ∈ R := fun t h => by
  induction h with
  | base => exact I.st
  | step _ h2 h3 ih =>
    rcases I.cl _ ih with h | h | h
    · cases h
    · exact h.elim
    · exact h _ h2 h3
theorem DInv.more {cs R : List Tri} {st n : Tri} {Wt : List Tri} {ok : Tri → Prop} (I : DInv cs st R Wt ok) (hc : n ∈ cs) (hr : n ∉ R) : R.length + 1 ≤ cs.length := by
  have h := length_le_of_sub (l := n :: R) (m := cs) (List.nodup_cons.mpr ⟨hr, I.nd⟩) fun t ht => by
    rcases List.mem_cons.mp ht with e | ht
    · rw [e]
      exact hc
    · exact I.sub t ht
  exact h
theorem whole_len {x : Part} (G : Good x) {c : C3} {r : List C3} (h : x.cells = c :: r) {R : List Tri} (h1 : R.Nodup) (h2 : ∀ t ∈ R, t ∈ x.cells.map cI) (h3 : ∀ t ∈ x.cells.map cI, t ∈ R ↔ Geo.Reach (x.cells.map cI) (cI c) t) :
    (R.length == x.cells.length) = x.whole := by
  have hn := nodup_cells G
  have hnc : (x.cells.map cI).Nodup := List.Pairwise.map _ (fun a b q z => q (cI_inj z)) hn
  have hw := whole_iff x h hn
  have l1 := length_le_of_sub h1 h2
  rw [List.length_map] at l1
  cases q : x.whole with
  | true =>
    have hall := hw.mp q
    have l2 := length_le_of_sub hnc fun t ht => (h3 t ht).mpr (hall t ht)
    rw [List.length_map] at l2
    exact beq_iff_eq.mpr (by omega)
  | false =>
    refine beq_eq_false_iff_ne.mpr fun z => ?_
    have hall : ∀ t ∈ x.cells.map cI, Geo.Reach (x.cells.map cI) (cI c) t := fun t ht => by
      refine Classical.byContradiction fun hnr => ?_
      have hnR : t ∉ R := fun m => hnr ((h3 t ht).mp m)
      have l3 := length_le_of_sub (l := t :: R) (m := x.cells.map cI) (List.nodup_cons.mpr ⟨hnR, h1⟩) fun u hu => by
        rcases List.mem_cons.mp hu with e | hu
        · rw [e]
          exact ht
        · exact h2 u hu
      rw [List.length_cons, List.length_map] at l3
      omega
    rw [hw.mpr hall] at q
    cases q
section
variable {P : Program} {w : World} {K : PySem.W.Frag} {mg : Str → Option Value} {base : Heap} {a : Ad} {b : Ad2}
/-! ### beside -/
def spBeside : Sp := fun vs H Q _ => ∃ t : Tri, vs = [.int t.1, .int t.2.1, .int t.2.2] ∧ ∀ l bs H', H l = none → Same H H' → H' l = some (.lst (bs.map V.ref)) → KeysAt H' bs ((nbs t).map key) → Q (.ref l) H'
theorem scBesd : FnScope ["x", "y", "z"] ["x", "y", "z"] (defScope s_beside) := ⟨rfl, rfl, rfl, by decide +kernel, rfl, by decide +kernel, by decide +kernel⟩
theorem ok_besd (U : Txt2 K mg a b) : Ok P w K mg base CX0 1 b.besd ["x", "y", "z"] spBeside := by
  obtain ⟨fd, F⟩ := U.dBesd
  refine ⟨fd, F.ok scBesd (fun vs H Q E h => ?_) (fun cdv A outer s H vs Q E hr h => ⟨_,
    pss_one (ps_ret (pe_lst (pa_cons (pe_tup (pa_cons (pe_op op_sub (pv 0) pe_int) (pa_cons (pv 1) (pa_cons (pv 2) pa_nil))))
      (pa_cons (pe_tup (pa_cons (pe_op op_add (pv 0) pe_int) (pa_cons (pv 1) (pa_cons (pv 2) pa_nil))))
      (pa_cons (pe_tup (pa_cons (pv 0) (pa_cons (pe_op op_sub (pv 1) pe_int) (pa_cons (pv 2) pa_nil))))
      (pa_cons (pe_tup (pa_cons (pv 0) (pa_cons (pe_op op_add (pv 1) pe_int) (pa_cons (pv 2) pa_nil))))
      (pa_cons (pe_tup (pa_cons (pv 0) (pa_cons (pv 1) (pa_cons (pe_op op_sub (pv 2) pe_int) pa_nil))))
      (pa_cons (pe_tup (pa_cons (pv 0) (pa_cons (pv 1) (pa_cons (pe_op op_add (pv 2) pe_int) pa_nil)))) pa_nil)))))))), ?_⟩),
    F.binds fun _ _ _ _ _ _ us hl => match us, hl with | [_, _, _], _ => rfl⟩
  · obtain ⟨t, rfl, _⟩ := h
    rfl
  · obtain ⟨⟨x, y, z⟩, rfl, h⟩ := h
    have s3 : 3 ≤ sizeLine := by decide
    refine ⟨_, rfl, _, _, rfl, rfl, _, rfl, _, rfl, s3, fun b1 n1 => ?_⟩
    refine ⟨_, rfl, _, _, rfl, rfl, _, rfl, _, rfl, s3, fun b2 n2 => ?_⟩
    refine ⟨_, rfl, _, rfl, _, _, rfl, rfl, _, rfl, s3, fun b3 n3 => ?_⟩
    refine ⟨_, rfl, _, rfl, _, _, rfl, rfl, _, rfl, s3, fun b4 n4 => ?_⟩
    refine ⟨_, rfl, _, rfl, _, rfl, _, _, rfl, rfl, s3, fun b5 n5 => ?_⟩
    refine ⟨_, rfl, _, rfl, _, rfl, _, _, rfl, rfl, s3, fun b6 n6 => ?_⟩
    refine ⟨(by show 6 ≤ sizeLine; decide), fun l nl => ?_⟩
    have t1 := same_new (o := .tup [.int (x - 1), .int y, .int z]) n1
    have t2 := same_new (o := .tup [.int (x + 1), .int y, .int z]) n2
    have t3 := same_new (o := .tup [.int x, .int (y - 1), .int z]) n3
    have t4 := same_new (o := .tup [.int x, .int (y + 1), .int z]) n4
    have t5 := same_new (o := .tup [.int x, .int y, .int (z - 1)]) n5
    have t6 := same_new (o := .tup [.int x, .int y, .int (z + 1)]) n6
    have t7 := same_new (o := .lst [.ref b1, .ref b2, .ref b3, .ref b4, .ref b5, .ref b6]) nl
    refine h l [b1, b2, b3, b4, b5, b6] _ (t1.free (t2.free (t3.free (t4.free (t5.free (t6.free nl)))))) (t1.trans (t2.trans (t3.trans (t4.trans (t5.trans (t6.trans t7)))))) upd_same ?_
    exact .cons (t7 _ _ (t6 _ _ (t5 _ _ (t4 _ _ (t3 _ _ (t2 _ _ upd_same)))))) (.cons (t7 _ _ (t6 _ _ (t5 _ _ (t4 _ _ (t3 _ _ upd_same))))) (.cons (t7 _ _ (t6 _ _ (t5 _ _ (t4 _ _ upd_same))))
      (.cons (t7 _ _ (t6 _ _ (t5 _ _ upd_same))) (.cons (t7 _ _ (t6 _ _ upd_same)) (.cons (t7 _ _ upd_same) .nil)))))
/-! ### reached_from -/
def reachD (R : List Tri) : List (List Key × V) := R.map fun t => (key t, V.bl true)
theorem reachD_keys (R : List Tri) : (reachD R).map (·.1) = R.map key := by
  unfold reachD
  rw [List.map_map]
  rfl
theorem reachD_get (R : List Tri) (n : Tri) : (valV (reachD R) (key n)).isSome = decide (n ∈ R) := by
  by_cases h : n ∈ R
  · rw [decide_eq_true h]
    cases q : valV (reachD R) (key n) with
    | some v => rfl
    | none =>
      refine absurd ?_ (valV_not q)
      rw [reachD_keys]
      exact List.mem_map_of_mem h
  · rw [decide_eq_false h]
    cases q : valV (reachD R) (key n) with
    | none => rfl
    | some v =>
      have hm := valV_in q
      rw [reachD_keys] at hm
      obtain ⟨u, hu, e⟩ := List.mem_map.mp hm
      rw [← key_inj e] at h
      exact absurd hu h
theorem reachD_put {R : List Tri} {n : Tri} (h : n ∉ R) : putK (reachD R) (key n) (.bl true) = reachD (R ++ [n]) := by
  have e : valV (reachD R) (key n) = none := by
    have := reachD_get R n
    rw [decide_eq_false h] at this
    cases q : valV (reachD R) (key n) with
    | none => rfl
    | some v => rw [q] at this; cases this
  rw [putK_new _ e]
  unfold reachD
  rw [List.map_append]
  rfl
theorem KeysAt.last {H : Hp} {ws : List Addr} {ks : List (List Key)} (h : KeysAt H ws ks) (hn : ws ≠ []) : ∃ ws' q ks' k, ws = ws' ++ [q] ∧ ks = ks' ++ [k] ∧ KeysAt H ws' ks' ∧ H q = some (.tup (k.map kV)) := by
  unfold KeysAt at h
  induction h with
  | nil => exact absurd rfl hn
  | @cons x y xs ys h1 t ih =>
    cases t with
    | nil => exact ⟨[], x, [], y, rfl, rfl, .nil, h1⟩
    | @cons x2 y2 xs2 ys2 h2 t2 =>
      obtain ⟨ws', q, ks', k, e1, e2, h3, h4⟩ := ih (by intro z; cases z)
      exact ⟨x :: ws', q, y :: ks', k, by rw [e1]; rfl, by rw [e2]; rfl, .cons h1 h3, h4⟩
def spReach : Sp := fun vs H Q _ => ∃ (s0 c : Addr) (kvs : List (List Key × V)) (cs : List Tri) (st : Tri), vs = [.ref s0, .ref c] ∧ H s0 = some (.tup ((key st).map kV)) ∧ H c = some (.dT kvs) ∧ (∀ t, (valV kvs (key t)).isSome = decide (t ∈ cs)) ∧ cs.length ≤ 4608 ∧ st ∈ cs ∧
  ∀ rl H' R, Same H H' → H' rl = some (.dT (reachD R)) → R.Nodup → (∀ t ∈ R, t ∈ cs) → (∀ t ∈ cs, t ∈ R ↔ Geo.Reach cs st t) → Q (.ref rl) H'
theorem scReach : FnScope ["start", "cells", "reached", "waiting", "place", "near"] ["start", "cells"] (defScope s_reached_from) := ⟨rfl, rfl, rfl, by decide +kernel, rfl, by decide +kernel, by decide +kernel⟩
theorem ok_reach (T : Txt K mg a) (U : Txt2 K mg a b) : Ok P w K mg base CX0 2 b.reach ["start", "cells"] spReach := by
  obtain ⟨fd, F⟩ := U.dReach
  obtain ⟨fdB, GB, bB⟩ := ok_besd (P := P) (w := w) (base := base) U
  refine ⟨fd, F.ok scReach (fun vs H Q E h => ?_) (fun cdv A outer s H vs Q E hr h => ⟨_,
    pss_cons (ps_set (i := 2) scReach.nd rfl (Or.inl rfl) (pe_disp1 (hu_of hr) (pv 0) pe_bl))
    (pss_cons (ps_set (i := 3) scReach.nd rfl (Or.inl rfl) (pe_lst (pa_cons (pv 0) pa_nil)))
    (pss_cons (ps_while PassesOwn.never (pt_cmpR op_gt (pe_callB call_len (by rfl) T.len (by decide +kernel) (pa_cons (pv 3) pa_nil)) pe_int (nomark _))
      (pss_cons (ps_set (i := 4) scReach.nd rfl (Or.inl rfl) (pe_bm0 PySem.F.plainAttrs_list PySem.F.slot_list_pop PySem.F.type_list_pop mt_pop (pv 3)))
      (pss_one (ps_for PassesOwn.never rfl (pi_list (pe_call GB hr rfl U.gBesd U.kBesd bB .nil pass0 (pa_cons (pe_ix ix_tup (pv 4) pe_int (fun _ _ => rfl)) (pa_cons (pe_ix ix_tup (pv 4) pe_int (fun _ _ => rfl)) (pa_cons (pe_ix ix_tup (pv 4) pe_int (fun _ _ => rfl)) pa_nil)))))
        (pg_name (i := 5) scReach.nd rfl (Or.inl rfl))
        (pss_one (ps_if (PW.pt (pw_and (pt_cmp (pc_din (hu_of hr) (pv 5) (pv 1))) (pw_and1 (pt_cmp (pc_dnotin (hu_of hr) (pv 5) (pv 2))))))
          (pss_cons (ps_dput (hu_of hr) (pv 2) (pv 5) pe_bl rfl)
          (pss_one (ps_expr (pe_bm PySem.F.plainAttrs_list PySem.F.slot_list_append PySem.F.type_list_append mt_append (pv 3) (pa_cons (pv 5) pa_nil))))) pss_nil))))))
    (pss_one (ps_ret (pv 2))))), ?_⟩),
    F.binds fun _ _ _ _ _ _ us hl => match us, hl with | [_, _], _ => rfl⟩
  · obtain ⟨s0, c, kvs, cs, st, rfl, _⟩ := h
    rfl
  · obtain ⟨s0, c, kvs, cs, st, rfl, hs0, hc, hk, hlen, hst, h⟩ := h
    intro rl nrl
    have e1 := same_new (o := .dT []) nrl
    refine ⟨_, rfl, upd_same, s0, key st, rfl, e1 _ _ hs0, ?_⟩
    have eq1 : upd (upd H rl (.dT [])) rl (.dT [(key st, V.bl true)]) = upd H rl (.dT (reachD [st])) := upd_upd
    rw [eq1]
    have e2 := same_new (o := .dT (reachD [st])) nrl
    refine ⟨_, rfl, (by show 1 ≤ sizeLine; decide), fun wl nwl => ?_⟩
    have nwl0 : H wl = none := e2.free nwl
    have e3 := same_new (o := .lst [.ref s0]) nwl
    have rw : rl ≠ wl := ne_of_none (show upd H rl (.dT (reachD [st])) rl = some _ from upd_same) nwl
    have small : ∀ n, n ≤ 4608 → n < sizeLine := fun n hn => small4 hn
    refine ⟨fun m σ H' => ∃ (R Wt : List Tri) (ws : List Addr) (v4 v5 : Option V), m = 2 * (cs.length - R.length) + Wt.length ∧ σ = [some (.ref s0), some (.ref c), some (.ref rl), some (.ref wl), v4, v5] ∧ Same H H' ∧ H' rl = some (.dT (reachD R)) ∧
      H' wl = some (.lst (ws.map V.ref)) ∧ KeysAt H' ws (Wt.map key) ∧ Wt.length ≤ R.length ∧ DInv cs st R Wt fun _ => False,
      ⟨_, [st], [st], [s0], none, none, rfl, rfl, e2.trans e3, e3 _ _ upd_same, upd_same, .cons (e3 _ _ (e2 _ _ hs0)) .nil, Nat.le_refl _,
        ⟨nd1 _, fun t ht => by rw [List.mem_singleton.mp ht]; exact hst, List.mem_singleton.mpr rfl, fun t ht => by rw [List.mem_singleton.mp ht]; exact .base, fun t ht => ht, fun t ht => .inl ht⟩⟩, ?_⟩
    rintro m σ H1 ⟨R, Wt, ws, v4, v5, rfl, rfl, s1, h1, h2, k1, wle, I⟩
    have lw : ws.length = Wt.length := by rw [k1.len, List.length_map]
    refine ⟨_, rfl, _, _, rfl, .inl ⟨_, SqL.of h2, rfl⟩, _, _, rfl, rfl, _, rfl, ?_⟩
    rw [List.length_map]
    by_cases cw : (0 : Int) < (ws.length : Int)
    · refine iteT' (decide_eq_true cw) ⟨fun σ' H' => ∃ m', m' < 2 * (cs.length - R.length) + Wt.length ∧ ∃ (R Wt : List Tri) (ws : List Addr) (v4 v5 : Option V), m' = 2 * (cs.length - R.length) + Wt.length ∧ σ' = [some (.ref s0), some (.ref c), some (.ref rl), some (.ref wl), v4, v5] ∧ Same H H' ∧ H' rl = some (.dT (reachD R)) ∧
        H' wl = some (.lst (ws.map V.ref)) ∧ KeysAt H' ws (Wt.map key) ∧ Wt.length ≤ R.length ∧ DInv cs st R Wt fun _ => False, fun _ _ z => z, ?_⟩
      obtain ⟨ws', q, ks', k, ew, ek, k2, hq⟩ := k1.last (by intro z; rw [z] at cw; exact absurd cw (by decide))
      obtain ⟨Wt', p, eW, ekp, eks⟩ : ∃ Wt' p, Wt = Wt' ++ [p] ∧ k = key p ∧ ks' = Wt'.map key := by
        have hne : Wt ≠ [] := by intro z; rw [z] at ek; cases ks' <;> cases ek
        refine ⟨Wt.dropLast, Wt.getLast hne, (List.dropLast_concat_getLast hne).symm, ?_, ?_⟩
        · rw [← List.dropLast_concat_getLast hne, List.map_append] at ek
          exact (List.cons.inj (List.append_inj_right' ek rfl)).1.symm
        · rw [← List.dropLast_concat_getLast hne, List.map_append] at ek
          exact (List.append_inj_left' ek rfl).symm
      subst ew eW ekp eks
      refine ⟨_, rfl, .inl ⟨rfl, _, SqL.of h2⟩, wl, _, .ref q, rfl, rfl, h2, (by rw [List.map_append, List.length_append]; simp), ?_⟩
      rw [List.map_append, List.map_cons, List.map_nil, List.dropLast_concat]
      have hwl : ∀ d o, H d = some o → d ≠ wl := fun d o e => ne_of_none e nwl0
      have q2 : ∀ d l, H1 d = some (.tup l) → upd H1 wl (.lst (ws'.map V.ref)) d = some (.tup l) := fun d l e => by
        rw [upd_ne (ne_of e h2 (by intro z; cases z))]
        exact e
      have sq : SqT K (upd H1 wl (.lst (ws'.map V.ref))) q ((key p).map kV) := .inl (.inl (q2 _ _ hq))
      refine ⟨_, rfl, q, _, _, _, rfl, rfl, sq, rfl, _, rfl, q, _, _, _, rfl, rfl, sq, rfl, _, rfl, q, _, _, _, rfl, rfl, sq, rfl, p, rfl, fun bl bs H2 nb2 s2 hb2 kb2 => ?_⟩
      refine ⟨bl, rfl, ⟨_, SqL.of hb2⟩, for_list (K := K) (a := bl) (xs := bs.map V.ref) (fun i σ H' => ∃ (R2 Wt2 : List Tri) (ws2 : List Addr) (v5 : Option V), 2 * (cs.length - R2.length) + Wt2.length + 1 ≤ 2 * (cs.length - R.length) + (Wt' ++ [p]).length ∧ σ = [some (.ref s0), some (.ref c), some (.ref rl), some (.ref wl), some (.ref q), v5] ∧
        Same H H' ∧ H' rl = some (.dT (reachD R2)) ∧ H' wl = some (.lst (ws2.map V.ref)) ∧ KeysAt H' ws2 (Wt2.map key) ∧ (H' bl = some (.lst (bs.map V.ref)) ∧ KeysAt H' bs ((nbs p).map key)) ∧ Wt2.length ≤ R2.length ∧ p ∈ R2 ∧ DInv cs st R2 Wt2 (fun t => t = p) ∧ ∀ n ∈ (nbs p).take i, n ∈ cs → n ∈ R2)
        ⟨R, Wt', ws', v5, (by rw [List.length_append, List.length_singleton]; omega), rfl, fun d o e => s2 _ _ (by rw [upd_ne (hwl d o e)]; exact s1 d o e), s2 _ _ (by rw [upd_ne rw]; exact h1), s2 _ _ upd_same,
          L2.Paired.mapP k2 (fun z kk hz => s2 _ _ (q2 _ _ hz)), ⟨hb2, kb2⟩, (by rw [List.length_append] at wle; omega), I.wr p (List.mem_append_right _ (List.mem_singleton.mpr rfl)), I.pop, fun n hn => by cases hn⟩ (fun i σ H' _ ⟨_, _, _, _, _, _, _, _, _, _, hb, _⟩ => SqL.of hb.1) ?_ ?_⟩
      · rintro i y σ H3 hi ⟨R2, Wt2, ws2, v5', hm2, rfl, s3, h3, h4, k4, ⟨hb3, kb3⟩, wle2, hp2, I2, hcl⟩
        rw [List.getElem?_map] at hi
        obtain ⟨nq, hnq, ey⟩ := Option.map_eq_some_iff.mp hi
        subst ey
        obtain ⟨kk, hkk, htup⟩ := kb3.get hnq
        rw [List.getElem?_map] at hkk
        obtain ⟨n, hn, ekk⟩ := Option.map_eq_some_iff.mp hkk
        subst ekk
        have hnb : n ∈ nbs p := List.mem_of_getElem? hn
        have tk := take_more hn
        refine ⟨_, rfl, _, rfl, c, _, rfl, .inr ⟨kvs, key n, nq, .inl (s3 _ _ hc), rfl, htup, rfl⟩, _, rfl, ?_⟩
        rw [hk]
        by_cases inC : n ∈ cs
        · refine iteT' (decide_eq_true inC) ⟨_, rfl, _, rfl, rl, _, rfl, .inr ⟨reachD R2, key n, nq, .inl h3, rfl, htup, rfl⟩, _, rfl, ?_⟩
          rw [reachD_get]
          by_cases inR : n ∈ R2
          · refine iteF' (by rw [decide_eq_true inR]; rfl) ?_
            refine ⟨R2, Wt2, ws2, some (.ref nq), hm2, rfl, s3, h3, h4, k4, ⟨hb3, kb3⟩, wle2, hp2, I2, fun u hu huc => ?_⟩
            rw [tk] at hu
            rcases List.mem_append.mp hu with hu | hu
            · exact hcl u hu huc
            · rw [List.mem_singleton.mp hu]
              exact inR
          · refine iteT' (by rw [decide_eq_false inR]; rfl) ?_
            have room := I2.more inC inR
            have lR2 : (reachD R2).length < sizeLine := by
              unfold reachD
              rw [List.length_map]
              exact small _ (by omega)
            refine ⟨_, rfl, _, rfl, rl, _, rfl, DPut.t h3 htup lR2, ?_⟩
            rw [reachD_put inR]
            have neW : wl ≠ rl := Ne.symm rw
            have lws : ws2.length = Wt2.length := by rw [k4.len, List.length_map]
            refine ⟨_, rfl, .inl ⟨rfl, _, SqL.of (show upd H3 rl (.dT (reachD (R2 ++ [n]))) wl = _ by rw [upd_ne neW]; exact h4)⟩, _, rfl, wl, _, .ref nq, rfl, rfl, (by rw [upd_ne neW]; exact h4), (by rw [List.length_map]; exact small _ (by omega)), ?_⟩
            have keep : ∀ d l, H3 d = some (.tup l) → upd (upd H3 rl (.dT (reachD (R2 ++ [n])))) wl (.lst (ws2.map V.ref ++ [.ref nq])) d = some (.tup l) := fun d l e => by
              rw [upd_ne (ne_of e h4 (by intro z; cases z)), upd_ne (ne_of e h3 (by intro z; cases z))]
              exact e
            have bw : bl ≠ wl := Ne.symm (ne_of_none (show upd H1 wl (.lst (ws'.map V.ref)) wl = some _ from upd_same) nb2)
            refine ⟨R2 ++ [n], Wt2 ++ [n], ws2 ++ [nq], some (.ref nq), ?_, rfl, fun d o e => ?_, ?_, ?_, ?_, ⟨?_, ?_⟩, ?_, List.mem_append_left _ hp2, I2.add hp2 hnb inC inR, fun u hu huc => ?_⟩
            · rw [List.length_append, List.length_append, List.length_singleton]
              omega
            · rw [upd_ne (hwl d o e), upd_ne (ne_of_none e nrl)]
              exact s3 d o e
            · rw [upd_ne rw]
              exact upd_same
            · rw [List.map_append]
              exact upd_same
            · rw [List.map_append]
              exact KeysAt.snoc (L2.Paired.mapP k4 fun z kk hz => keep _ _ hz) (keep _ _ htup)
            · rw [upd_ne bw, upd_ne (ne_of hb3 h3 (by intro z; cases z))]
              exact hb3
            · exact L2.Paired.mapP kb3 fun z kk hz => keep _ _ hz
            · rw [List.length_append, List.length_append]
              simp only [List.length_singleton]
              omega
            · rw [tk] at hu
              rcases List.mem_append.mp hu with hu | hu
              · exact List.mem_append_left _ (hcl u hu huc)
              · exact List.mem_append_right _ hu
        · refine iteF' (decide_eq_false inC) (iteF ?_)
          refine ⟨R2, Wt2, ws2, some (.ref nq), hm2, rfl, s3, h3, h4, k4, ⟨hb3, kb3⟩, wle2, hp2, I2, fun u hu huc => ?_⟩
          rw [tk] at hu
          rcases List.mem_append.mp hu with hu | hu
          · exact hcl u hu huc
          · rw [List.mem_singleton.mp hu] at huc
            exact absurd huc inC
      · rintro σ H3 ⟨R2, Wt2, ws2, v5', hm2, rfl, s3, h3, h4, k4, ⟨hb3, kb3⟩, wle2, hp2, I2, hcl⟩
        have lb : (bs.map V.ref).length = (nbs p).length := by rw [List.length_map, kb3.len, List.length_map]
        rw [lb, List.take_length] at hcl
        exact ⟨_, by omega, R2, Wt2, ws2, some (.ref q), v5', rfl, rfl, s3, h3, h4, k4, wle2, I2.shut hcl⟩
    · refine iteF' (decide_eq_false cw) ?_
      have z0 : Wt = [] := List.length_eq_zero_iff.mp (by omega)
      subst z0
      exact ⟨_, rfl, h rl H1 R s1 h1 I.nd I.sub fun t ht => ⟨I.rch t, I.done t⟩⟩
end
end St
set_option Elab.async false
set_option linter.all false
set_option maxRecDepth 100000
set_option maxHeartbeats 4000000
namespace St
open PySem PySem.Spec PyProof.Rows L2 PySem.Jx RdM BrPart BrRead Geo
theorem for_enum {K : PySem.W.Frag} {a : Addr} {xs : List V} {g : TG} {tb : TS} {D : Ends} {σ : L2.St} {H : Hp} (Pv : Nat → L2.St → Hp → Prop) (h0 : Pv 0 σ H) (hl : ∀ i σ H, i ≤ xs.length → Pv i σ H → SqL K H a xs)
    (hs : ∀ i x σ H t, xs[i]? = some x → Pv i σ H → H t = none → g (.ref t) σ (upd H t (.tup [.int (i : Nat), x])) fun σ2 H2 => tb { D with nx := Pv (i + 1), ct := Pv (i + 1), bk := D.nx } σ2 H2) (hd : ∀ σ H, Pv xs.length σ H → D.nx σ H) :
    ∃ W : Nat → Nat → L2.St → Hp → Prop, (∃ m, W 0 m σ H) ∧ ∀ i m σ H, W i m σ H →
      ((Ite K a).stop i H ∧ D.nx σ H) ∨ ((Ite K a).go i H ∧ ∃ N : L2.St → Hp → Prop, (∀ σ' H', N σ' H' → ∃ m', m' < m ∧ W (i + 1) m' σ' H') ∧ ∀ y H', (Ite K a).yld i H y H' → g y σ H' fun σ2 H2 => tb { D with nx := N, ct := N, bk := D.nx } σ2 H2) := by
  refine ⟨fun i m σ H => m = xs.length - i ∧ i ≤ xs.length ∧ Pv i σ H, ⟨_, rfl, Nat.zero_le _, h0⟩, ?_⟩
  rintro i m σ H ⟨rfl, hi, p⟩
  have q := hl i σ H hi p
  by_cases lt : i < xs.length
  · refine .inr ⟨⟨xs, xs[i], q, List.getElem?_eq_getElem lt⟩, Pv (i + 1), fun σ' H' p' => ⟨xs.length - (i + 1), by omega, rfl, lt, p'⟩, fun y H' yl => ?_⟩
    obtain ⟨t, x, e, hn, eh, hx⟩ := yl
    subst e eh
    exact hs i x σ H t (hx xs q) p hn
  · have e : i = xs.length := by omega
    subst e
    exact .inl ⟨⟨xs, q, Nat.le_refl _⟩, hd σ H p⟩
/-! ### what is wrong, as the program tells it -/
def brokenOf (x : Part) : Nat := if x.studsOk = false then 1 else if x.tubesOk = false then 2 else if x.tight = false then 3 else if x.whole = false then 4 else 0
def isNext (ps : List Part) (i : Nat) : Bool := match i with
  | 0 => true
  | j + 1 => before (ps.getD j ⟨[], 0, 0, 0, 0, []⟩).name (ps.getD (j + 1) ⟨[], 0, 0, 0, 0, []⟩).name
def lastOf (ps : List Part) (i : Nat) : Option Bytes := match i with
  | 0 => none
  | j + 1 => some (ps.getD j ⟨[], 0, 0, 0, 0, []⟩).name
theorem getD_at {ps : List Part} {i : Nat} {x : Part} (h : ps[i]? = some x) : ps.getD i ⟨[], 0, 0, 0, 0, []⟩ = x := by
  rw [List.getD_eq_getElem?_getD, h]
  rfl
theorem wrong_broken {x : Part} {l : Option Bytes} (h : 0 < brokenOf x) : x.wrong l = some (brokenOf x) := by
  unfold brokenOf at h ⊢
  unfold Part.wrong
  cases c1 : x.studsOk with
  | false => rfl
  | true =>
    rw [c1] at h
    cases c2 : x.tubesOk with
    | false => rfl
    | true =>
      rw [c2] at h
      cases c3 : x.tight with
      | false => rfl
      | true =>
        rw [c3] at h
        cases c4 : x.whole with
        | false => rfl
        | true =>
          rw [c4] at h
          exact absurd h (by decide)
theorem wrong_last {ps : List Part} {i : Nat} {x : Part} (h : ¬ 0 < brokenOf x) (hx : ps[i]? = some x) : x.wrong (lastOf ps i) = if isNext ps i = true then none else some 5 := by
  have hg := getD_at hx
  unfold brokenOf at h
  unfold Part.wrong
  cases c1 : x.studsOk with
  | false => exact absurd (show 0 < (if x.studsOk = false then 1 else _) by rw [if_pos c1]; decide) h
  | true =>
    rw [c1, if_neg (by decide)] at h
    cases c2 : x.tubesOk with
    | false => exact absurd (show 0 < (if x.tubesOk = false then 2 else _) by rw [if_pos c2]; decide) h
    | true =>
      rw [c2, if_neg (by decide)] at h
      cases c3 : x.tight with
      | false => exact absurd (show 0 < (if x.tight = false then 3 else _) by rw [if_pos c3]; decide) h
      | true =>
        rw [c3, if_neg (by decide)] at h
        cases c4 : x.whole with
        | false => exact absurd (show 0 < (if x.whole = false then 4 else 0) by rw [if_pos c4]; decide) h
        | true =>
          rw [if_neg (by decide), if_neg (by decide), if_neg (by decide), if_neg (by decide)]
          cases i with
          | zero => rfl
          | succ j =>
            show (if before (ps.getD j ⟨[], 0, 0, 0, 0, []⟩).name x.name = true then none else some 5) = if before (ps.getD j ⟨[], 0, 0, 0, 0, []⟩).name (ps.getD (j + 1) ⟨[], 0, 0, 0, 0, []⟩).name = true then none else some 5
            rw [hg]
theorem wrong_from {ps : List Part} {i : Nat} {x : Part} (h : ps[i]? = some x) : wrongFrom i (lastOf ps i) (ps.drop i) = match x.wrong (lastOf ps i) with
    | some k => some (k, i)
    | none => wrongFrom (i + 1) (lastOf ps (i + 1)) (ps.drop (i + 1)) := by
  have hl := (List.getElem?_eq_some_iff.mp h).1
  have he := (List.getElem?_eq_some_iff.mp h).2
  rw [List.drop_eq_getElem_cons hl, he]
  show (match x.wrong (lastOf ps i) with
    | some k => some (k, i)
    | none => wrongFrom (i + 1) (some x.name) (ps.drop (i + 1))) = _
  have e : lastOf ps (i + 1) = some x.name := by
    show some (ps.getD i ⟨[], 0, 0, 0, 0, []⟩).name = _
    rw [getD_at h]
  rw [e]
def bI (B : Bytes) : List Int := B.map fun c => (c.toNat : Int)
theorem bI_V (B : Bytes) : (bI B).map V.int = bytesV B := by
  unfold bI bytesV
  rw [List.map_map]
  rfl
theorem lex_before : ∀ x y : Bytes, HT.lexLt (bI x) (bI y) = before x y
  | [], [] => rfl
  | [], _ :: _ => rfl
  | _ :: _, [] => rfl
  | p :: x, q :: y => by
    have ih := lex_before x y
    show HT.lexLt ((p.toNat : Int) :: bI x) ((q.toNat : Int) :: bI y) = _
    rw [HT.lexLt_cons, ih]
    show _ = (decide (p.toNat < q.toNat) || (p == q && before x y))
    by_cases e : p = q
    · subst e
      rw [if_pos rfl, decide_eq_false (Nat.lt_irrefl _), beq_self_eq_true, Bool.false_or, Bool.true_and]
    · have ne : ¬ ((p.toNat : Int) = (q.toNat : Int)) := fun z => e (UInt8.toNat_inj.mp (Int.ofNat.inj z))
      rw [if_neg ne, beq_eq_false_iff_ne.mpr e, Bool.false_and, Bool.or_false]
      exact decide_eq_decide.mpr (by omega)
section
variable {P : Program} {w : World} {K : PySem.W.Frag} {mg : Str → Option Value} {base : Heap} {a : Ad} {b : Ad2}
/-! ### hangs_together -/
theorem scTogth : FnScope ["part", "start"] ["part"] (defScope s_hangs_together) := ⟨rfl, rfl, rfl, by decide +kernel, rfl, by decide +kernel, by decide +kernel⟩
theorem ok_togth (T : Txt K mg a) (U : Txt2 K mg a b) : Ok P w K mg base CX0 3 b.togth ["part"] (spPart a.CP fun x => .bl x.whole) := by
  obtain ⟨fd, F⟩ := U.dTogth
  obtain ⟨fdR, GR, bR⟩ := ok_reach (P := P) (w := w) (base := base) T U
  refine ⟨fd, F.ok scTogth (fun vs H Q E h => ?_) (fun cdv A outer s H vs Q E hr h => ⟨_,
    pss_cons (ps_if (pt_cmpR op_eq (pe_callB call_len_dT (by rfl) T.len (by decide +kernel) (pa_cons (pe_fld (pv 0) rfl) pa_nil)) pe_int (nomark _)) (pss_one (ps_ret pe_bl)) pss_nil)
    (pss_cons (ps_set (i := 1) scTogth.nd rfl (Or.inl rfl) (pe_ix ix_list (pe_callTy (call_list_dT rfl) rfl U.lst rfl (pa_cons (pe_fld (pv 0) rfl) pa_nil)) pe_int (fun _ _ => rfl)))
    (pss_one (ps_ret (pe_cmpR op_eq (pe_callB call_len_dT (by rfl) T.len (by decide +kernel) (pa_cons (pe_call GR hr rfl U.gReach U.kReach bR .nil pass0 (pa_cons (pv 1) (pa_cons (pe_fld (pv 0) rfl) pa_nil))) pa_nil))
      (pe_callB call_len_dT (by rfl) T.len (by decide +kernel) (pa_cons (pe_fld (pv 0) rfl) pa_nil)) (nomark _))))), ?_⟩),
    F.binds fun _ _ _ _ _ _ us hl => match us, hl with | [_], _ => rfl⟩
  · obtain ⟨pp, x, rfl, _⟩ := h
    rfl
  · obtain ⟨pp, x, rfl, ⟨dp, nl, c, hp, hn, hc⟩, G, h⟩ := h
    dsimp only at h
    have hks := keys_all G
    have hget := get_cell G
    have hlen := cells_small G
    generalize cellsOf x.wide x.deep x.places = kvs at hc hks hget hlen
    have lenC : kvs.length = x.cells.length := by
      have := congrArg List.length hks
      rw [List.length_map, List.length_map] at this
      exact this
    refine ⟨_, rfl, pp, _, dp, _, _, rfl, hp, T.clP, T.nCells, pF_cells, c, kvs, rfl, hc, rfl, _, rfl, ?_⟩
    rw [dec_int, lenC]
    cases hx : x.cells with
    | nil =>
      have e : x.whole = false := by unfold Part.whole; rw [hx]
      rw [e] at h
      exact iteT (h H (fun _ _ z => z))
    | cons c0 rest =>
      refine iteF' (beq_eq_false_iff_ne.mpr (by rw [List.length_cons]; omega)) ?_
      refine ⟨_, rfl, pp, _, dp, _, _, rfl, hp, T.clP, T.nCells, pF_cells, c, kvs, rfl, .inl hc, fun l bs nl2 hk => ?_⟩
      rw [hx] at hks
      obtain ⟨kv0, kvs', ekv⟩ : ∃ k0 ks, kvs = k0 :: ks := by
        cases kvs with
        | nil => cases hks
        | cons k0 ks => exact ⟨k0, ks, rfl⟩
      subst ekv
      unfold IsKeys at hk
      obtain ⟨b0, bs', eb, hb0⟩ : ∃ b0 bs', bs = b0 :: bs' ∧ H b0 = some (.tup (kv0.1.map kV)) := by
        cases hk with
        | cons h1 h2 => exact ⟨_, _, rfl, h1⟩
      subst eb
      have ek : kv0.1 = key (cI c0) := (List.cons.inj hks).1
      rw [ek] at hb0
      have s1 : Same H _ := same_new (o := .lst (V.ref b0 :: bs'.map V.ref)) nl2
      refine ⟨l, _, 0, .ref b0, rfl, rfl, SqL.of upd_same, atI_nat (j := 0) rfl, ?_⟩
      refine ⟨_, rfl, _, rfl, pp, _, dp, _, _, rfl, s1 _ _ hp, T.clP, T.nCells, pF_cells, ?_⟩
      refine ⟨b0, c, _, x.cells.map cI, cI c0, rfl, s1 _ _ hb0, s1 _ _ hc, hget, (by rw [List.length_map, ← lenC]; exact hlen), (by rw [hx]; exact List.mem_map_of_mem (List.mem_cons_self ..)), fun rl H2 R s2 hrl nd sub rch => ?_⟩
      refine ⟨rl, _, rfl, hrl, _, rfl, pp, _, dp, _, _, rfl, s2 _ _ (s1 _ _ hp), T.clP, T.nCells, pF_cells, c, _, rfl, s2 _ _ (s1 _ _ hc), rfl, ?_⟩
      rw [dec_int]
      have e : ((((reachD R).length : Nat) : Int) == ((kv0 :: kvs').length : Nat)) = x.whole := by
        rw [← whole_len G hx nd sub rch, lenC]
        unfold reachD
        rw [List.length_map]
        by_cases z : R.length = x.cells.length
        · rw [z, beq_self_eq_true, beq_self_eq_true]
        · rw [beq_eq_false_iff_ne.mpr z, beq_eq_false_iff_ne.mpr (fun y => z (by omega))]
      rw [e]
      exact h H2 (s1.trans s2)
/-! ### broken_point -/
theorem scBroken : FnScope ["part"] ["part"] (defScope s_broken_point) := ⟨rfl, rfl, rfl, by decide +kernel, rfl, by decide +kernel, by decide +kernel⟩
theorem ok_broken (T : Txt K mg a) (U : Txt2 K mg a b) : Ok P w K mg base CX0 4 b.broken ["part"] (spPart a.CP fun x => .int (brokenOf x : Nat)) := by
  obtain ⟨fd, F⟩ := U.dBroken
  obtain ⟨fdC, GC, bC⟩ := ok_cov (P := P) (w := w) (base := base) T U
  obtain ⟨fdS, GS, bS⟩ := ok_stop (P := P) (w := w) (base := base) T U
  obtain ⟨fdA, GA, bA⟩ := ok_sides (P := P) (w := w) (base := base) T U
  obtain ⟨fdT, GT, bT⟩ := ok_togth (P := P) (w := w) (base := base) T U
  refine ⟨fd, F.ok scBroken (fun vs H Q E h => ?_) (fun cdv A outer s H vs Q E hr h => ⟨_,
    pss_cons (ps_if (pt_val (pe_call GC hr rfl U.gCov U.kCov bC .nil pass0 (pa_cons (pv 0) pa_nil))) (pss_one (ps_ret pe_int)) pss_nil)
    (pss_cons (ps_if (pt_val (pe_call GS hr rfl U.gStop U.kStop bS .nil pass0 (pa_cons (pv 0) pa_nil))) (pss_one (ps_ret pe_int)) pss_nil)
    (pss_cons (ps_if (pt_not (pt_val (pe_call GA (hr.mono (by decide)) rfl U.gSides U.kSides bA .nil pass0 (pa_cons (pv 0) pa_nil)))) (pss_one (ps_ret pe_int)) pss_nil)
    (pss_cons (ps_if (pt_not (pt_val (pe_call GT hr rfl U.gTogth U.kTogth bT .nil pass0 (pa_cons (pv 0) pa_nil)))) (pss_one (ps_ret pe_int)) pss_nil)
    (pss_one (ps_ret pe_int))))), ?_⟩),
    F.binds fun _ _ _ _ _ _ us hl => match us, hl with | [_], _ => rfl⟩
  · obtain ⟨pp, x, rfl, _⟩ := h
    rfl
  · obtain ⟨pp, x, rfl, A1, G, h⟩ := h
    dsimp only at h
    unfold brokenOf at h
    refine ⟨_, rfl, pp, x, rfl, A1, G, fun H1 s1 => ⟨_, rfl, ?_⟩⟩
    cases c1 : x.studsOk with
    | false =>
      rw [c1, if_pos rfl] at h
      exact iteT (h H1 s1)
    | true =>
      rw [c1, if_neg (by decide)] at h
      refine iteF ⟨_, rfl, pp, x, rfl, A1.same s1, G, fun H2 s2 => ⟨_, rfl, ?_⟩⟩
      cases c2 : x.tubesOk with
      | false =>
        rw [c2, if_pos rfl] at h
        exact iteT (h H2 (s1.trans s2))
      | true =>
        rw [c2, if_neg (by decide)] at h
        refine iteF ⟨_, rfl, pp, x, rfl, (A1.same s1).same s2, G, fun H3 s3 => ⟨_, rfl, ?_⟩⟩
        cases c3 : x.tight with
        | false =>
          rw [c3, if_pos rfl] at h
          exact iteT (h H3 ((s1.trans s2).trans s3))
        | true =>
          rw [c3, if_neg (by decide)] at h
          refine iteF ⟨_, rfl, pp, x, rfl, ((A1.same s1).same s2).same s3, G, fun H4 s4 => ⟨_, rfl, ?_⟩⟩
          cases c4 : x.whole with
          | false =>
            rw [c4, if_pos rfl] at h
            exact iteT (h H4 (((s1.trans s2).trans s3).trans s4))
          | true =>
            rw [c4, if_neg (by decide)] at h
            exact iteF (h H4 (((s1.trans s2).trans s3).trans s4))
/-! ### stands_in_order -/
def spOrder (CP : Addr) : Sp := fun vs H Q _ => ∃ (l : Addr) (as : List Addr) (ps : List Part) (i : Nat), vs = [.ref l, .int (i : Nat)] ∧ PartsAt CP H l as ps ∧ i < ps.length ∧ Q (.bl (isNext ps i)) H
theorem scOrder : FnScope ["parts", "number"] ["parts", "number"] (defScope s_stands_in_order) := ⟨rfl, rfl, rfl, by decide +kernel, rfl, by decide +kernel, by decide +kernel⟩
theorem PartsAt.get {CP : Addr} {H : Hp} {l : Addr} {as : List Addr} {ps : List Part} {i : Nat} (A : PartsAt CP H l as ps) (h : i < ps.length) : ∃ pp x, as[i]? = some pp ∧ ps[i]? = some x ∧ IsPart CP H pp x ∧ atI (as.map V.ref) (i : Int) = some (.ref pp) := by
  have h2 : i < as.length := by rw [A.len]; exact h
  have e1 : as[i]? = some as[i] := List.getElem?_eq_getElem h2
  have e2 : ps[i]? = some ps[i] := List.getElem?_eq_getElem h
  exact ⟨_, _, e1, e2, A.it i _ _ e1 e2, atI_nat (by rw [List.getElem?_map, e1]; rfl)⟩
theorem ok_order (T : Txt K mg a) (U : Txt2 K mg a b) : Ok P w K mg base CX0 1 b.order ["parts", "number"] (spOrder a.CP) := by
  obtain ⟨fd, F⟩ := U.dOrder
  refine ⟨fd, F.ok scOrder (fun vs H Q E h => ?_) (fun cdv A outer s H vs Q E hr h => ⟨_,
    pss_one (ps_ret (pe_or (pe_cmpR op_eq (pv 1) pe_int (nomark _)) (pe_one (pe_cmpR (op_ltL (Nat.lt_of_succ_lt (hu_of hr)))
      (pe_fld (pe_ix ix_list (pv 0) (pe_op op_sub (pv 1) pe_int) (fun _ _ => rfl)) rfl) (pe_fld (pe_ix ix_list (pv 0) (pv 1) (fun _ _ => rfl)) rfl) (nomark _))))), ?_⟩),
    F.binds fun _ _ _ _ _ _ us hl => match us, hl with | [_, _], _ => rfl⟩
  · obtain ⟨l, as, ps, i, rfl, _⟩ := h
    rfl
  · obtain ⟨l, as, ps, i, rfl, A1, hi, h⟩ := h
    refine ⟨_, rfl, rfl, _, rfl, ?_⟩
    rw [dec_int]
    cases i with
    | zero => exact iteT h
    | succ j =>
      refine iteF' (beq_eq_false_iff_ne.mpr (by omega)) ?_
      obtain ⟨p1, x1, _, g1, ⟨d1, n1, c1, hp1, hn1, _⟩, e1⟩ := A1.get (i := j) (by omega)
      obtain ⟨p2, x2, _, g2, ⟨d2, n2, c2, hp2, hn2, _⟩, e2⟩ := A1.get (i := j + 1) hi
      have ej : (((j + 1 : Nat) : Int) - 1) = (j : Int) := by omega
      refine ⟨_, rfl, _, rfl, _, _, rfl, rfl, l, _, _, _, rfl, rfl, SqL.of A1.ob, (by rw [ej]; exact e1), p1, _, d1, _, _, rfl, hp1, T.clP, T.nName, pF_name, ?_⟩
      refine ⟨_, rfl, _, rfl, l, _, _, _, rfl, rfl, SqL.of A1.ob, e2, p2, _, d2, _, _, rfl, hp2, T.clP, T.nName, pF_name, ?_⟩
      refine ⟨n1, n2, bI x1.name, bI x2.name, rfl, rfl, (by rw [bI_V]; exact SqL.of hn1), (by rw [bI_V]; exact SqL.of hn2), ?_⟩
      rw [lex_before]
      have h2 : Q (.bl (before (ps.getD j ⟨[], 0, 0, 0, 0, []⟩).name (ps.getD (j + 1) ⟨[], 0, 0, 0, 0, []⟩).name)) H := h
      rw [getD_at g1, getD_at g2] at h2
      exact h2
end
end St
set_option Elab.async false
set_option linter.all false
set_option maxRecDepth 100000
set_option maxHeartbeats 4000000
namespace St
open PySem PySem.Spec PyProof.Rows L2 PySem.Jx RdM BrPart BrRead Geo
/-! ### parts that are read have their form -/
theorem bind_inv {α β : Type} {m : Rd α} {k : α → Rd β} {s : Nat × Bytes} {r : β × (Nat × Bytes)} (h : (m >>= k) s = .ok r) : ∃ x s', m s = .ok (x, s') ∧ k x s' = .ok r := by
  cases e : m s with
  | error f =>
    rw [bind_er e] at h
    cases h
  | ok p =>
    obtain ⟨x, s'⟩ := p
    rw [bind_ok e] at h
    exact ⟨x, s', rfl, h⟩
theorem any_at (s : Nat × Bytes) : ∃ B, s = at_ B s.1 := by
  obtain ⟨i, t⟩ := s
  refine ⟨List.replicate i 0 ++ t, ?_⟩
  show (i, t) = (i, (List.replicate i 0 ++ t).drop i)
  have e : (List.replicate i (0 : UInt8)).length = i := List.length_replicate
  rw [List.drop_append_of_le_length (by omega), List.drop_eq_nil_of_le (by omega), List.nil_append]
theorem num_any {hi n : Nat} {s s' : Nat × Bytes} (hh : hi ≤ 9999) (h : num 1 hi s = .ok (n, s')) : 1 ≤ n ∧ n ≤ hi := by
  obtain ⟨B, e⟩ := any_at s
  rw [e] at h
  exact num_in hh h
theorem times_inv {α : Type} {r : Rd α} {Pp : α → Prop} (hr : ∀ s x s', r s = .ok (x, s') → Pp x) : ∀ n s l s', times n r s = .ok (l, s') → l.length = n ∧ ∀ x ∈ l, Pp x
  | 0, s, l, s', h => by
    rw [times] at h
    have e := (Prod.mk.inj (Except.ok.inj h)).1
    subst e
    exact ⟨rfl, fun x hx => by cases hx⟩
  | n + 1, s, l, s', h => by
    rw [times] at h
    obtain ⟨x, s1, h1, h2⟩ := bind_inv h
    obtain ⟨l2, s2, h3, h4⟩ := bind_inv h2
    have e := (Prod.mk.inj (Except.ok.inj h4)).1
    subst e
    obtain ⟨i1, i2⟩ := times_inv hr n s1 l2 s2 h3
    refine ⟨by rw [List.length_cons, i1], fun y hy => ?_⟩
    rcases List.mem_cons.mp hy with e | hy
    · rw [e]
      exact hr _ _ _ h1
    · exact i2 y hy
theorem row_inv {w : Nat} {s s' : Nat × Bytes} {l : List BrPart.Place} (h : row_ w s = .ok (l, s')) : l.length = w := by
  unfold row_ at h
  obtain ⟨x, s1, h1, h2⟩ := bind_inv h
  obtain ⟨_, s2, h3, h4⟩ := bind_inv h2
  have e := (Prod.mk.inj (Except.ok.inj h4)).1
  subst e
  exact (times_inv (Pp := fun _ => True) (fun _ _ _ _ => True.intro) w s x s1 h1).1
theorem flat_len {α : Type} {w : Nat} : ∀ l : List (List α), (∀ x ∈ l, x.length = w) → l.flatten.length = l.length * w
  | [], _ => by simp
  | a :: l, h => by
    rw [List.flatten_cons, List.length_append, List.length_cons, Nat.succ_mul, flat_len l fun x hx => h x (List.mem_cons_of_mem _ hx), h a (List.mem_cons_self ..), Nat.add_comm]
theorem part_good {s s' : Nat × Bytes} {x : Part} (h : part_ s = .ok (x, s')) : Geo.Good x := by
  rw [congrFun part_eq s] at h
  obtain ⟨_, s1, _, h⟩ := bind_inv h
  obtain ⟨nm, s2, _, h⟩ := bind_inv h
  obtain ⟨_, s3, _, h⟩ := bind_inv h
  obtain ⟨wd, s4, hw, h⟩ := bind_inv h
  obtain ⟨_, s5, _, h⟩ := bind_inv h
  obtain ⟨dp, s6, hd, h⟩ := bind_inv h
  obtain ⟨_, s7, _, h⟩ := bind_inv h
  obtain ⟨ht, s8, hh, h⟩ := bind_inv h
  obtain ⟨_, s9, _, h⟩ := bind_inv h
  obtain ⟨wt, s10, _, h⟩ := bind_inv h
  obtain ⟨_, s11, _, h⟩ := bind_inv h
  obtain ⟨l, s12, hl, h⟩ := bind_inv h
  have e := (Prod.mk.inj (Except.ok.inj h)).1
  subst e
  unfold rowsM at hl
  obtain ⟨ll, s13, h3, h4⟩ := bind_inv hl
  have e := (Prod.mk.inj (Except.ok.inj h4)).1
  subst e
  obtain ⟨i1, i2⟩ := times_inv (Pp := fun x => x.length = wd) (fun s x s' => row_inv) _ _ _ _ h3
  obtain ⟨w1, w2⟩ := num_any (by decide) hw
  obtain ⟨d1, d2⟩ := num_any (by decide) hd
  obtain ⟨h1, h2⟩ := num_any (by decide) hh
  refine ⟨w1, w2, d1, d2, h1, h2, ?_⟩
  show ([] ++ ll.flatten).length = ht * (dp * wd)
  rw [List.nil_append, flat_len ll i2, i1, Nat.mul_comm dp ht, Nat.mul_assoc]
theorem toEnd_inv {α : Type} {r : Rd α} {Pp : α → Prop} (hr : ∀ s x s', r s = .ok (x, s') → Pp x) : ∀ n s l s', toEnd r n s = .ok (l, s') → ∀ x ∈ l, Pp x
  | 0, s, l, s', h => by
    rw [toEnd] at h
    obtain ⟨c, s1, _, h⟩ := bind_inv h
    cases c with
    | none =>
      have e := (Prod.mk.inj (Except.ok.inj h)).1
      subst e
      intro x hx
      cases hx
    | some c => cases h
  | n + 1, s, l, s', h => by
    rw [toEnd] at h
    obtain ⟨c, s1, _, h⟩ := bind_inv h
    cases c with
    | none =>
      have e := (Prod.mk.inj (Except.ok.inj h)).1
      subst e
      intro x hx
      cases hx
    | some c =>
      rw [if_pos (show (some c).isSome = true from rfl)] at h
      obtain ⟨x, s2, h1, h2⟩ := bind_inv h
      obtain ⟨l2, s3, h3, h4⟩ := bind_inv h2
      have e := (Prod.mk.inj (Except.ok.inj h4)).1
      subst e
      intro y hy
      rcases List.mem_cons.mp hy with e | hy
      · rw [e]
        exact hr _ _ _ h1
      · exact toEnd_inv hr n _ _ _ h3 y hy
theorem readC_good {B : Bytes} {ps : List Part} (h : readC B = .ok ps) : ∀ x ∈ ps, Geo.Good x := by
  unfold readC readAll at h
  cases e : (do let p ← part_; let l ← toEnd part_ 63; return p :: l : Rd Catalogue) (0, B) with
  | error f =>
    have h' : Except.map (fun x : Catalogue × (Nat × Bytes) => x.1) ((do let p ← part_; let l ← toEnd part_ 63; return p :: l : Rd Catalogue) (0, B)) = .ok ps := h
    rw [e] at h'
    cases h'
  | ok q =>
    have h' : Except.map (fun x : Catalogue × (Nat × Bytes) => x.1) ((do let p ← part_; let l ← toEnd part_ 63; return p :: l : Rd Catalogue) (0, B)) = .ok ps := h
    rw [e] at h'
    have e2 := Except.ok.inj h'
    obtain ⟨ps', s'⟩ := q
    have e2 : ps' = ps := e2
    subst e2
    obtain ⟨x, s1, h1, h2⟩ := bind_inv e
    obtain ⟨l2, s3, h3, h4⟩ := bind_inv h2
    have e := (Prod.mk.inj (Except.ok.inj h4)).1
    subst e
    intro y hy
    rcases List.mem_cons.mp hy with e | hy
    · rw [e]
      exact part_good h1
    · exact toEnd_inv (fun _ _ _ => part_good) 63 _ _ _ h3 y hy
def FailsW (CW : Addr) (k i : Nat) (E : XK) : Prop := ∀ d H', H' d = some (.xd [("where", .int (i : Nat)), ("point", .int (k : Nat)), ("number", .int (-8))]) → E (.ref CW) (some d) H'
section
variable {P : Program} {w : World} {K : PySem.W.Frag} {mg : Str → Option Value} {base : Heap} {a : Ad} {b : Ad2}
/-! ### right_catalogue -/
def spRight (K : PySem.W.Frag) (CP CN CW : Addr) : Sp := fun vs H Q E => ∃ (ta : Addr) (B : Bytes), vs = [.ref ta] ∧ SqL K H ta (bytesV B) ∧ B.length ≤ 100000 ∧
  (∀ ps, readC B = .ok ps → wrong ps = none → ∀ l as H', Same H H' → PartsAt CP H' l as ps → Q (.ref l) H') ∧ (∀ ps k i, readC B = .ok ps → wrong ps = some (k, i) → FailsW CW k i E) ∧ ∀ f, readC B = .error f → Fails CN f E
theorem scRight : FnScope ["t", "parts", "number", "part", "point"] ["t"] (defScope s_right_catalogue) := ⟨rfl, rfl, rfl, by decide +kernel, rfl, by decide +kernel, by decide +kernel⟩
theorem ok_right (T : Txt K mg a) (U : Txt2 K mg a b) : Ok P w K mg base (L2.CX P w) 7 b.right ["t"] (spRight K a.CP a.CN b.CW) := by
  obtain ⟨fd, F⟩ := U.dRight
  obtain ⟨fdC, GC, bC⟩ := ok_rcat (P := P) (w := w) (base := base) T
  obtain ⟨fdB, GB, bB⟩ := ok_broken (P := P) (w := w) (base := base) T U
  obtain ⟨fdO, GO, bO⟩ := ok_order (P := P) (w := w) (base := base) T U
  refine ⟨fd, F.okX (k := 6) scRight (fun vs H Q E h => ?_) (fun cdv A outer s H vs Q E hr h => ⟨_,
    pss_cons (ps_set (i := 1) scRight.nd rfl (Or.inl rfl) (pe_call GC hr rfl T.gRcat T.kRcat bC .nil (hxT (takes_of rfl rfl rfl rfl)) (pa_cons (pv 0) pa_nil)))
    (pss_cons (ps_for (passes_of rfl) rfl (pi_enum rfl U.enm (pa_cons (pv 1) pa_nil)) (pg_tup rfl (pgs_cons (pg_name (i := 2) scRight.nd rfl (Or.inl rfl)) (pgs_cons (pg_name (i := 3) scRight.nd rfl (Or.inl rfl)) pgs_nil)))
      (pss_cons (ps_set (i := 4) scRight.nd rfl (Or.inl rfl) (pe_call GB (hr.mono (by decide)) rfl U.gBroken U.kBroken bB .nil pass0 (pa_cons (pv 3) pa_nil)))
      (pss_cons (ps_if (pt_cmpR op_gt (pv 4) pe_int (nomark _)) (pss_one (ps_raise_err rfl (takes_of rfl rfl rfl rfl) (pmk_err U.eW U.gW hr (pa_cons (pv 4) (pa_cons (pv 2) pa_nil))))) pss_nil)
      (pss_one (ps_if (pt_not (pt_val (pe_call GO (hr.mono (by decide)) rfl U.gOrder U.kOrder bO .nil pass0 (pa_cons (pv 1) (pa_cons (pv 2) pa_nil))))) (pss_one (ps_raise_err rfl (takes_of rfl rfl rfl rfl) (pmk_err U.eW U.gW hr (pa_cons pe_int (pa_cons (pv 2) pa_nil))))) pss_nil)))))
    (pss_one (ps_ret (pv 1)))), ?_⟩),
    F.binds fun _ _ _ _ _ _ us hl => match us, hl with | [_], _ => rfl⟩
  · obtain ⟨ta, B, rfl, _⟩ := h
    rfl
  · obtain ⟨ta, B, rfl, tx, hB, o1, o2, o3⟩ := h
    refine ⟨_, rfl, ta, B, rfl, tx, hB, fun ps hps l as H1 s1 A1 => ?_, o3⟩
    have good := readC_good hps
    refine ⟨_, rfl, l, _, rfl, SqL.of A1.ob, for_enum (K := K) (a := l) (xs := as.map V.ref) (fun i σ H' => ∃ (v2 v3 v4 : Option V), σ = [some (.ref ta), some (.ref l), v2, v3, v4] ∧ Same H H' ∧ PartsAt a.CP H' l as ps ∧ wrong ps = wrongFrom i (lastOf ps i) (ps.drop i))
      ⟨none, none, none, rfl, s1, A1, rfl⟩ (fun i σ H' _ ⟨_, _, _, _, _, A2, _⟩ => SqL.of A2.ob) ?_ ?_⟩
    · rintro i y σ H2 t hi ⟨v2, v3, v4, rfl, s2, A2, hw⟩ ht
      have hi2 : i < ps.length := by
        have := (List.getElem?_eq_some_iff.mp hi).1
        rw [List.length_map, A2.len] at this
        exact this
      obtain ⟨pp, x, hpp, hx, ip, hat⟩ := A2.get hi2
      rw [List.getElem?_map, hpp] at hi
      have ey : V.ref pp = y := Option.some.inj hi
      subst ey
      have G := good x (List.mem_of_getElem? hx)
      have s3 : Same H2 _ := same_new (o := .tup [.int (i : Nat), .ref pp]) ht
      have A3 := A2.same s3
      have hw2 := hw.trans (wrong_from hx)
      refine ⟨t, _, rfl, .inl (.inl upd_same), rfl, _, _, rfl, _, _, rfl, rfl, ?_⟩
      refine ⟨_, rfl, pp, x, rfl, ip.same s3, G, fun H4 s4 => ⟨_, rfl, _, _, rfl, rfl, _, rfl, ?_⟩⟩
      by_cases c : 0 < brokenOf x
      · refine iteT' (decide_eq_true (by omega)) ?_
        rw [wrong_broken c] at hw2
        exact ⟨_, rfl, _, rfl, rfl, by decide, fun d hd => o2 ps _ _ hps hw2 d _ upd_same⟩
      · refine iteF' (decide_eq_false (by omega)) ?_
        rw [wrong_last c hx] at hw2
        refine ⟨_, rfl, _, rfl, l, as, ps, i, rfl, A3.same s4, hi2, _, rfl, ?_⟩
        cases cn : isNext ps i with
        | true =>
          rw [cn, if_pos rfl] at hw2
          exact iteF ⟨_, _, _, rfl, (s2.trans s3).trans s4, A3.same s4, hw2⟩
        | false =>
          rw [cn, if_neg Bool.false_ne_true] at hw2
          exact iteT ⟨_, rfl, rfl, by decide, fun d hd => o2 ps _ _ hps hw2 d _ upd_same⟩
    · rintro σ H2 ⟨v2, v3, v4, rfl, s2, A2, hw⟩
      rw [List.length_map, A2.len, List.drop_eq_nil_of_le (Nat.le_refl _)] at hw
      exact ⟨_, rfl, o1 ps hps hw l as H2 s2 A2⟩
end
end St
set_option Elab.async false
set_option linter.all false
set_option maxRecDepth 100000
set_option maxHeartbeats 4000000
namespace St
open PySem PySem.Spec PyProof.Rows L2 PySem.Jx RdM BrPart BrRead
open PySem.W (Codec)
/-! ### the text as bytes -/
abbrev txt (ns : List Int) : Bytes := Neutral.text ns
theorem txt_V {ns : List Int} (h : ∀ x ∈ ns, 0 ≤ x ∧ x ≤ 255) : bytesV (txt ns) = ns.map V.int := by
  unfold bytesV txt Neutral.text
  rw [List.map_map]
  refine List.map_congr_left fun x hx => ?_
  obtain ⟨h0, h1⟩ := h x hx
  show V.int ((UInt8.ofNat x.toNat).toNat : Int) = V.int x
  have e : (UInt8.ofNat x.toNat).toNat = x.toNat := by
    rw [UInt8.toNat_ofNat']
    exact Nat.mod_eq_of_lt (by omega)
  rw [e]
  congr 1
  omega
theorem txt_len (ns : List Int) : (txt ns).length = ns.length := List.length_map ..
theorem looked {B : Bytes} (h : B.length ≤ 100000) : ¬ BrPartSpec.LOOKED < B.length := by
  show ¬ 1048576 < B.length
  omega
/-- an error of the class at S is what «except S» names -/
theorem exm_self {K : PySem.W.Frag} {S : Addr} (h1 : PySem.W.subIn K (.ref S) (.type "BaseException") = some true) (h2 : PySem.W.isClsIn K S = true) (h3 : PySem.W.typeIn K (.ref S) = some (.type "type")) (h4 : PySem.W.subIn K (.ref S) (.ref S) = some true) :
    PySem.W.exmOne K (.ref S) (.ref S) = some true := by
  have e1 : (PySem.W.subIn K (.ref S) (.type "BaseException") == some true) = true := by rw [h1] <;> rfl
  have e2 : ((PySem.W.clsIn K S).isSome && PySem.W.typeIn K (.ref S) == some (.type "type")) = true := by
    have h2' : (PySem.W.clsIn K S).isSome = true := h2
    rw [h2', h3] <;> rfl
  show (if (PySem.W.subIn K (.ref S) (.type "BaseException") == some true) = true then (if ((PySem.W.clsIn K S).isSome && PySem.W.typeIn K (.ref S) == some (.type "type")) = true then PySem.W.subIn K (.ref S) (.ref S) else none) else none) = some true
  rw [if_pos e1, if_pos e2]
  exact h4
/-- an error of the class at C is, or is not, what «except S» names -/
theorem exm_is {K : PySem.W.Frag} {S C : Addr} {r : Bool} (h1 : PySem.W.subIn K (.ref S) (.type "BaseException") = some true) (h2 : PySem.W.isClsIn K S = true) (h3 : PySem.W.typeIn K (.ref S) = some (.type "type")) (h4 : PySem.W.subIn K (.ref C) (.ref S) = some r) :
    PySem.W.exmOne K (.ref C) (.ref S) = some r := by
  have e1 : (PySem.W.subIn K (.ref S) (.type "BaseException") == some true) = true := by rw [h1] <;> rfl
  have e2 : ((PySem.W.clsIn K S).isSome && PySem.W.typeIn K (.ref S) == some (.type "type")) = true := by
    have h2' : (PySem.W.clsIn K S).isSome = true := h2
    rw [h2', h3] <;> rfl
  show (if (PySem.W.subIn K (.ref S) (.type "BaseException") == some true) = true then (if ((PySem.W.clsIn K S).isSome && PySem.W.typeIn K (.ref S) == some (.type "type")) = true then PySem.W.subIn K (.ref C) (.ref S) else none) else none) = some r
  rw [if_pos e1, if_pos e2]
  exact h4
def rLen (K : PySem.W.Frag) : List V → Hp → VK → Prop := fun xs H Q => ∃ x n, xs = [x] ∧ LenV K x H n ∧ Q (.int (n : Nat)) H
def sNumber (K : PySem.W.Frag) : Suite := fun a0 cls d => tRet (tLst (tCons (tErrF K "number" a0 cls d (tVar 1)) tNil))
theorem txt_ok {ns : List Int} {ps : List Part} {g : Catalogue → BrPartSpec.Answer} (hl : ns.length ≤ 100000) (h : readC (txt ns) = .ok ps) : BrPartSpec.ofText (txt ns) g = g ps := by
  unfold BrPartSpec.ofText
  rw [if_neg (looked (by rw [txt_len]; exact hl)), h]
theorem txt_er {ns : List Int} {f : Nat} {g : Catalogue → BrPartSpec.Answer} (hl : ns.length ≤ 100000) (h : readC (txt ns) = .error f) : BrPartSpec.ofText (txt ns) g = BrPartSpec.no 6 := by
  unfold BrPartSpec.ofText
  rw [if_neg (looked (by rw [txt_len]; exact hl)), h]
end St
set_option Elab.async false
set_option linter.all false
set_option maxRecDepth 100000
set_option maxHeartbeats 4000000
namespace St
open PySem PySem.Spec PyProof.Rows L2 PySem.Jx RdM BrPart BrRead Geo
open PySem.W (Codec)
theorem right_ok {ns : List Int} {ps : List Part} {g : Catalogue → BrPartSpec.Answer} (hl : ns.length ≤ 100000) (h : readC (txt ns) = .ok ps) (hw : wrong ps = none) : BrPartSpec.ofRight (txt ns) g = g ps := by
  unfold BrPartSpec.ofRight
  rw [txt_ok hl h, hw]
  rfl
theorem right_wr {ns : List Int} {ps : List Part} {k : Nat × Nat} {g : Catalogue → BrPartSpec.Answer} (hl : ns.length ≤ 100000) (h : readC (txt ns) = .ok ps) (hw : wrong ps = some k) : BrPartSpec.ofRight (txt ns) g = BrPartSpec.no 8 := by
  unfold BrPartSpec.ofRight
  rw [txt_ok hl h, hw]
  rfl
theorem right_er {ns : List Int} {f : Nat} {g : Catalogue → BrPartSpec.Answer} (hl : ns.length ≤ 100000) (h : readC (txt ns) = .error f) : BrPartSpec.ofRight (txt ns) g = BrPartSpec.no 6 := by
  unfold BrPartSpec.ofRight
  rw [txt_er hl h]
def FailsN (C : Addr) (z : Int) (E : XK) : Prop := ∀ d H', H' d = some (.xd [("number", .int z)]) → E (.ref C) (some d) H'
/-- what the reading and the judging may do otherwise: the errors of a text that is not a right catalogue's -/
structure Bad (CN CW : Addr) (B : Bytes) (E : XK) : Prop where
  rd : ∀ f, readC B = .error f → Fails CN f E
  wr : ∀ ps k i, readC B = .ok ps → wrong ps = some (k, i) → FailsW CW k i E
theorem lc_enum {K : PySem.W.Frag} {a : Addr} {xs : List V} {g : TG} {tt : TT} {te : TE} {vs : List Nat} {σ : L2.St} {H1 : Hp} {D : Addr} {Qd : Hp → Prop} (Pv : Nat → Hp → Prop) (h0 : Pv 0 (upd H1 D (.lst []))) (hl : ∀ i H, i ≤ xs.length → Pv i H → SqL K H a xs)
    (hs : ∀ i x H t, xs[i]? = some x → Pv i H → H t = none → g (.ref t) (wipe σ vs) (upd H t (.tup [.int (i : Nat), x])) fun σ2 H2 => wipe σ2 vs = wipe σ vs ∧ tt σ2 H2 fun b H3 =>
      if b = true then te σ2 H3 fun y H4 => ∃ acc, H4 D = some (.lst acc) ∧ acc.length < sizeLine ∧ Pv (i + 1) (upd H4 D (.lst (acc ++ [y]))) else Pv (i + 1) H3) (hd : ∀ H, Pv xs.length H → Qd H) :
    ∃ W : Nat → Nat → Hp → Prop, (∃ m, W 0 m (upd H1 D (.lst []))) ∧ ∀ i m H, W i m H →
      ((Ite K a).stop i H ∧ Qd H) ∨ ((Ite K a).go i H ∧ ∃ Nx : Hp → Prop, (∀ H', Nx H' → ∃ m', m' < m ∧ W (i + 1) m' H') ∧ ∀ x H', (Ite K a).yld i H x H' → g x (wipe σ vs) H' fun σ2 H2 => wipe σ2 vs = wipe σ vs ∧ tt σ2 H2 fun b H3 =>
        if b = true then te σ2 H3 fun y H4 => ∃ acc, H4 D = some (.lst acc) ∧ acc.length < sizeLine ∧ Nx (upd H4 D (.lst (acc ++ [y]))) else Nx H3) := by
  refine ⟨fun i m H => m = xs.length - i ∧ i ≤ xs.length ∧ Pv i H, ⟨xs.length, by simp, Nat.zero_le _, h0⟩, ?_⟩
  rintro i m H ⟨rfl, hi, p⟩
  have q := hl i H hi p
  by_cases lt : i < xs.length
  · refine .inr ⟨⟨xs, xs[i], q, List.getElem?_eq_getElem lt⟩, Pv (i + 1), fun H' p' => ⟨xs.length - (i + 1), by omega, rfl, lt, p'⟩, fun y H' yl => ?_⟩
    obtain ⟨t, x, e, hn, eh, hx⟩ := yl
    subst e eh
    exact hs i x H t (hx xs q) p hn
  · have e : i = xs.length := by omega
    subst e
    exact .inl ⟨⟨xs, q, Nat.le_refl _⟩, hd H p⟩
end St
set_option Elab.async false
set_option linter.all false
set_option maxRecDepth 100000
set_option maxHeartbeats 4000000
namespace St
open PySem PySem.Spec PyProof.Rows L2 PySem.Jx RdM BrPart BrRead Geo
open PySem.W (Codec)
structure AdQ where
  (pin CSp iSp : Addr)
structure TxtQ (K : PySem.W.Frag) (mg : Str → Option Value) (a : Ad) (c : AdQ) : Prop where
  g_pin : mg "part_in" = some (.ref c.pin)
  k_pin : PySem.W.keepIn K (.ref c.pin) = true
  d_pin : Dn K "part_in" "part_in" s_part_in c.pin
  g_CSp : mg "NoSuchPart" = some (.ref c.CSp)
  e_Sp : ErrT K mg c.CSp c.iSp 0 (fun _ => [("number", .int (-4))])
/-! ### names and weights that are read -/
structure Form (x : Part) : Prop where
  nm : x.name.length ≤ 8
  wt : x.weight ≤ 9999
theorem while_len {f : UInt8 → Bool} : ∀ n s l s', while_ f n s = .ok (l, s') → l.length ≤ n
  | 0, s, l, s', h => by
    rw [while_] at h
    have e := (Prod.mk.inj (Except.ok.inj h)).1
    subst e
    exact Nat.le_refl _
  | n + 1, s, l, s', h => by
    rw [while_] at h
    obtain ⟨c, s1, _, h⟩ := bind_inv h
    cases c with
    | none =>
      have e := (Prod.mk.inj (Except.ok.inj h)).1
      subst e
      exact Nat.zero_le _
    | some c =>
      by_cases z : f c = true
      · dsimp only at h
        rw [if_pos z] at h
        obtain ⟨_, s2, _, h⟩ := bind_inv h
        obtain ⟨r, s3, h3, h⟩ := bind_inv h
        have e := (Prod.mk.inj (Except.ok.inj h)).1
        subst e
        exact Nat.succ_le_succ (while_len n _ _ _ h3)
      · dsimp only at h
        rw [if_neg z] at h
        have e := (Prod.mk.inj (Except.ok.inj h)).1
        subst e
        exact Nat.zero_le _
theorem name_le {s s' : Nat × Bytes} {n : Bytes} (h : name_ s = .ok (n, s')) : n.length ≤ 8 := by
  unfold name_ at h
  obtain ⟨c, s1, _, h⟩ := bind_inv h
  cases c with
  | none => cases h
  | some c =>
    by_cases z : isLow c = true
    · dsimp only at h
      rw [if_pos z] at h
      obtain ⟨_, s2, _, h⟩ := bind_inv h
      obtain ⟨r, s3, h3, h⟩ := bind_inv h
      have e := (Prod.mk.inj (Except.ok.inj h)).1
      subst e
      exact Nat.succ_le_succ (while_len 7 _ _ _ h3)
    · dsimp only at h
      rw [if_neg z] at h
      cases h
theorem part_form {s s' : Nat × Bytes} {x : Part} (h : part_ s = .ok (x, s')) : Form x := by
  rw [congrFun part_eq s] at h
  obtain ⟨_, s1, _, h⟩ := bind_inv h
  obtain ⟨nm, s2, hn, h⟩ := bind_inv h
  obtain ⟨_, s3, _, h⟩ := bind_inv h
  obtain ⟨wd, s4, hw, h⟩ := bind_inv h
  obtain ⟨_, s5, _, h⟩ := bind_inv h
  obtain ⟨dp, s6, hd, h⟩ := bind_inv h
  obtain ⟨_, s7, _, h⟩ := bind_inv h
  obtain ⟨ht, s8, hh, h⟩ := bind_inv h
  obtain ⟨_, s9, _, h⟩ := bind_inv h
  obtain ⟨wt, s10, hg, h⟩ := bind_inv h
  obtain ⟨_, s11, _, h⟩ := bind_inv h
  obtain ⟨l, s12, hl, h⟩ := bind_inv h
  have e := (Prod.mk.inj (Except.ok.inj h)).1
  subst e
  exact ⟨name_le hn, (num_any (by decide) hg).2⟩
theorem readC_form {B : Bytes} {ps : List Part} (h : readC B = .ok ps) : ∀ x ∈ ps, Form x := by
  unfold readC readAll at h
  cases e : (do let p ← part_; let l ← toEnd part_ 63; return p :: l : Rd Catalogue) (0, B) with
  | error f =>
    have h' : Except.map (fun x : Catalogue × (Nat × Bytes) => x.1) ((do let p ← part_; let l ← toEnd part_ 63; return p :: l : Rd Catalogue) (0, B)) = .ok ps := h
    rw [e] at h'
    cases h'
  | ok q =>
    have h' : Except.map (fun x : Catalogue × (Nat × Bytes) => x.1) ((do let p ← part_; let l ← toEnd part_ 63; return p :: l : Rd Catalogue) (0, B)) = .ok ps := h
    rw [e] at h'
    have e2 := Except.ok.inj h'
    obtain ⟨ps', s'⟩ := q
    have e2 : ps' = ps := e2
    subst e2
    obtain ⟨x, s1, h1, h2⟩ := bind_inv e
    obtain ⟨l2, s3, h3, h4⟩ := bind_inv h2
    have e := (Prod.mk.inj (Except.ok.inj h4)).1
    subst e
    intro y hy
    rcases List.mem_cons.mp hy with e | hy
    · rw [e]
      exact part_form h1
    · exact toEnd_inv (fun _ _ _ => part_form) 63 _ _ _ h3 y hy

section
variable {P : Program} {w : World} {K : PySem.W.Frag} {mg : Str → Option Value} {base : Heap} {a : Ad} {b : Ad2} {c : AdQ}
/-! ### part_in -/
def spPin (CP CSp : Addr) : Sp := fun vs H Q E => ∃ (l : Addr) (as : List Addr) (ps : List Part) (k : Nat), vs = [.ref l, .int (k : Nat)] ∧ PartsAt CP H l as ps ∧
  (∀ x, ps[k]? = some x → ∀ pp, IsPart CP H pp x → Q (.ref pp) H) ∧ (ps[k]? = none → FailsN CSp (-4) E)
theorem scPin : FnScope ["parts", "k"] ["parts", "k"] (defScope s_part_in) := ⟨rfl, rfl, rfl, by decide +kernel, rfl, by decide +kernel, by decide +kernel⟩
theorem ok_pin (T : Txt K mg a) (S : TxtQ K mg a c) : Ok P w K mg base (L2.CX P w) 2 c.pin ["parts", "k"] (spPin a.CP c.CSp) := by
  obtain ⟨fd, F⟩ := S.d_pin
  refine ⟨fd, F.okX scPin (fun vs H Q E h => ?_) (fun cdv A outer s H vs Q E hr h => ⟨_,
    pss_cons (ps_if (pt_cmpR op_ge (pv 1) (pe_callB call_len (by rfl) T.len (by decide +kernel) (pa_cons (pv 0) pa_nil)) (nomark _)) (pss_one (ps_raise_err rfl (takes_of rfl rfl rfl rfl) (pmk_err0 S.e_Sp S.g_CSp hr))) pss_nil)
    (pss_one (ps_ret (pe_ix ix_list (pv 0) (pv 1) (fun _ _ => rfl)))), ?_⟩),
    F.binds fun _ _ _ _ _ _ us hl => match us, hl with | [_, _], _ => rfl⟩
  · obtain ⟨l, as, ps, k, rfl, _⟩ := h
    rfl
  · obtain ⟨l, as, ps, k, rfl, A1, o1, o2⟩ := h
    refine ⟨_, rfl, _, rfl, _, _, rfl, .inl ⟨_, SqL.of A1.ob, rfl⟩, _, _, rfl, rfl, _, rfl, ?_⟩
    rw [List.length_map, A1.len]
    by_cases hk : k < ps.length
    · refine iteF' (decide_eq_false (by omega)) ?_
      obtain ⟨pp, x, hpp, hx, ip, hat⟩ := A1.get hk
      exact ⟨_, rfl, _, rfl, l, _, _, _, rfl, rfl, SqL.of A1.ob, hat, o1 x hx pp ip⟩
    · refine iteT' (decide_eq_true (by omega)) ?_
      exact ⟨rfl, by decide, fun d hd => o2 (List.getElem?_eq_none (by omega)) d _ upd_same⟩
end
end St
set_option Elab.async false
set_option linter.all false
set_option maxRecDepth 100000
set_option maxHeartbeats 4000000
namespace St
open PySem PySem.Spec PyProof.Rows L2 PySem.Jx RdM BrPart BrRead Geo
structure AdP where
  (chosen : Addr)
structure TxtP (K : PySem.W.Frag) (mg : Str → Option Value) (a : Ad) (c : AdP) : Prop where
  g_chosen : mg "chosen_part" = some (.ref c.chosen)
  k_chosen : PySem.W.keepIn K (.ref c.chosen) = true
  d_chosen : Dn K "chosen_part" "chosen_part" s_chosen_part c.chosen
section
variable {P : Program} {w : World} {K : PySem.W.Frag} {mg : Str → Option Value} {base : Heap} {a : Ad} {b : Ad2} {q : AdQ} {c : AdP}
/-! ### chosen_part -/
def spChosen (K : PySem.W.Frag) (CP CN CW CSp : Addr) : Sp := fun vs H Q E => ∃ (ta : Addr) (k : Nat) (B : Bytes), vs = [.int (k : Nat), .ref ta] ∧ SqL K H ta (bytesV B) ∧ B.length ≤ 100000 ∧ Bad CN CW B E ∧
  ∀ ps, readC B = .ok ps → wrong ps = none → (∀ x, ps[k]? = some x → Geo.Good x → ∀ pp H', Same H H' → IsPart CP H' pp x → Q (.ref pp) H') ∧ (ps[k]? = none → FailsN CSp (-4) E)
theorem scChosen : FnScope ["k", "t"] ["k", "t"] (defScope s_chosen_part) := ⟨rfl, rfl, rfl, by decide +kernel, rfl, by decide +kernel, by decide +kernel⟩
theorem ok_chosen (T : Txt K mg a) (U : Txt2 K mg a b) (N : TxtQ K mg a q) (S : TxtP K mg a c) : Ok P w K mg base (L2.CX P w) 8 c.chosen ["k", "t"] (spChosen K a.CP a.CN b.CW q.CSp) := by
  obtain ⟨fd, F⟩ := S.d_chosen
  obtain ⟨fdR, GR, bR⟩ := ok_right (P := P) (w := w) (base := base) T U
  obtain ⟨fdI, GI, bI⟩ := ok_pin (P := P) (w := w) (base := base) T N
  refine ⟨fd, F.okX (k := 7) scChosen (fun vs H Q E h => ?_) (fun cdv A outer s H vs Q E hr h => ⟨_,
    pss_one (ps_ret (pe_call GI (hr.mono (by decide)) rfl N.g_pin N.k_pin bI .nil (hxT (takes_of rfl rfl rfl rfl)) (pa_cons (pe_call GR hr rfl U.gRight U.kRight bR .nil (hxT (takes_of rfl rfl rfl rfl)) (pa_cons (pv 1) pa_nil)) (pa_cons (pv 0) pa_nil)))), ?_⟩),
    F.binds fun _ _ _ _ _ _ us hl => match us, hl with | [_, _], _ => rfl⟩
  · obtain ⟨ta, k, B, rfl, _⟩ := h
    rfl
  · obtain ⟨ta, k, B, rfl, tx, hB, bad, o⟩ := h
    refine ⟨_, rfl, ta, B, rfl, tx, hB, fun ps hps hw l as H1 s1 A1 => ?_, bad.wr, bad.rd⟩
    obtain ⟨o1, o2⟩ := o ps hps hw
    exact ⟨_, rfl, l, as, ps, k, rfl, A1, fun x hx pp ip => o1 x hx (readC_good hps x (List.mem_of_getElem? hx)) pp H1 s1 ip, o2⟩
end
end St
set_option Elab.async false
set_option linter.all false
set_option maxRecDepth 100000
set_option maxHeartbeats 4000000
namespace St
open PySem PySem.Spec PyProof.Rows L2 PySem.Jx RdM BrPart BrRead Geo
/-! ### a dict that holds a part's cells, in whatever order -/
structure CellsAre (x : Part) (kvs : List (List Key × V)) : Prop where
  nd : (kvs.map (·.1)).Nodup
  few : kvs.length ≤ 4608
  has : ∀ k v, (k, v) ∈ kvs ↔ ∃ a b c : Nat, x.at_ a b c ≠ .none ∧ k = key (cI (a, b, c)) ∧ v = .int ((x.at_ a b c).byte.toNat : Int)
theorem at_in {x : Part} {a b c : Nat} (h : x.at_ a b c ≠ .none) : a < x.wide ∧ b < x.deep ∧ c < x.high := by
  by_cases z : a < x.wide ∧ b < x.deep ∧ c < x.high
  · exact z
  · exact absurd (at_out z) h
theorem at_co {x : Part} (G : Good x) {i : Nat} {pl : BrPart.Place} (h : x.places[i]? = some pl) : x.at_ (co x.wide x.deep i).1 (co x.wide x.deep i).2.1 (co x.wide x.deep i).2.2 = pl := by
  have hi := (List.getElem?_eq_some_iff.mp h).1
  have e := places_at G
  have h2 := h
  rw [e, List.getElem?_map] at h2
  have hi2 : i < x.high * (x.deep * x.wide) := by rw [← G.len]; exact hi
  rw [List.getElem?_range hi2] at h2
  exact Option.some.inj h2
theorem cells_are {x : Part} (G : Good x) : CellsAre x (cellsOf x.wide x.deep x.places) := by
  refine ⟨keys_nodup G, cells_small G, fun k v => ⟨fun h => ?_, ?_⟩⟩
  · obtain ⟨i, pl, hi, hn, ek, ev⟩ := cells_mem h
    have e : x.at_ (i % x.wide) (i / x.wide % x.deep) (i / x.wide / x.deep) = pl := at_co G hi
    exact ⟨_, _, _, by rw [e]; exact hn, ek, by rw [e]; exact ev⟩
  · rintro ⟨a, b, c, hn, ek, ev⟩
    obtain ⟨ha, hb, hc⟩ := at_in hn
    have hl := ix_lt ha hb hc
    have hg : x.places[(c * x.deep + b) * x.wide + a]? = some (x.at_ a b c) := by
      unfold Part.at_
      rw [if_pos ⟨ha, hb, hc⟩, List.getD_eq_getElem?_getD]
      rw [← G.len] at hl
      rw [List.getElem?_eq_getElem hl]
      rfl
    unfold cellsOf
    refine List.mem_filterMap.mpr ⟨(x.at_ a b c, (c * x.deep + b) * x.wide + a), List.mem_zipIdx_iff_getElem?.mpr hg, ?_⟩
    unfold cellAt
    rw [if_neg hn]
    have kk := key_at (z := c) ha hb
    rw [kk, ek, ev]
    rfl
theorem key_nat {a b c a' b' c' : Nat} (h : key (cI (a, b, c)) = key (cI (a', b', c'))) : a = a' ∧ b = b' ∧ c = c' := by
  have e := cI_inj (key_inj h)
  have h1 := (Prod.mk.inj e).1
  have h2 := (Prod.mk.inj (Prod.mk.inj e).2).1
  have h3 := (Prod.mk.inj (Prod.mk.inj e).2).2
  exact ⟨h1, h2, h3⟩
theorem val_mem {kvs : List (List Key × V)} (hn : (kvs.map (·.1)).Nodup) {k : List Key} {v : V} (h : (k, v) ∈ kvs) : valV kvs k = some v := by
  obtain ⟨i, hi⟩ := List.mem_iff_getElem?.mp h
  exact val_at hn hi
theorem CellsAre.val {x : Part} {kvs : List (List Key × V)} (A : CellsAre x kvs) (a b c : Nat) : valV kvs (key (cI (a, b, c))) = if x.at_ a b c = .none then none else some (.int ((x.at_ a b c).byte.toNat : Int)) := by
  by_cases h : x.at_ a b c = .none
  · rw [if_pos h]
    cases e : valV kvs (key (cI (a, b, c))) with
    | none => rfl
    | some v =>
      obtain ⟨a', b', c', hn, ek, _⟩ := (A.has _ _).mp (valV_mem e)
      obtain ⟨e1, e2, e3⟩ := key_nat ek
      subst e1 e2 e3
      exact absurd h hn
  · rw [if_neg h]
    exact val_mem A.nd ((A.has _ _).mpr ⟨a, b, c, h, rfl, rfl⟩)
/-- the sign at a place, by get -/
theorem CellsAre.get {x : Part} {kvs : List (List Key × V)} (A : CellsAre x kvs) (a b c : Nat) : (valV kvs (key (cI (a, b, c)))).getD (.int 46) = .int ((x.at_ a b c).byte.toNat : Int) := by
  rw [A.val]
  by_cases h : x.at_ a b c = .none
  · rw [if_pos h, h]
    rfl
  · rw [if_neg h]
    rfl
theorem CellsAre.ints {x : Part} {kvs : List (List Key × V)} (A : CellsAre x kvs) : IntsD kvs := fun p hp => by
  obtain ⟨a, b, c, _, _, e⟩ := (A.has p.1 p.2).mp hp
  exact ⟨_, e⟩
/-- two such dicts hold the same just if the parts' cells are the same -/
theorem cells_eq {x y : Part} {ks ls : List (List Key × V)} (A : CellsAre x ks) (B : CellsAre y ls) : eqD ks ls = true ↔ ∀ a b c, x.at_ a b c = y.at_ a b c := by
  have byte_inj : ∀ p q : BrPart.Place, (V.int (p.byte.toNat : Int)) = .int (q.byte.toNat : Int) → p = q := fun p q h => by
    have h2 : p.byte.toNat = q.byte.toNat := Int.ofNat.inj (V.int.inj h)
    revert h2
    cases p with
    | none =>
      cases q with
      | none => intro _; rfl
      | cell s t => cases s <;> cases t <;> intro z <;> exact absurd z (by decide)
    | cell s t =>
      cases q with
      | none => cases s <;> cases t <;> intro z <;> exact absurd z (by decide)
      | cell s' t' => cases s <;> cases t <;> cases s' <;> cases t' <;> first | (intro _; rfl) | (intro z; exact absurd z (by decide))
  constructor
  · intro h a b c
    obtain ⟨hl, ha⟩ := Bool.and_eq_true_iff.mp h
    have hl := beq_iff_eq.mp hl
    have ha := List.all_eq_true.mp ha
    have sub : ∀ k v, (k, v) ∈ ks → (k, v) ∈ ls := fun k v hm => valV_mem (of_decide_eq_true (ha (k, v) hm))
    by_cases hx : x.at_ a b c = .none
    · by_cases hy : y.at_ a b c = .none
      · rw [hx, hy]
      · exfalso
        have hm := (B.has _ _).mpr ⟨a, b, c, hy, rfl, rfl⟩
        have hnot : key (cI (a, b, c)) ∉ ks.map (·.1) := fun hm2 => by
          obtain ⟨⟨k, v⟩, hm3, e⟩ := List.mem_map.mp hm2
          obtain ⟨a', b', c', hn, ek, _⟩ := (A.has _ _).mp hm3
          have e : k = key (cI (a, b, c)) := e
          obtain ⟨e1, e2, e3⟩ := key_nat (e.symm.trans ek)
          subst e1 e2 e3
          exact hn hx
        have hnd : (key (cI (a, b, c)) :: ks.map (·.1)).Nodup := List.nodup_cons.mpr ⟨hnot, A.nd⟩
        have le := length_le_of_sub (l := key (cI (a, b, c)) :: ks.map (·.1)) (m := ls.map (·.1)) hnd fun k hk => by
          rcases List.mem_cons.mp hk with e | hk
          · rw [e]
            exact List.mem_map.mpr ⟨_, hm, rfl⟩
          · obtain ⟨⟨k', v⟩, hm3, e⟩ := List.mem_map.mp hk
            exact List.mem_map.mpr ⟨_, sub _ _ hm3, e⟩
        rw [List.length_cons, List.length_map, List.length_map] at le
        omega
    · have hm := sub _ _ ((A.has _ _).mpr ⟨a, b, c, hx, rfl, rfl⟩)
      obtain ⟨a', b', c', hn, ek, ev⟩ := (B.has _ _).mp hm
      obtain ⟨e1, e2, e3⟩ := key_nat ek
      subst e1 e2 e3
      exact byte_inj _ _ ev
  · intro h
    have same : ∀ k v, (k, v) ∈ ks ↔ (k, v) ∈ ls := fun k v => by
      rw [A.has, B.has]
      constructor
      · rintro ⟨a, b, c, h1, h2, h3⟩
        exact ⟨a, b, c, by rw [← h]; exact h1, h2, by rw [← h]; exact h3⟩
      · rintro ⟨a, b, c, h1, h2, h3⟩
        exact ⟨a, b, c, by rw [h]; exact h1, h2, by rw [h]; exact h3⟩
    refine Bool.and_eq_true_iff.mpr ⟨beq_iff_eq.mpr ?_, List.all_eq_true.mpr fun p hp => decide_eq_true (val_mem B.nd ((same p.1 p.2).mp hp))⟩
    have l1 := length_le_of_sub (l := ks.map (·.1)) (m := ls.map (·.1)) A.nd fun k hk => by
      obtain ⟨⟨k', v⟩, hm3, e⟩ := List.mem_map.mp hk
      exact List.mem_map.mpr ⟨_, (same _ _).mp hm3, e⟩
    have l2 := length_le_of_sub (l := ls.map (·.1)) (m := ks.map (·.1)) B.nd fun k hk => by
      obtain ⟨⟨k', v⟩, hm3, e⟩ := List.mem_map.mp hk
      exact List.mem_map.mpr ⟨_, (same _ _).mpr hm3, e⟩
    rw [List.length_map, List.length_map] at l1 l2
    omega
/-! ### turned -/
def turnK (w : Nat) : List Key → List Key
  | [.inl a, .inl b, .inl c] => [.inl b, .inl ((w : Int) - 1 - a), .inl c]
  | k => k
theorem turnK_key (w : Nat) (t : Tri) : turnK w (key t) = key (t.2.1, (w : Int) - 1 - t.1, t.2.2) := rfl
theorem turnK_inj {w : Nat} {t u : Tri} (h : turnK w (key t) = turnK w (key u)) : t = u := by
  rw [turnK_key, turnK_key] at h
  have e := key_inj h
  obtain ⟨t1, t2, t3⟩ := t
  obtain ⟨u1, u2, u3⟩ := u
  have h1 := (Prod.mk.inj e).1
  have h2 := (Prod.mk.inj (Prod.mk.inj e).2).1
  have h3 := (Prod.mk.inj (Prod.mk.inj e).2).2
  simp only at h1 h2 h3
  have h4 : t1 = u1 := by omega
  rw [h1, h3, h4]
def turnD (w : Nat) (kvs : List (List Key × V)) : List (List Key × V) := kvs.map fun p => (turnK w p.1, p.2)
theorem turnD_keys (w : Nat) (kvs : List (List Key × V)) : (turnD w kvs).map (·.1) = (kvs.map (·.1)).map (turnK w) := by
  unfold turnD
  rw [List.map_map, List.map_map]
  rfl
theorem nodup_turn {w : Nat} : ∀ {l : List (List Key)}, l.Nodup → (∀ k ∈ l, ∃ t : Tri, k = key t) → (l.map (turnK w)).Nodup
  | [], _, _ => List.nodup_nil
  | k :: l, hn, hf => by
    rw [List.nodup_cons] at hn
    rw [List.map_cons, List.nodup_cons]
    refine ⟨fun hm => ?_, nodup_turn hn.2 fun k hk => hf k (List.mem_cons_of_mem _ hk)⟩
    obtain ⟨k', hk', e⟩ := List.mem_map.mp hm
    obtain ⟨t, et⟩ := hf k (List.mem_cons_self ..)
    obtain ⟨u, eu⟩ := hf k' (List.mem_cons_of_mem _ hk')
    subst et eu
    have := turnK_inj e
    subst this
    exact hn.1 hk'
theorem CellsAre.keys {x : Part} {kvs : List (List Key × V)} (A : CellsAre x kvs) : ∀ k ∈ kvs.map (·.1), ∃ t : Tri, k = key t := fun k hk => by
  obtain ⟨⟨k', v⟩, hm, e⟩ := List.mem_map.mp hk
  obtain ⟨a, b, c, _, ek, _⟩ := (A.has _ _).mp hm
  have e : k' = k := e
  exact ⟨_, e.symm.trans ek⟩
theorem turn_cells {x : Part} {kvs : List (List Key × V)} (A : CellsAre x kvs) : CellsAre x.turn (turnD x.wide kvs) := by
  refine ⟨?_, ?_, fun k v => ⟨fun h => ?_, ?_⟩⟩
  · rw [turnD_keys]
    exact nodup_turn A.nd A.keys
  · unfold turnD
    rw [List.length_map]
    exact A.few
  · obtain ⟨⟨k', v'⟩, hm, e⟩ := List.mem_map.mp h
    obtain ⟨a, b, c, hn, ek, ev⟩ := (A.has _ _).mp hm
    obtain ⟨ha, hb, hc⟩ := at_in hn
    have e1 : turnK x.wide k' = k := (Prod.mk.inj e).1
    have e2 : v' = v := (Prod.mk.inj e).2
    have t := turn_at (p := x) (x := b) (y := x.wide - 1 - a) (z := c) hb (by omega) hc
    have e3 : x.wide - 1 - (x.wide - 1 - a) = a := by omega
    rw [e3] at t
    refine ⟨b, x.wide - 1 - a, c, by rw [t]; exact hn, ?_, by rw [t, ← e2]; exact ev⟩
    rw [← e1, ek, turnK_key]
    have e4 : (x.wide : Int) - 1 - (a : Int) = ((x.wide - 1 - a : Nat) : Int) := by omega
    show key ((b : Int), (x.wide : Int) - 1 - (a : Int), (c : Int)) = key ((b : Int), ((x.wide - 1 - a : Nat) : Int), (c : Int))
    rw [e4]
  · rintro ⟨a, b, c, hn, ek, ev⟩
    obtain ⟨ha, hb, hc⟩ := at_in hn
    have ha' : a < x.deep := ha
    have hb' : b < x.wide := hb
    have hc' : c < x.high := hc
    have t := turn_at (p := x) ha' hb' hc'
    rw [t] at hn ev
    refine List.mem_map.mpr ⟨(key (cI (x.wide - 1 - b, a, c)), v), (A.has _ _).mpr ⟨_, _, _, hn, rfl, ev⟩, ?_⟩
    rw [ek]
    show (turnK x.wide (key (cI (x.wide - 1 - b, a, c))), v) = (key (cI (a, b, c)), v)
    rw [turnK_key]
    have e4 : (x.wide : Int) - 1 - ((x.wide - 1 - b : Nat) : Int) = (b : Int) := by omega
    show (key ((a : Int), (x.wide : Int) - 1 - ((x.wide - 1 - b : Nat) : Int), (c : Int)), v) = (key ((a : Int), (b : Int), (c : Int)), v)
    rw [e4]
theorem turnD_new {x : Part} {kvs : List (List Key × V)} (A : CellsAre x kvs) {i : Nat} {k : List Key} {v : V} (h : kvs[i]? = some (k, v)) : valV (turnD x.wide (kvs.take i)) (turnK x.wide k) = none := by
  cases e : valV (turnD x.wide (kvs.take i)) (turnK x.wide k) with
  | none => rfl
  | some v2 =>
    exfalso
    obtain ⟨⟨k', v'⟩, hm, e2⟩ := List.mem_map.mp (valV_mem e)
    have e3 : turnK x.wide k' = turnK x.wide k := (Prod.mk.inj e2).1
    obtain ⟨j, hj⟩ := List.mem_iff_getElem?.mp hm
    rw [List.getElem?_take] at hj
    by_cases hji : j < i
    · rw [if_pos hji] at hj
      obtain ⟨t, et⟩ := A.keys k (List.mem_map.mpr ⟨(k, v), List.mem_of_getElem? h, rfl⟩)
      obtain ⟨u, eu⟩ := A.keys k' (List.mem_map.mpr ⟨(k', v'), List.mem_of_getElem? hj, rfl⟩)
      subst et eu
      have := turnK_inj e3
      subst this
      have hi' : (kvs.map (·.1))[i]? = some (key u) := by rw [List.getElem?_map, h]; rfl
      have hj' : (kvs.map (·.1))[j]? = some (key u) := by rw [List.getElem?_map, hj]; rfl
      have := (List.getElem?_inj (List.getElem?_eq_some_iff.mp hj').1 A.nd).mp (hj'.trans hi'.symm)
      omega
    · rw [if_neg hji] at hj
      cases hj
/-! ### a part in the heap, its dict in whatever order -/
structure PartAtD (CP : Addr) (H : Hp) (pp : Addr) (x : Part) (dp nl c : Addr) (kvs : List (List Key × V)) : Prop where
  ob : H pp = some (.ins CP dp (pF nl x.wide x.deep x.high x.weight c))
  nm : H nl = some (.lst (bytesV x.name))
  cl : H c = some (.dT kvs)
  ar : CellsAre x kvs
theorem PartAtD.same {CP : Addr} {H H' : Hp} {pp dp nl c : Addr} {x : Part} {kvs : List (List Key × V)} (A : PartAtD CP H pp x dp nl c kvs) (s : Same H H') : PartAtD CP H' pp x dp nl c kvs := ⟨s _ _ A.ob, s _ _ A.nm, s _ _ A.cl, A.ar⟩
def PartD (CP : Addr) (H : Hp) (pp : Addr) (x : Part) : Prop := ∃ dp nl c kvs, PartAtD CP H pp x dp nl c kvs
theorem PartD.same {CP : Addr} {H H' : Hp} {pp : Addr} {x : Part} (A : PartD CP H pp x) (s : Same H H') : PartD CP H' pp x := by
  obtain ⟨dp, nl, c, kvs, h⟩ := A
  exact ⟨dp, nl, c, kvs, h.same s⟩
theorem IsPart.d {CP : Addr} {H : Hp} {pp : Addr} {x : Part} (G : Good x) (A : IsPart CP H pp x) : PartD CP H pp x := by
  obtain ⟨dp, nl, c, h1, h2, h3⟩ := A
  exact ⟨dp, nl, c, _, h1, h2, h3, cells_are G⟩
end St
set_option Elab.async false
set_option linter.all false
set_option maxRecDepth 100000
set_option maxHeartbeats 4000000
namespace St
open PySem PySem.Spec PyProof.Rows L2 PySem.Jx RdM BrPart BrRead Geo
structure AdT where
  (once tby : Addr)
structure TxtT (K : PySem.W.Frag) (mg : Str → Option Value) (a : Ad) (c : AdT) : Prop where
  g_once : mg "turned_once" = some (.ref c.once)
  k_once : PySem.W.keepIn K (.ref c.once) = true
  d_once : Dn K "turned_once" "turned_once" s_turned_once c.once
  g_tby : mg "turned_by" = some (.ref c.tby)
  k_tby : PySem.W.keepIn K (.ref c.tby) = true
  d_tby : Dn K "turned_by" "turned_by" s_turned_by c.tby
theorem for_keys {d : Addr} {o : Obj} {kvs : List (List Key × V)} {g : TG} {tb : TS} {D : Ends} {σ : L2.St} {H : Hp} (Pv : Nat → L2.St → Hp → Prop) (h0 : Pv 0 σ H) (hl : ∀ i σ H, i ≤ kvs.length → Pv i σ H → H d = some (.frz o (.dT kvs)))
    (hs : ∀ i k v q σ H, kvs[i]? = some (k, v) → H q = some (.tup (k.map kV)) → Pv i σ H → g (.ref q) σ H fun σ2 H2 => tb { D with nx := Pv (i + 1), ct := Pv (i + 1), bk := D.nx } σ2 H2) (hd : ∀ σ H, Pv kvs.length σ H → D.nx σ H) :
    ∃ W : Nat → Nat → L2.St → Hp → Prop, (∃ m, W 0 m σ H) ∧ ∀ i m σ H, W i m σ H →
      ((Itkt d o kvs).stop i H ∧ D.nx σ H) ∨ ((Itkt d o kvs).go i H ∧ ∃ N : L2.St → Hp → Prop, (∀ σ' H', N σ' H' → ∃ m', m' < m ∧ W (i + 1) m' σ' H') ∧ ∀ y H', (Itkt d o kvs).yld i H y H' → g y σ H' fun σ2 H2 => tb { D with nx := N, ct := N, bk := D.nx } σ2 H2) := by
  refine ⟨fun i m σ H => m = kvs.length - i ∧ i ≤ kvs.length ∧ Pv i σ H, ⟨_, rfl, Nat.zero_le _, h0⟩, ?_⟩
  rintro i m σ H ⟨rfl, hi, p⟩
  have q := hl i σ H hi p
  by_cases lt : i < kvs.length
  · refine .inr ⟨⟨q, lt⟩, Pv (i + 1), fun σ' H' p' => ⟨kvs.length - (i + 1), by omega, rfl, lt, p'⟩, fun x H' y => ?_⟩
    obtain ⟨e, k, v, b, h1, h2, h3⟩ := y
    subst e h2
    exact hs i k v b σ _ h1 h3 p
  · have e : i = kvs.length := by omega
    subst e
    exact .inl ⟨⟨q, Nat.le_refl _⟩, hd σ H p⟩
section
variable {P : Program} {w : World} {K : PySem.W.Frag} {mg : Str → Option Value} {base : Heap} {a : Ad} {b : Ad2} {c : AdT}
/-! ### turned_once, turned_by -/
def spOnce (CP : Addr) : Sp := fun vs H Q _ => ∃ pp x, vs = [.ref pp] ∧ PartD CP H pp x ∧ Good x ∧ ∀ H' p, Same H H' → PartD CP H' p x.turn → Q (.ref p) H'
theorem scOnce : FnScope ["part", "cells", "x", "y", "z"] ["part"] (defScope s_turned_once) := ⟨rfl, rfl, rfl, by decide +kernel, rfl, by decide +kernel, by decide +kernel⟩
theorem ok_once (T : Txt K mg a) (S : TxtT K mg a c) : Ok P w K mg base CX0 3 c.once ["part"] (spOnce a.CP) := by
  obtain ⟨fd, F⟩ := S.d_once
  obtain ⟨fdI, GI, bI⟩ := ok_iP (P := P) (w := w) (base := base) T
  refine ⟨fd, F.ok (k := 2) scOnce (fun vs H Q E h => ?_) (fun cdv A outer s H vs Q E hr h => ⟨_,
    pss_cons (ps_set (i := 1) scOnce.nd rfl (Or.inl rfl) pe_dnewT)
    (pss_cons (ps_lock (ps_for PassesOwn.never rfl (pi_keys (pe_fld (pv 0) rfl)) (pg_tup rfl (pgs_cons (pg_name (i := 2) scOnce.nd rfl (Or.inl rfl)) (pgs_cons (pg_name (i := 3) scOnce.nd rfl (Or.inl rfl)) (pgs_cons (pg_name (i := 4) scOnce.nd rfl (Or.inl rfl)) pgs_nil))))
      (pss_one (ps_dput (hu_of hr) (pv 1) (pe_tup (pa_cons (pv 3) (pa_cons (pe_op op_sub (pe_op op_sub (pe_fld (pv 0) rfl) pe_int) (pv 2)) (pa_cons (pv 4) pa_nil))))
        (pe_dget (hu_of hr) (pe_fld (pv 0) rfl) (pe_tup (pa_cons (pv 2) (pa_cons (pv 3) (pa_cons (pv 4) pa_nil)))) (fun _ _ => rfl)) rfl))))
    (pss_one (ps_ret (pe_make T.mkP GI hr rfl T.gP bI .nil pass0 (pa_cons (pe_fld (pv 0) rfl) (pa_cons (pe_fld (pv 0) rfl) (pa_cons (pe_fld (pv 0) rfl) (pa_cons (pe_fld (pv 0) rfl) (pa_cons (pe_fld (pv 0) rfl) (pa_cons (pv 1) pa_nil)))))))))), ?_⟩),
    F.binds fun _ _ _ _ _ _ us hl => match us, hl with | [_], _ => rfl⟩
  · obtain ⟨pp, x, rfl, _⟩ := h
    rfl
  · obtain ⟨pp, x, rfl, ⟨dp, nl, cc, kvs, PA⟩, G, h⟩ := h
    have hp := PA.ob
    have hc := PA.cl
    have A := PA.ar
    intro D hD
    have Dc : cc ≠ D := fun z => by rw [z, hD] at hc; cases hc
    have pD : pp ≠ D := fun z => by rw [z, hD] at hp; cases hp
    have pc : pp ≠ cc := ne_of hp hc (by intro z; cases z)
    have hc0 : upd H D (.dT []) cc = some (.dT kvs) := by rw [upd_ne Dc]; exact hc
    refine ⟨cc, .dT kvs, hc0, True.intro, fun od => ?_⟩
    have hp0 : upd (upd H D (.dT [])) cc (.frz od (.dT kvs)) pp = some (.ins a.CP dp (pF nl x.wide x.deep x.high x.weight cc)) := by rw [upd_ne pc, upd_ne pD]; exact hp
    refine ⟨_, rfl, pp, _, dp, _, _, rfl, hp0, T.clP, T.nCells, pF_cells, cc, od, rfl, .inr ⟨kvs, upd_same, ?_⟩⟩
    refine for_keys (fun i σ H' => ∃ v2 v3 v4 : Option V, σ = [some (.ref pp), some (.ref D), v2, v3, v4] ∧ H' cc = some (.frz od (.dT kvs)) ∧ (∀ d o, H d = some o → d ≠ cc → H' d = some o) ∧ H' D = some (.dT (turnD x.wide (kvs.take i))))
      ⟨none, none, none, rfl, upd_same, fun d o e n => by rw [upd_ne n, upd_ne (fun z => by rw [z, hD] at e; cases e)]; exact e, by rw [upd_ne (Ne.symm Dc)]; exact upd_same⟩ (fun i σ H' _ ⟨_, _, _, _, p, _⟩ => p) ?_ ?_
    · rintro i k v q σ H1 hi hq ⟨v2, v3, v4, rfl, p1, p2, p3⟩
      obtain ⟨xa, xb, xc, hn, ek, ev⟩ := (A.has _ _).mp (List.mem_of_getElem? hi)
      subst ek ev
      have lenK : (turnD x.wide (kvs.take i)).length < sizeLine := by
        refine small4 ?_
        unfold turnD
        rw [List.length_map, List.length_take]
        have := A.few
        omega
      have hp1 := p2 _ _ hp pc
      have hnew := turnD_new A hi
      have tk := take_more hi
      have qD : q ≠ D := ne_of hq p3 (by intro z; cases z)
      refine ⟨q, _, rfl, .inl (.inl hq), rfl, _, _, rfl, _, _, rfl, _, _, rfl, rfl, ?_⟩
      refine ⟨_, rfl, pp, _, dp, _, _, rfl, hp1, T.clP, T.nCells, pF_cells, _, rfl, _, rfl, _, rfl, (by show 3 ≤ sizeLine; decide), fun t0 ht0 => ?_⟩
      have s0 : Same H1 _ := same_new (o := .tup [.int (xa : Nat), .int (xb : Nat), .int (xc : Nat)]) ht0
      have hq0 := s0 _ _ p1
      refine ⟨cc, _, rfl, .inr ⟨kvs, key (cI (xa, xb, xc)), t0, .inr ⟨od, hq0⟩, rfl, upd_same, (val_at A.nd hi).symm⟩, ?_⟩
      have hp2 := s0 _ _ hp1
      refine ⟨_, rfl, _, rfl, _, rfl, pp, _, dp, _, _, rfl, hp2, T.clP, T.nWidth, pF_width, _, _, rfl, rfl, _, rfl, _, _, rfl, rfl, _, rfl, (by show 3 ≤ sizeLine; decide), fun t1 ht1 => ?_⟩
      have s1 : Same (upd H1 t0 (.tup [.int (xa : Nat), .int (xb : Nat), .int (xc : Nat)])) _ := same_new (o := .tup [.int (xb : Nat), .int ((x.wide : Int) - 1 - (xa : Int)), .int (xc : Nat)]) ht1
      have hD1 := s1 _ _ (s0 _ _ p3)
      refine ⟨D, _, rfl, DPut.t (k := turnK x.wide (key (cI (xa, xb, xc)))) hD1 upd_same lenK, ?_⟩
      rw [putK_new _ hnew]
      have e : turnD x.wide (kvs.take i) ++ [(turnK x.wide (key (cI (xa, xb, xc))), V.int ((x.at_ xa xb xc).byte.toNat : Int))] = turnD x.wide (kvs.take (i + 1)) := by
        rw [tk]
        unfold turnD
        rw [List.map_append]
        rfl
      rw [e]
      refine ⟨_, _, _, rfl, ?_, fun d o e n => ?_, upd_same⟩
      · rw [upd_ne Dc]
        exact s1 _ _ hq0
      · rw [upd_ne (fun z => by rw [z, hD] at e; cases e)]
        exact s1 _ _ (s0 _ _ (p2 d o e n))
    · rintro σ H1 ⟨v2, v3, v4, rfl, p1, p2, p3⟩
      rw [List.take_length] at p3
      have s1 : Same H (upd H1 cc (.dT kvs)) := fun d o e => by
        by_cases n : d = cc
        · subst n
          rw [hc] at e
          cases e
          exact upd_same
        · rw [upd_ne n]
          exact p2 d o e n
      have hp1 := s1 _ _ hp
      have hD1 : upd H1 cc (.dT kvs) D = some (.dT (turnD x.wide kvs)) := by rw [upd_ne (Ne.symm Dc)]; exact p3
      refine ⟨p1, _, rfl, pp, _, dp, _, _, rfl, hp1, T.clP, T.nName, pF_name, _, rfl, pp, _, dp, _, _, rfl, hp1, T.clP, T.nDepth, pF_depth, _, rfl, pp, _, dp, _, _, rfl, hp1, T.clP, T.nWidth, pF_width, _, rfl, pp, _, dp, _, _, rfl, hp1, T.clP, T.nHeight, pF_height, _, rfl, pp, _, dp, _, _, rfl, hp1, T.clP, T.nWeight, pF_weight, _, rfl, ?_⟩
      intro y dy ny ndy ney
      have sN : Same (upd H1 cc (.dT kvs)) (upd (upd (upd H1 cc (.dT kvs)) dy (.own y)) y (.ins a.CP dy [])) := fun b o q => by
        rw [upd_ne (ne_of_none q ny), upd_ne (ne_of_none q ndy)]
        exact q
      refine ⟨y, dy, nl, D, x.deep, x.wide, x.high, x.weight, rfl, upd_same, fun Hd hob hkp => ⟨rfl, ?_⟩⟩
      have sD : Same (upd H1 cc (.dT kvs)) Hd := fun b o q => hkp b o (sN b o q) (ne_of_none q ny)
      exact h Hd y (s1.trans sD) ⟨dy, nl, D, _, hob, sD _ _ (s1 _ _ PA.nm), sD _ _ hD1, turn_cells A⟩
def spBy (CP : Addr) : Sp := fun vs H Q _ => ∃ (r : Nat) (pp : Addr) (x : Part), vs = [.int (r : Nat), .ref pp] ∧ r ≤ 3 ∧ PartD CP H pp x ∧ Good x ∧ ∀ H' p, Same H H' → PartD CP H' p (x.turned r) → Q (.ref p) H'
theorem scBy : FnScope ["r", "part", "result", "turn"] ["r", "part"] (defScope s_turned_by) := ⟨rfl, rfl, rfl, by decide +kernel, rfl, by decide +kernel, by decide +kernel⟩
theorem ok_by (T : Txt K mg a) (S : TxtT K mg a c) : Ok P w K mg base CX0 4 c.tby ["r", "part"] (spBy a.CP) := by
  obtain ⟨fd, F⟩ := S.d_tby
  obtain ⟨fdO, GO, bO⟩ := ok_once (P := P) (w := w) (base := base) T S
  refine ⟨fd, F.ok (k := 3) scBy (fun vs H Q E h => ?_) (fun cdv A outer s H vs Q E hr h => ⟨_,
    pss_cons (ps_set (i := 2) scBy.nd rfl (Or.inl rfl) (pv 1))
    (pss_cons (ps_for PassesOwn.never rfl (pi_range1 rfl T.range (pa_cons (pv 0) pa_nil)) (pg_name (i := 3) scBy.nd rfl (Or.inl rfl))
      (pss_one (ps_set (i := 2) scBy.nd rfl (Or.inl rfl) (pe_call GO hr rfl S.g_once S.k_once bO .nil pass0 (pa_cons (pv 2) pa_nil)))))
    (pss_one (ps_ret (pv 2)))), ?_⟩),
    F.binds fun _ _ _ _ _ _ us hl => match us, hl with | [_, _], _ => rfl⟩
  · obtain ⟨r, pp, x, rfl, _⟩ := h
    rfl
  · obtain ⟨r, pp, x, rfl, hr3, PA, G, h⟩ := h
    refine ⟨_, rfl, _, rfl, ((r : Nat) : Int), rfl, by omega, by omega, for_range (lo := 0) (n := r) (fun i σ H' => ∃ (q : Addr) (v3 : Option V), σ = [some (.int (r : Nat)), some (.ref pp), some (.ref q), v3] ∧ Same H H' ∧ PartD a.CP H' q (x.turned i))
      ⟨pp, none, rfl, fun _ _ e => e, PA⟩ ?_ ?_⟩
    · rintro i σ H1 hi ⟨q, v3, rfl, s1, A1⟩
      exact ⟨_, rfl, q, x.turned i, rfl, A1, turned_good G i, fun H2 p s2 A2 => ⟨p, _, rfl, s1.trans s2, A2⟩⟩
    · rintro σ H1 ⟨q, v3, rfl, s1, A1⟩
      exact ⟨_, rfl, h H1 q s1 A1⟩
end
end St
set_option Elab.async false
set_option linter.all false
set_option maxRecDepth 100000
set_option maxHeartbeats 4000000
namespace St
open PySem PySem.Spec PyProof.Rows L2 PySem.Jx RdM BrPart BrRead Geo
open PySem.W (Codec)
structure AdC where
  (shp count : Addr)
structure TxtC (K : PySem.W.Frag) (mg : Str → Option Value) (a : Ad) (c : AdC) : Prop where
  g_shp : mg "same_shape" = some (.ref c.shp)
  k_shp : PySem.W.keepIn K (.ref c.shp) = true
  d_shp : Dn K "same_shape" "same_shape" s_same_shape c.shp
  g_count : mg "count_of_turns" = some (.ref c.count)
  k_count : PySem.W.keepIn K (.ref c.count) = true
  d_count : Dn K "count_of_turns" "count_of_turns" s_count_of_turns c.count
  c_most : ∃ t, mg "MOST_TURNS" = some (.int 3 t)
theorem turns_is {k : Nat} {ns : List Int} : PyWqasbw.turns (k : Int) ns = Neutral.shown (BrPartSpec.ofPart (txt ns) k fun p => .nums [p.turns]) := by
  have e : ((k : Int)).toNat = k := Int.toNat_natCast k
  have e2 : PyWqasbw.turns (k : Int) ns = Neutral.shown (BrPartSpec.ofPart (txt ns) ((k : Int)).toNat fun p => .nums [p.turns]) := rfl
  rw [e2, e]
theorem turns_er {k : Nat} {ns : List Int} {f : Nat} (hl : ns.length ≤ 100000) (h : readC (txt ns) = .error f) : PyWqasbw.turns (k : Int) ns = [-6] := by
  rw [turns_is]
  unfold BrPartSpec.ofPart
  rw [right_er hl h]
  rfl
theorem turns_wr {k : Nat} {ns : List Int} {ps : List Part} {q : Nat × Nat} (hl : ns.length ≤ 100000) (h : readC (txt ns) = .ok ps) (hw : wrong ps = some q) : PyWqasbw.turns (k : Int) ns = [-8] := by
  rw [turns_is]
  unfold BrPartSpec.ofPart
  rw [right_wr hl h hw]
  rfl
theorem turns_go {k : Nat} {ns : List Int} {ps : List Part} (hl : ns.length ≤ 100000) (h : readC (txt ns) = .ok ps) (hw : wrong ps = none) : PyWqasbw.turns (k : Int) ns = Neutral.shown (match ps[k]? with
    | some p => .nums [p.turns]
    | none => BrPartSpec.no 4) := by
  rw [turns_is]
  unfold BrPartSpec.ofPart
  rw [right_ok hl h hw]
  cases ps[k]? <;> rfl
/-! ### the turns that are told apart -/
def reps (x : Part) : Nat → List Part
  | 0 => []
  | i + 1 => if ((reps x i).any fun y => (x.turned i).same y) = true then reps x i else reps x i ++ [x.turned i]
theorem reps_good {x : Part} (G : Good x) : ∀ i, ∀ y ∈ reps x i, Good y
  | 0, y, h => by cases h
  | i + 1, y, h => by
    rw [reps] at h
    by_cases c : ((reps x i).any fun y => (x.turned i).same y) = true
    · rw [if_pos c] at h
      exact reps_good G i y h
    · rw [if_neg c] at h
      rcases List.mem_append.mp h with h | h
      · exact reps_good G i y h
      · rw [List.mem_singleton.mp h]
        exact turned_good G i
theorem reps_len (x : Part) : ∀ i, (reps x i).length ≤ i
  | 0 => Nat.le_refl _
  | i + 1 => by
    have h := reps_len x i
    rw [reps]
    by_cases c : ((reps x i).any fun y => (x.turned i).same y) = true
    · rw [if_pos c]
      omega
    · rw [if_neg c, List.length_append, List.length_singleton]
      omega
theorem reps_turns {x : Part} (G : Good x) : (reps x 4).length = x.turns := by
  have t4 : (x.turned 3).turn = x := turn4 G
  have step : ∀ i j : Nat, (x.turned i).same (x.turned j) = true → (x.turned (i + 1)).same (x.turned (j + 1)) = true := fun i j h => same_turn h
  have s31 : (x.turned 3).same x = true → (x.turned 1).same x = true := fun h => by
    have k := same_turn h
    rw [t4] at k
    exact same_symm k
  have s12 : (x.turned 1).same x = true → (x.turned 2).same x = true := fun h => same_trans (same_turn h) h
  have s13 : (x.turned 1).same x = true → (x.turned 3).same x = true := fun h => same_trans (same_turn (s12 h)) h
  have r1 : reps x 1 = [x] := rfl
  rw [turns_eq G]
  cases c1 : (x.turned 1).same x with
  | true =>
    have r2 : reps x 2 = [x] := by
      rw [reps, r1]
      simp only [List.any_cons, List.any_nil, c1, Bool.true_or, if_true]
    have r3 : reps x 3 = [x] := by
      rw [reps, r2]
      simp only [List.any_cons, List.any_nil, s12 c1, Bool.true_or, if_true]
    have r4 : reps x 4 = [x] := by
      rw [reps, r3]
      simp only [List.any_cons, List.any_nil, s13 c1, Bool.true_or, if_true]
    rw [r4]
    rfl
  | false =>
    have c3 : (x.turned 3).same x = false := by
      cases c : (x.turned 3).same x with
      | false => rfl
      | true => rw [s31 c] at c1; cases c1
    have r2 : reps x 2 = [x, x.turned 1] := by
      rw [reps, r1]
      simp only [List.any_cons, List.any_nil, c1, Bool.or_false, Bool.false_eq_true, if_false]
      rfl
    cases c2 : (x.turned 2).same x with
    | true =>
      have r3 : reps x 3 = [x, x.turned 1] := by
        rw [reps, r2]
        simp only [List.any_cons, List.any_nil, c2, Bool.true_or, if_true]
      have s : (x.turned 3).same (x.turned 1) = true := same_turn c2
      have r4 : reps x 4 = [x, x.turned 1] := by
        rw [reps, r3]
        simp only [List.any_cons, List.any_nil, s, Bool.true_or, Bool.or_true, if_true]
      rw [r4]
      rfl
    | false =>
      have c32 : (x.turned 3).same (x.turned 2) = false := by
        cases c : (x.turned 3).same (x.turned 2) with
        | false => rfl
        | true =>
          have k := same_turn c
          rw [t4] at k
          have k2 : x.same (x.turned 3) = true := k
          rw [same_symm k2] at c3
          cases c3
      have c21 : (x.turned 2).same (x.turned 1) = false := by
        cases c : (x.turned 2).same (x.turned 1) with
        | false => rfl
        | true =>
          have k : (x.turned 3).same (x.turned 2) = true := same_turn c
          rw [k] at c32
          cases c32
      have c31 : (x.turned 3).same (x.turned 1) = false := by
        cases c : (x.turned 3).same (x.turned 1) with
        | false => rfl
        | true =>
          have k := same_turn c
          rw [t4] at k
          have k2 : x.same (x.turned 2) = true := k
          rw [same_symm k2] at c2
          cases c2
      have r3 : reps x 3 = [x, x.turned 1, x.turned 2] := by
        rw [reps, r2]
        simp only [List.any_cons, List.any_nil, c2, c21, Bool.or_false, Bool.false_eq_true, if_false]
        rfl
      have r4 : reps x 4 = [x, x.turned 1, x.turned 2, x.turned 3] := by
        rw [reps, r3]
        simp only [List.any_cons, List.any_nil, c3, c31, c32, Bool.or_false, Bool.false_eq_true, if_false]
        rfl
      rw [r4]
      rfl
/-! ### a part in the heap, its name aside -/
def PartC (CP : Addr) (H : Hp) (pp : Addr) (x : Part) : Prop := ∃ dp nl c kvs, H pp = some (.ins CP dp (pF nl x.wide x.deep x.high x.weight c)) ∧ H c = some (.dT kvs) ∧ CellsAre x kvs
theorem PartD.c {CP : Addr} {H : Hp} {pp : Addr} {x : Part} (A : PartD CP H pp x) : PartC CP H pp x := by
  obtain ⟨dp, nl, c, kvs, h⟩ := A
  exact ⟨dp, nl, c, kvs, h.ob, h.cl, h.ar⟩
theorem PartC.same {CP : Addr} {H H' : Hp} {pp : Addr} {x : Part} (A : PartC CP H pp x) (s : Same H H') : PartC CP H' pp x := by
  obtain ⟨dp, nl, c, kvs, h1, h2, h3⟩ := A
  exact ⟨dp, nl, c, kvs, s _ _ h1, s _ _ h2, h3⟩
theorem PartC.lst {CP D : Addr} {H : Hp} {pp : Addr} {x : Part} {xs ys : List V} (A : PartC CP H pp x) (hD : H D = some (.lst xs)) : PartC CP (upd H D (.lst ys)) pp x := by
  obtain ⟨dp, nl, c, kvs, h1, h2, h3⟩ := A
  exact ⟨dp, nl, c, kvs, by rw [upd_ne (ne_of h1 hD (by intro z; cases z))]; exact h1, by rw [upd_ne (ne_of h2 hD (by intro z; cases z))]; exact h2, h3⟩
structure RepsAt (CP : Addr) (H : Hp) (as : List Addr) (ys : List Part) : Prop where
  len : as.length = ys.length
  it : ∀ (i : Nat) (p : Addr) (y : Part), as[i]? = some p → ys[i]? = some y → PartC CP H p y
theorem RepsAt.snoc {CP : Addr} {H : Hp} {as : List Addr} {ys : List Part} {p : Addr} {y : Part} (A : RepsAt CP H as ys) (h : PartC CP H p y) : RepsAt CP H (as ++ [p]) (ys ++ [y]) := by
  refine ⟨by rw [List.length_append, List.length_append, A.len]; rfl, fun i q z h1 h2 => ?_⟩
  by_cases hi : i < as.length
  · rw [List.getElem?_append_left hi] at h1
    rw [List.getElem?_append_left (by rw [← A.len]; exact hi)] at h2
    exact A.it i q z h1 h2
  · rw [List.getElem?_append_right (by omega)] at h1
    rw [List.getElem?_append_right (by rw [← A.len]; omega), ← A.len] at h2
    cases e : i - as.length with
    | zero =>
      rw [e] at h1 h2
      have z1 : p = q := Option.some.inj h1
      have z2 : y = z := Option.some.inj h2
      subst z1 z2
      exact h
    | succ n =>
      rw [e] at h1
      exact nomatch h1
section
variable {P : Program} {w : World} {K : PySem.W.Frag} {mg : Str → Option Value} {base : Heap} {a : Ad} {b : Ad2} {q : AdQ} {p : AdP} {t : AdT} {c : AdC}
/-! ### same_shape, count_of_turns -/
def spShp (CP : Addr) : Sp := fun vs H Q _ => ∃ (p1 p2 : Addr) (x y : Part), vs = [.ref p1, .ref p2] ∧ PartC CP H p1 x ∧ PartC CP H p2 y ∧ Good x ∧ Good y ∧ Q (.bl (x.same y)) H
theorem scShp : FnScope ["one", "other"] ["one", "other"] (defScope s_same_shape) := ⟨rfl, rfl, rfl, by decide +kernel, rfl, by decide +kernel, by decide +kernel⟩
theorem dec_nat {m n : Nat} : decide (V.int (m : Nat) = V.int (n : Nat)) = decide (m = n) := by
  by_cases h : m = n
  · subst h
    rw [decide_eq_true rfl, decide_eq_true rfl]
  · have z : ¬ (V.int (m : Nat) = V.int (n : Nat)) := fun z => h (Int.ofNat.inj (V.int.inj z))
    rw [decide_eq_false h, decide_eq_false z]
theorem ok_shp (T : Txt K mg a) (S : TxtC K mg a c) : Ok P w K mg base CX0 1 c.shp ["one", "other"] (spShp a.CP) := by
  obtain ⟨fd, F⟩ := S.d_shp
  refine ⟨fd, F.ok scShp (fun vs H Q E h => ?_) (fun cdv A outer s H vs Q E hr h => ⟨_,
    pss_one (ps_ret (pe_and (pe_cmpR op_eq (pe_fld (pv 0) rfl) (pe_fld (pv 1) rfl) (nomark _)) (pe_and (pe_cmpR op_eq (pe_fld (pv 0) rfl) (pe_fld (pv 1) rfl) (nomark _)) (pe_and (pe_cmpR op_eq (pe_fld (pv 0) rfl) (pe_fld (pv 1) rfl) (nomark _))
      (pe_one (pe_cmpR (op_eq_dT (hu_of hr)) (pe_fld (pv 0) rfl) (pe_fld (pv 1) rfl) (nomark _))))))), ?_⟩),
    F.binds fun _ _ _ _ _ _ us hl => match us, hl with | [_, _], _ => rfl⟩
  · obtain ⟨p1, p2, x, y, rfl, _⟩ := h
    rfl
  · obtain ⟨p1, p2, x, y, rfl, ⟨d1, n1, c1, ks, h1, hk, A⟩, ⟨d2, n2, c2, ls, h2, hm, B⟩, G, G2, h⟩ := h
    refine ⟨_, rfl, p1, _, d1, _, _, rfl, h1, T.clP, T.nWidth, pF_width, _, rfl, p2, _, d2, _, _, rfl, h2, T.clP, T.nWidth, pF_width, rfl, _, rfl, ?_⟩
    by_cases c1 : x.wide = y.wide
    case neg =>
      have e : x.same y = false := by
        unfold Part.same
        rw [beq_eq_false_iff_ne.mpr c1, Bool.false_and]
      rw [e] at h
      exact iteF' (dec_nat.trans (decide_eq_false c1)) h
    refine iteT' (dec_nat.trans (decide_eq_true c1)) ⟨_, rfl, p1, _, d1, _, _, rfl, h1, T.clP, T.nDepth, pF_depth, _, rfl, p2, _, d2, _, _, rfl, h2, T.clP, T.nDepth, pF_depth, rfl, _, rfl, ?_⟩
    by_cases c2 : x.deep = y.deep
    case neg =>
      have e : x.same y = false := by
        unfold Part.same
        rw [beq_eq_false_iff_ne.mpr c2, Bool.false_and, Bool.and_false]
      rw [e] at h
      exact iteF' (dec_nat.trans (decide_eq_false c2)) h
    refine iteT' (dec_nat.trans (decide_eq_true c2)) ⟨_, rfl, p1, _, d1, _, _, rfl, h1, T.clP, T.nHeight, pF_height, _, rfl, p2, _, d2, _, _, rfl, h2, T.clP, T.nHeight, pF_height, rfl, _, rfl, ?_⟩
    by_cases c3 : x.high = y.high
    case neg =>
      have e : x.same y = false := by
        unfold Part.same
        rw [beq_eq_false_iff_ne.mpr c3, Bool.false_and, Bool.and_false, Bool.and_false]
      rw [e] at h
      exact iteF' (dec_nat.trans (decide_eq_false c3)) h
    refine iteT' (dec_nat.trans (decide_eq_true c3)) ⟨_, rfl, p1, _, d1, _, _, rfl, h1, T.clP, T.nCells, pF_cells, _, rfl, p2, _, d2, _, _, rfl, h2, T.clP, T.nCells, pF_cells, _, _, ks, ls, rfl, rfl, hk, hm, A.ints, B.ints, ?_⟩
    have e : eqD ks ls = x.same y := by
      have i1 := cells_eq A B
      have i2 := same_iff G G2
      cases z : eqD ks ls with
      | true => exact (i2.mpr ⟨c1, c2, c3, i1.mp z⟩).symm
      | false =>
        cases z2 : x.same y with
        | false => rfl
        | true => rw [i1.mpr (i2.mp z2).2.2.2] at z; cases z
    rw [e]
    exact h
def spCount (CP : Addr) : Sp := fun vs H Q _ => ∃ (pp : Addr) (x : Part), vs = [.ref pp] ∧ PartD CP H pp x ∧ Good x ∧ ∀ H', Q (.int (x.turns : Nat)) H'
theorem scCount : FnScope ["part", "different", "r", "then", "other"] ["part"] (defScope s_count_of_turns) := ⟨rfl, rfl, rfl, by decide +kernel, rfl, by decide +kernel, by decide +kernel⟩
theorem ok_count (T : Txt K mg a) (U : Txt2 K mg a b) (VT : TxtT K mg a t) (S : TxtC K mg a c) : Ok P w K mg base CX0 5 c.count ["part"] (spCount a.CP) := by
  obtain ⟨fd, F⟩ := S.d_count
  obtain ⟨t3, h3⟩ := S.c_most
  obtain ⟨fdB, GB, bB⟩ := ok_by (P := P) (w := w) (base := base) T VT
  obtain ⟨fdS, GS, bS⟩ := ok_shp (P := P) (w := w) (base := base) T S
  refine ⟨fd, F.ok (k := 4) scCount (fun vs H Q E h => ?_) (fun cdv A outer s H vs Q E hr h => ⟨_,
    pss_cons (ps_set (i := 1) scCount.nd rfl (Or.inl rfl) (pe_lst pa_nil))
    (pss_cons (ps_for PassesOwn.never rfl (pi_range1 rfl T.range (pa_cons (pe_op op_add (pe_glob (v := .int 3) rfl h3 ⟨_, rfl⟩) pe_int) pa_nil)) (pg_name (i := 2) scCount.nd rfl (Or.inl rfl))
      (pss_cons (ps_set (i := 3) scCount.nd rfl (Or.inr rfl) (pe_call GB hr rfl VT.g_tby VT.k_tby bB .nil pass0 (pa_cons (pv 2) (pa_cons (pv 0) pa_nil))))
      (pss_one (ps_if (pt_not (pt_val (pe_callB (cr_any rfl) (by rfl) U.any (by decide +kernel) (pa_cons (pe_lc (own := [("other", 4)]) (g := gName 4) (tt := tYes)
          (te := tCall (spShp a.CP) [] E0 (tCons (tVar 3) (tCons (tVar 4) tNil))) rfl scCount.nd (pi_list (pv 1))
          (blkOk_by (own := [("other", 4)]) (N := ["part", "different", "r", "then", "other"]) (sc := defScope s_count_of_turns) (by decide +kernel))
          (fun _ _ _ _ _ => pg_name (i := 4) scCount.nd rfl (Or.inl rfl)) (fun _ _ _ _ _ => pts_nil)
          (fun _ _ _ _ _ => by exact (pe_call GS (hr.mono (by decide)) rfl S.g_shp S.k_shp bS .nil pass0 (by exact (pa_cons (pv 3) (pa_cons (pv 4) pa_nil)))))) pa_nil))))
        (pss_one (ps_expr (pe_bm PySem.F.plainAttrs_list PySem.F.slot_list_append PySem.F.type_list_append mt_append (pv 1) (pa_cons (pv 3) pa_nil)))) pss_nil))))
    (pss_one (ps_ret (pe_callB call_len (by rfl) T.len (by decide +kernel) (pa_cons (pv 1) pa_nil))))), ?_⟩),
    F.binds fun _ _ _ _ _ _ us hl => match us, hl with | [_], _ => rfl⟩
  · obtain ⟨pp, x, rfl, _⟩ := h
    rfl
  · obtain ⟨pp, x, rfl, A, G, h⟩ := h
    refine ⟨(by show 0 ≤ sizeLine; decide), fun D nD => ?_⟩
    have s0 : Same H _ := same_new (o := .lst []) nD
    refine ⟨_, _, rfl, rfl, ((4 : Nat) : Int), rfl, by omega, by omega, for_range (lo := 0) (n := 4) (fun i σ H' => ∃ (v2 v3 : Option V) (ds : List Addr), σ = [some (.ref pp), some (.ref D), v2, v3, none] ∧ Same H H' ∧ H' D = some (.lst (ds.map V.ref)) ∧ RepsAt a.CP H' ds (reps x i))
      ⟨none, none, [], rfl, s0, upd_same, rfl, fun i p y h1 h2 => nomatch h1⟩ ?_ ?_⟩
    · rintro i σ H1 hi ⟨v2, v3, ds, rfl, s1, hD1, R1⟩
      refine ⟨_, rfl, _, rfl, i, pp, x, ?_, by omega, A.same s1, G, fun H2 th s2 A2 => ?_⟩
      · show [V.int (0 + (i : Int)), V.ref pp] = _
        rw [Int.zero_add]
      have hD2 := s2 _ _ hD1
      refine ⟨_, rfl, D, rfl, ⟨_, SqL.of hD2⟩, fun C nC => ?_⟩
      have oldC : ∀ d o, H2 d = some o → d ≠ C := fun d o e => ne_of_none e nC
      refine lc_list (K := K) (a := D) (xs := ds.map V.ref) (fun j H' => Same H2 H' ∧ H' C = some (.lst ((((reps x i).take j).map fun y => (x.turned i).same y).map V.bl))) ⟨same_new nC, upd_same⟩ (fun j H' _ p => p.1.seq (SqL.of hD2)) ?_ ?_
      · rintro j y H3 hj ⟨s3, h3⟩
        rw [List.getElem?_map] at hj
        obtain ⟨d, hd, ey⟩ := Option.map_eq_some_iff.mp hj
        subst ey
        have hjl : j < (reps x i).length := by rw [← R1.len]; exact (List.getElem?_eq_some_iff.mp hd).1
        have hy : (reps x i)[j]? = some (reps x i)[j] := List.getElem?_eq_getElem hjl
        have PC := R1.it j d _ hd hy
        refine ⟨rfl, _, rfl, _, rfl, th, d, x.turned i, (reps x i)[j], rfl, A2.c.same s3, (PC.same s2).same s3, turned_good G i, reps_good G i _ (List.mem_of_getElem? hy), _, h3, ?_, ?_, ?_⟩
        · rw [List.length_map, List.length_map, List.length_take]
          have := reps_len x i
          exact small4 (by omega)
        · intro d' o e
          rw [upd_ne (oldC d' o e)]
          exact s3 _ _ e
        · rw [take_more hy, List.map_append, List.map_append]
          exact upd_same
      · rintro H3 ⟨s3, h3⟩
        rw [List.length_map, R1.len, List.take_length] at h3
        refine ⟨C, _, rfl, SqL.of h3, ?_⟩
        have R3 : RepsAt a.CP H3 ds (reps x i) := ⟨R1.len, fun j q y h1 h2 => ((R1.it j q y h1 h2).same s2).same s3⟩
        have hD3 := s3 _ _ hD2
        rw [List.any_map]
        have e : ((reps x i).any (id ∘ fun y => (x.turned i).same y)) = (reps x i).any fun y => (x.turned i).same y := rfl
        rw [e]
        cases z : ((reps x i).any fun y => (x.turned i).same y) with
        | true =>
          have e2 : reps x (i + 1) = reps x i := by rw [reps, if_pos z]
          refine ⟨_, rfl, iteF ⟨some (.int (0 + (i : Int))), some (.ref th), ds, rfl, s1.trans (s2.trans s3), hD3, ?_⟩⟩
          rw [e2]
          exact R3
        | false =>
          have e2 : reps x (i + 1) = reps x i ++ [x.turned i] := by rw [reps, if_neg (by rw [z]; exact Bool.false_ne_true)]
          refine ⟨_, rfl, iteT ⟨_, rfl, .inl ⟨rfl, _, SqL.of hD3⟩, _, rfl, D, _, _, rfl, rfl, hD3, ?_, ?_⟩⟩
          · rw [List.length_map, R1.len]
            have := reps_len x i
            exact small4 (by omega)
          · have hDn : ∀ d o, H d = some o → d ≠ D := fun d o e => ne_of_none e nD
            refine ⟨some (.int (0 + (i : Int))), some (.ref th), ds ++ [th], rfl, fun d o e => ?_, ?_, ?_⟩
            · rw [upd_ne (hDn d o e)]
              exact s3 _ _ (s2 _ _ (s1 _ _ e))
            · rw [List.map_append]
              exact upd_same
            · rw [e2]
              have R4 : RepsAt a.CP (upd H3 D (.lst (ds.map V.ref ++ [V.ref th]))) ds (reps x i) := ⟨R3.len, fun j q y h1 h2 => (R3.it j q y h1 h2).lst hD3⟩
              exact R4.snoc ((A2.c.same s3).lst hD3)
    · rintro σ H1 ⟨v2, v3, ds, rfl, s1, hD1, R1⟩
      refine ⟨_, rfl, _, _, rfl, .inl ⟨_, SqL.of hD1, rfl⟩, ?_⟩
      rw [List.length_map, R1.len, reps_turns G]
      exact h H1
/-! ### turns -/
def spTurns (K : PySem.W.Frag) : Sp := fun vs H Q _ => ∃ (ta : Addr) (k : Nat) (ns : List Int), vs = [.int (k : Nat), .ref ta] ∧ SqL K H ta (ns.map V.int) ∧ ns.length ≤ 100000 ∧ (∀ x ∈ ns, 0 ≤ x ∧ x ≤ 255) ∧
  ∀ (H' : Hp) (p : Addr), H' p = some (.lst ((PyWqasbw.turns (k : Int) ns).map V.int)) → Q (.ref p) H'
theorem scTurns : FnScope ["k", "t", "e"] ["k", "t"] (defScope s_turns) := ⟨rfl, rfl, rfl, by decide +kernel, rfl, by decide +kernel, by decide +kernel⟩
def sNum2 (K : PySem.W.Frag) : Suite := fun a0 cls d => tRet (tLst (tCons (tErrF K "number" a0 cls d (tVar 2)) tNil))
theorem ok_turns {f CRf : Addr} {fd : FuncData} (F : Fun K "turns" "turns" s_turns f fd) (T : Txt K mg a) (U : Txt2 K mg a b) (N : TxtQ K mg a q) (S : TxtP K mg a p) (VT : TxtT K mg a t) (M : TxtC K mg a c) (gRf : mg "Refused" = some (.ref CRf))
    (x1 : PySem.W.exmOne K (.ref a.CN) (.ref CRf) = some true) (x2 : PySem.W.exmOne K (.ref b.CW) (.ref CRf) = some true) (x3 : PySem.W.exmOne K (.ref q.CSp) (.ref CRf) = some true) :
    FnOk P w K mg base CX0 9 f fd ["k", "t"] (spTurns K) := by
  obtain ⟨fdC, GC, bC⟩ := ok_chosen (P := P) (w := w) (base := base) T U N S
  obtain ⟨fdM, GM, bM⟩ := ok_count (P := P) (w := w) (base := base) T U VT M
  refine F.ok (k := 8) scTurns (fun vs H Q E h => ?_) (fun cdv A outer s H vs Q E hr h => ⟨_,
    pss_one (ps_try_each (i := 2) (n := "e") (l := [(.ref CRf, sNum2 K)]) (tb := fun W => tRet (tLst (tCons (tCall (spCount a.CP) [] E0 (tCons (tCallS (spChosen K a.CP a.CN b.CW q.CSp) (WE W) (tCons (tVar 0) (tCons (tVar 1) tNil))) tNil)) tNil))) (Wout := fun _ _ _ _ => False) rfl rfl scTurns.nd rfl rfl takes0
      (fun W pn xe tk _ => pss_one (ps_ret (pe_lst (pa_cons (pe_call GM (hr.mono (by decide)) rfl M.g_count M.k_count bM .nil pass0 (by exact (pa_cons (pe_callS GC hr rfl S.g_chosen S.k_chosen bC (fun σ => passAt tk σ) (by exact (pa_cons (pv 0) (pa_cons (pv 1) pa_nil)))) pa_nil))) pa_nil))))
      (.cons ⟨rfl, by decide, .inl gRf⟩ (fun a0 oe cls d pn hz hf => pss_one (ps_ret (pe_lst (by exact (pa_cons (pe_errF hz hf (pv 2)) pa_nil))))) .nil)), ?_⟩)
  · obtain ⟨ta, k, ns, rfl, _⟩ := h
    rfl
  · obtain ⟨ta, k, ns, rfl, tx, hl, hb, h⟩ := h
    rw [← txt_V hb] at tx
    have one : ∀ (C d : Addr) (z : Int) (fs : List (Str × V)) (H1 : Hp), CT K C → PySem.W.exmOne K (.ref C) (.ref CRf) = some true → H1 d = some (.xd fs) → fs.lookup ("number" : Str) = some (.int z) → PyWqasbw.turns (k : Int) ns = [z] →
        wEach K 2 (fun _ _ _ _ => False) { nx := fun _ H => Q .non H, rt := Q, bk := fun _ _ => False, ct := fun _ _ => False } [(.ref CRf, sNum2 K)] (.ref C) (some d) [some (.int (k : Nat)), some (.ref ta), none] H1 := by
      intro C d z fs H1 ct xx hd hz e
      refine ⟨true, xx, fun _ a0 _ => ?_, fun q => Bool.noConfusion q⟩
      refine ⟨_, rfl, rfl, C, d, _, _, rfl, ct, ct.nN, rfl, hd, hz, ?_⟩
      refine ⟨(by show 1 ≤ sizeLine; decide), fun p hp => h _ p ?_⟩
      rw [e]
      exact upd_same
    refine ⟨_, rfl, _, rfl, ta, k, txt ns, rfl, tx, (by rw [txt_len]; exact hl), ⟨fun f hf d H1 hd => ?_, fun ps k i hps hw d H1 hd => ?_⟩, fun ps hps hw => ⟨fun x hx G pp H' s1 ip => ?_, fun hx d H1 hd => ?_⟩⟩
    · exact one _ d _ _ H1 T.eN.ct x1 hd ((lk_past (by decide +kernel)).trans lk_here) (turns_er hl hf)
    · exact one _ d _ _ H1 U.eW.ct x2 hd ((lk_past (by decide +kernel)).trans ((lk_past (by decide +kernel)).trans lk_here)) (turns_wr hl hps hw)
    · refine ⟨pp, x, rfl, ip.d G, G, fun H' => ⟨(by show 1 ≤ sizeLine; decide), fun p hp => h _ p ?_⟩⟩
      rw [turns_go hl hps hw, hx]
      exact upd_same
    · exact one _ d _ _ H1 N.e_Sp.ct x3 hd lk_here (by rw [turns_go hl hps hw, hx]; rfl)
end
section
theorem all_mk {P : Program} {w : World} {K : PySem.W.Frag} {h : Heap} {mg : Str → Option Value} {fa fM digit letter fits sgns sgn next fail need rname rnum rsign rcells rpart iR iP CR CP CN iN rcat CRf fR hstud htube pstud ptube acov astop spans sides besd reach togth broken order right CW iW pin CSp iSp chosen once tby shp count : Addr} (X : K.In h) (G : h.Ns mainGlobals mg) (hfa : mg "turns" = some (.ref fa))
    {od_digit an_digit : Option Addr}
    {sl_digit : Array (Option Value)}
    {oc_digit kV_digit dc_digit pm_digit cd_digit ct_digit : Value}
    {od_letter an_letter : Option Addr}
    {sl_letter : Array (Option Value)}
    {oc_letter kV_letter dc_letter pm_letter cd_letter ct_letter : Value}
    {od_fits an_fits : Option Addr}
    {sl_fits : Array (Option Value)}
    {oc_fits kV_fits dc_fits pm_fits cd_fits ct_fits : Value}
    {od_sgns an_sgns : Option Addr}
    {sl_sgns : Array (Option Value)}
    {oc_sgns kV_sgns dc_sgns pm_sgns cd_sgns ct_sgns : Value}
    {od_sgn an_sgn : Option Addr}
    {sl_sgn : Array (Option Value)}
    {oc_sgn kV_sgn dc_sgn pm_sgn cd_sgn ct_sgn : Value}
    {od_rcat an_rcat : Option Addr}
    {sl_rcat : Array (Option Value)}
    {oc_rcat kV_rcat dc_rcat pm_rcat cd_rcat ct_rcat : Value}
    {od_next an_next : Option Addr}
    {sl_next : Array (Option Value)}
    {oc_next kV_next dc_next pm_next cd_next ct_next : Value}
    {od_fail an_fail : Option Addr}
    {sl_fail : Array (Option Value)}
    {oc_fail kV_fail dc_fail pm_fail cd_fail ct_fail : Value}
    {od_need an_need : Option Addr}
    {sl_need : Array (Option Value)}
    {oc_need kV_need dc_need pm_need cd_need ct_need : Value}
    {od_rname an_rname : Option Addr}
    {sl_rname : Array (Option Value)}
    {oc_rname kV_rname dc_rname pm_rname cd_rname ct_rname : Value}
    {od_rnum an_rnum : Option Addr}
    {sl_rnum : Array (Option Value)}
    {oc_rnum kV_rnum dc_rnum pm_rnum cd_rnum ct_rnum : Value}
    {od_rsign an_rsign : Option Addr}
    {sl_rsign : Array (Option Value)}
    {oc_rsign kV_rsign dc_rsign pm_rsign cd_rsign ct_rsign : Value}
    {od_rcells an_rcells : Option Addr}
    {sl_rcells : Array (Option Value)}
    {oc_rcells kV_rcells dc_rcells pm_rcells cd_rcells ct_rcells : Value}
    {od_rpart an_rpart : Option Addr}
    {sl_rpart : Array (Option Value)}
    {oc_rpart kV_rpart dc_rpart pm_rpart cd_rpart ct_rpart : Value}
    {od_iR an_iR : Option Addr}
    {sl_iR : Array (Option Value)}
    {oc_iR kV_iR dc_iR pm_iR cd_iR ct_iR : Value}
    {od_iP an_iP : Option Addr}
    {sl_iP : Array (Option Value)}
    {oc_iP kV_iP dc_iP pm_iP cd_iP ct_iP : Value}
    {od_fR an_fR : Option Addr}
    {sl_fR : Array (Option Value)}
    {oc_fR kV_fR dc_fR pm_fR cd_fR ct_fR : Value}
    {nmN qN : Str}
    {NN : Addr}
    {bsN : List Value}
    {snN : List Str}
    {subN : List Value}
    {abN : Bool}
    {colN : Option Bool}
    {ddN : Option Addr}
    {m0N m1N m2N m3N m5N : Option Value}
    {od_iN an_iN : Option Addr}
    {sl_iN : Array (Option Value)}
    {oc_iN kV_iN dc_iN pm_iN cd_iN ct_iN : Value}
    {t_cName : Tok}
    {t_cEnd : Tok}
    {t_cWide : Tok}
    {t_cHigh : Tok}
    {t_cHeavy : Tok}
    {t_cParts : Tok}
    {t_cBytes : Tok}
    {t_c46 : Tok}
    {t_c35 : Tok}
    {t_c115 : Tok}
    {t_c116 : Tok}
    {t_c98 : Tok}
    {od_hstud an_hstud : Option Addr}
    {sl_hstud : Array (Option Value)}
    {oc_hstud kV_hstud dc_hstud pm_hstud cd_hstud ct_hstud : Value}
    {od_htube an_htube : Option Addr}
    {sl_htube : Array (Option Value)}
    {oc_htube kV_htube dc_htube pm_htube cd_htube ct_htube : Value}
    {od_acov an_acov : Option Addr}
    {sl_acov : Array (Option Value)}
    {oc_acov kV_acov dc_acov pm_acov cd_acov ct_acov : Value}
    {od_astop an_astop : Option Addr}
    {sl_astop : Array (Option Value)}
    {oc_astop kV_astop dc_astop pm_astop cd_astop ct_astop : Value}
    {od_spans an_spans : Option Addr}
    {sl_spans : Array (Option Value)}
    {oc_spans kV_spans dc_spans pm_spans cd_spans ct_spans : Value}
    {od_sides an_sides : Option Addr}
    {sl_sides : Array (Option Value)}
    {oc_sides kV_sides dc_sides pm_sides cd_sides ct_sides : Value}
    {od_besd an_besd : Option Addr}
    {sl_besd : Array (Option Value)}
    {oc_besd kV_besd dc_besd pm_besd cd_besd ct_besd : Value}
    {od_reach an_reach : Option Addr}
    {sl_reach : Array (Option Value)}
    {oc_reach kV_reach dc_reach pm_reach cd_reach ct_reach : Value}
    {od_togth an_togth : Option Addr}
    {sl_togth : Array (Option Value)}
    {oc_togth kV_togth dc_togth pm_togth cd_togth ct_togth : Value}
    {od_broken an_broken : Option Addr}
    {sl_broken : Array (Option Value)}
    {oc_broken kV_broken dc_broken pm_broken cd_broken ct_broken : Value}
    {od_order an_order : Option Addr}
    {sl_order : Array (Option Value)}
    {oc_order kV_order dc_order pm_order cd_order ct_order : Value}
    {od_right an_right : Option Addr}
    {sl_right : Array (Option Value)}
    {oc_right kV_right dc_right pm_right cd_right ct_right : Value}
    {od_pstud an_pstud : Option Addr}
    {sl_pstud : Array (Option Value)}
    {oc_pstud kV_pstud dc_pstud pm_pstud cd_pstud ct_pstud : Value}
    {od_ptube an_ptube : Option Addr}
    {sl_ptube : Array (Option Value)}
    {oc_ptube kV_ptube dc_ptube pm_ptube cd_ptube ct_ptube : Value}
    {nmW qW : Str}
    {NW : Addr}
    {bsW : List Value}
    {snW : List Str}
    {subW : List Value}
    {abW : Bool}
    {colW : Option Bool}
    {ddW : Option Addr}
    {m0W m1W m2W m3W m5W : Option Value}
    {od_iW an_iW : Option Addr}
    {sl_iW : Array (Option Value)}
    {oc_iW kV_iW dc_iW pm_iW cd_iW ct_iW : Value}
    {od_pin an_pin : Option Addr}
    {sl_pin : Array (Option Value)}
    {oc_pin kV_pin dc_pin pm_pin cd_pin ct_pin : Value}
    {nmSp qSp : Str}
    {NSp : Addr}
    {bsSp : List Value}
    {snSp : List Str}
    {subSp : List Value}
    {abSp : Bool}
    {colSp : Option Bool}
    {ddSp : Option Addr}
    {m0Sp m1Sp m2Sp m3Sp m5Sp : Option Value}
    {od_iSp an_iSp : Option Addr}
    {sl_iSp : Array (Option Value)}
    {oc_iSp kV_iSp dc_iSp pm_iSp cd_iSp ct_iSp : Value}
    {od_chosen an_chosen : Option Addr}
    {sl_chosen : Array (Option Value)}
    {oc_chosen kV_chosen dc_chosen pm_chosen cd_chosen ct_chosen : Value}
    {od_once an_once : Option Addr}
    {sl_once : Array (Option Value)}
    {oc_once kV_once dc_once pm_once cd_once ct_once : Value}
    {od_tby an_tby : Option Addr}
    {sl_tby : Array (Option Value)}
    {oc_tby kV_tby dc_tby pm_tby cd_tby ct_tby : Value}
    {od_shp an_shp : Option Addr}
    {sl_shp : Array (Option Value)}
    {oc_shp kV_shp dc_shp pm_shp cd_shp ct_shp : Value}
    {od_count an_count : Option Addr}
    {sl_count : Array (Option Value)}
    {oc_count kV_count dc_count pm_count cd_count ct_count : Value}
    {t_most : Tok}
    {od_main an_main : Option Addr}
    {sl_main : Array (Option Value)}
    {oc_main kV_main dc_main pm_main cd_main ct_main : Value}
    (g_digit : PySem.W.nsIn K mainGlobals "is_digit" = some (some (.ref digit)))
    (l_digit : K.lookup digit = some ⟨oc_digit, od_digit, .func (PySem.W.fnOf "is_digit" "is_digit" (defArgs s_is_digit) (defBody s_is_digit) (defScope s_is_digit) .none kV_digit dc_digit pm_digit an_digit cd_digit ct_digit), sl_digit⟩)
    (c_digit : PySem.W.codeIn K cd_digit "is_digit" = true)
    (k_digit : PySem.W.keepIn K (.ref digit) = true)
    (g_letter : PySem.W.nsIn K mainGlobals "is_letter" = some (some (.ref letter)))
    (l_letter : K.lookup letter = some ⟨oc_letter, od_letter, .func (PySem.W.fnOf "is_letter" "is_letter" (defArgs s_is_letter) (defBody s_is_letter) (defScope s_is_letter) .none kV_letter dc_letter pm_letter an_letter cd_letter ct_letter), sl_letter⟩)
    (c_letter : PySem.W.codeIn K cd_letter "is_letter" = true)
    (k_letter : PySem.W.keepIn K (.ref letter) = true)
    (g_fits : PySem.W.nsIn K mainGlobals "fits_name" = some (some (.ref fits)))
    (l_fits : K.lookup fits = some ⟨oc_fits, od_fits, .func (PySem.W.fnOf "fits_name" "fits_name" (defArgs s_fits_name) (defBody s_fits_name) (defScope s_fits_name) .none kV_fits dc_fits pm_fits an_fits cd_fits ct_fits), sl_fits⟩)
    (c_fits : PySem.W.codeIn K cd_fits "fits_name" = true)
    (k_fits : PySem.W.keepIn K (.ref fits) = true)
    (g_sgns : PySem.W.nsIn K mainGlobals "signs_in_order" = some (some (.ref sgns)))
    (l_sgns : K.lookup sgns = some ⟨oc_sgns, od_sgns, .func (PySem.W.fnOf "signs_in_order" "signs_in_order" (defArgs s_signs_in_order) (defBody s_signs_in_order) (defScope s_signs_in_order) .none kV_sgns dc_sgns pm_sgns an_sgns cd_sgns ct_sgns), sl_sgns⟩)
    (c_sgns : PySem.W.codeIn K cd_sgns "signs_in_order" = true)
    (k_sgns : PySem.W.keepIn K (.ref sgns) = true)
    (g_sgn : PySem.W.nsIn K mainGlobals "is_sign" = some (some (.ref sgn)))
    (l_sgn : K.lookup sgn = some ⟨oc_sgn, od_sgn, .func (PySem.W.fnOf "is_sign" "is_sign" (defArgs s_is_sign) (defBody s_is_sign) (defScope s_is_sign) .none kV_sgn dc_sgn pm_sgn an_sgn cd_sgn ct_sgn), sl_sgn⟩)
    (c_sgn : PySem.W.codeIn K cd_sgn "is_sign" = true)
    (k_sgn : PySem.W.keepIn K (.ref sgn) = true)
    (g_rcat : PySem.W.nsIn K mainGlobals "read_catalogue" = some (some (.ref rcat)))
    (l_rcat : K.lookup rcat = some ⟨oc_rcat, od_rcat, .func (PySem.W.fnOf "read_catalogue" "read_catalogue" (defArgs s_read_catalogue) (defBody s_read_catalogue) (defScope s_read_catalogue) .none kV_rcat dc_rcat pm_rcat an_rcat cd_rcat ct_rcat), sl_rcat⟩)
    (c_rcat : PySem.W.codeIn K cd_rcat "read_catalogue" = true)
    (k_rcat : PySem.W.keepIn K (.ref rcat) = true)
    (g_CR : PySem.W.nsIn K mainGlobals "Reader" = some (some (.ref CR)))
    (g_CP : PySem.W.nsIn K mainGlobals "Part" = some (some (.ref CP)))
    (g_CN : PySem.W.nsIn K mainGlobals "NoCatalogue" = some (some (.ref CN)))
    (g_CRf : PySem.W.nsIn K mainGlobals "Refused" = some (some (.ref CRf)))
    (pgR : PySem.W.plainGet K CR Str.empty = true)
    (hdR : PySem.W.hasDictIn K CR = true)
    (poR : PySem.W.plainOver K CR = true)
    (saR : PySem.W.findIn K (.ref CR) "__setattr__" = some (some (.builtin "object.__setattr__")))
    (mkR : PySem.W.makesIn K CR = true)
    (kcR : PySem.W.keepIn K (.ref CR) = true)
    (pgP : PySem.W.plainGet K CP Str.empty = true)
    (hdP : PySem.W.hasDictIn K CP = true)
    (poP : PySem.W.plainOver K CP = true)
    (saP : PySem.W.findIn K (.ref CP) "__setattr__" = some (some (.builtin "object.__setattr__")))
    (mkP : PySem.W.makesIn K CP = true)
    (kcP : PySem.W.keepIn K (.ref CP) = true)
    (nT : PySem.W.findIn K (.ref CR) "t" = some none)
    (nAt : PySem.W.findIn K (.ref CR) "at" = some none)
    (n_name : PySem.W.findIn K (.ref CP) "name" = some none)
    (n_width : PySem.W.findIn K (.ref CP) "width" = some none)
    (n_depth : PySem.W.findIn K (.ref CP) "depth" = some none)
    (n_height : PySem.W.findIn K (.ref CP) "height" = some none)
    (n_weight : PySem.W.findIn K (.ref CP) "weight" = some none)
    (n_cells : PySem.W.findIn K (.ref CP) "cells" = some none)
    (a_next : PySem.W.findIn K (.ref CR) "next_byte" = some (some (.ref next)))
    (i_next : PySem.W.isFn K (.ref next) = true)
    (l_next : K.lookup next = some ⟨oc_next, od_next, .func (PySem.W.fnOf "next_byte" "Reader.next_byte" (defArgs s_Reader_next_byte) (defBody s_Reader_next_byte) (defScope s_Reader_next_byte) .none kV_next dc_next pm_next an_next cd_next ct_next), sl_next⟩)
    (c_next : PySem.W.codeIn K cd_next "Reader.next_byte" = true)
    (k_next : PySem.W.keepIn K (.ref next) = true)
    (a_fail : PySem.W.findIn K (.ref CR) "fail_unless" = some (some (.ref fail)))
    (i_fail : PySem.W.isFn K (.ref fail) = true)
    (l_fail : K.lookup fail = some ⟨oc_fail, od_fail, .func (PySem.W.fnOf "fail_unless" "Reader.fail_unless" (defArgs s_Reader_fail_unless) (defBody s_Reader_fail_unless) (defScope s_Reader_fail_unless) .none kV_fail dc_fail pm_fail an_fail cd_fail ct_fail), sl_fail⟩)
    (c_fail : PySem.W.codeIn K cd_fail "Reader.fail_unless" = true)
    (k_fail : PySem.W.keepIn K (.ref fail) = true)
    (a_need : PySem.W.findIn K (.ref CR) "need" = some (some (.ref need)))
    (i_need : PySem.W.isFn K (.ref need) = true)
    (l_need : K.lookup need = some ⟨oc_need, od_need, .func (PySem.W.fnOf "need" "Reader.need" (defArgs s_Reader_need) (defBody s_Reader_need) (defScope s_Reader_need) .none kV_need dc_need pm_need an_need cd_need ct_need), sl_need⟩)
    (c_need : PySem.W.codeIn K cd_need "Reader.need" = true)
    (k_need : PySem.W.keepIn K (.ref need) = true)
    (a_rname : PySem.W.findIn K (.ref CR) "read_name" = some (some (.ref rname)))
    (i_rname : PySem.W.isFn K (.ref rname) = true)
    (l_rname : K.lookup rname = some ⟨oc_rname, od_rname, .func (PySem.W.fnOf "read_name" "Reader.read_name" (defArgs s_Reader_read_name) (defBody s_Reader_read_name) (defScope s_Reader_read_name) .none kV_rname dc_rname pm_rname an_rname cd_rname ct_rname), sl_rname⟩)
    (c_rname : PySem.W.codeIn K cd_rname "Reader.read_name" = true)
    (k_rname : PySem.W.keepIn K (.ref rname) = true)
    (a_rnum : PySem.W.findIn K (.ref CR) "read_number" = some (some (.ref rnum)))
    (i_rnum : PySem.W.isFn K (.ref rnum) = true)
    (l_rnum : K.lookup rnum = some ⟨oc_rnum, od_rnum, .func (PySem.W.fnOf "read_number" "Reader.read_number" (defArgs s_Reader_read_number) (defBody s_Reader_read_number) (defScope s_Reader_read_number) .none kV_rnum dc_rnum pm_rnum an_rnum cd_rnum ct_rnum), sl_rnum⟩)
    (c_rnum : PySem.W.codeIn K cd_rnum "Reader.read_number" = true)
    (k_rnum : PySem.W.keepIn K (.ref rnum) = true)
    (a_rsign : PySem.W.findIn K (.ref CR) "read_sign" = some (some (.ref rsign)))
    (i_rsign : PySem.W.isFn K (.ref rsign) = true)
    (l_rsign : K.lookup rsign = some ⟨oc_rsign, od_rsign, .func (PySem.W.fnOf "read_sign" "Reader.read_sign" (defArgs s_Reader_read_sign) (defBody s_Reader_read_sign) (defScope s_Reader_read_sign) .none kV_rsign dc_rsign pm_rsign an_rsign cd_rsign ct_rsign), sl_rsign⟩)
    (c_rsign : PySem.W.codeIn K cd_rsign "Reader.read_sign" = true)
    (k_rsign : PySem.W.keepIn K (.ref rsign) = true)
    (a_rcells : PySem.W.findIn K (.ref CR) "read_cells" = some (some (.ref rcells)))
    (i_rcells : PySem.W.isFn K (.ref rcells) = true)
    (l_rcells : K.lookup rcells = some ⟨oc_rcells, od_rcells, .func (PySem.W.fnOf "read_cells" "Reader.read_cells" (defArgs s_Reader_read_cells) (defBody s_Reader_read_cells) (defScope s_Reader_read_cells) .none kV_rcells dc_rcells pm_rcells an_rcells cd_rcells ct_rcells), sl_rcells⟩)
    (c_rcells : PySem.W.codeIn K cd_rcells "Reader.read_cells" = true)
    (k_rcells : PySem.W.keepIn K (.ref rcells) = true)
    (a_rpart : PySem.W.findIn K (.ref CR) "read_part" = some (some (.ref rpart)))
    (i_rpart : PySem.W.isFn K (.ref rpart) = true)
    (l_rpart : K.lookup rpart = some ⟨oc_rpart, od_rpart, .func (PySem.W.fnOf "read_part" "Reader.read_part" (defArgs s_Reader_read_part) (defBody s_Reader_read_part) (defScope s_Reader_read_part) .none kV_rpart dc_rpart pm_rpart an_rpart cd_rpart ct_rpart), sl_rpart⟩)
    (c_rpart : PySem.W.codeIn K cd_rpart "Reader.read_part" = true)
    (k_rpart : PySem.W.keepIn K (.ref rpart) = true)
    (a_iR : PySem.W.findIn K (.ref CR) "__init__" = some (some (.ref iR)))
    (i_iR : PySem.W.isFn K (.ref iR) = true)
    (l_iR : K.lookup iR = some ⟨oc_iR, od_iR, .func (PySem.W.fnOf "__init__" "Reader.__init__" (defArgs s_Reader_init) (defBody s_Reader_init) (defScope s_Reader_init) .none kV_iR dc_iR pm_iR an_iR cd_iR ct_iR), sl_iR⟩)
    (c_iR : PySem.W.codeIn K cd_iR "Reader.__init__" = true)
    (k_iR : PySem.W.keepIn K (.ref iR) = true)
    (a_iP : PySem.W.findIn K (.ref CP) "__init__" = some (some (.ref iP)))
    (i_iP : PySem.W.isFn K (.ref iP) = true)
    (l_iP : K.lookup iP = some ⟨oc_iP, od_iP, .func (PySem.W.fnOf "__init__" "Part.__init__" (defArgs s_Part_init) (defBody s_Part_init) (defScope s_Part_init) .none kV_iP dc_iP pm_iP an_iP cd_iP ct_iP), sl_iP⟩)
    (c_iP : PySem.W.codeIn K cd_iP "Part.__init__" = true)
    (k_iP : PySem.W.keepIn K (.ref iP) = true)
    (rdRf : PySem.W.readsIn K CRf (.type "type") = true)
    (gaRf : PySem.W.specialIn K (.ref CRf) "__getattribute__" = some (some (.builtin "type.__getattribute__")))
    (inRf : PySem.W.findCls K (.ref CRf) (.type "type") "__init__" = some (.val (.ref fR)))
    (l_fR : K.lookup fR = some ⟨oc_fR, od_fR, .func (PySem.W.fnOf "__init__" "Refused.__init__" (defArgs s_Refused_init) (defBody s_Refused_init) (defScope s_Refused_init) .none kV_fR dc_fR pm_fR an_fR cd_fR ct_fR), sl_fR⟩)
    (c_fR : PySem.W.codeIn K cd_fR "Refused.__init__" = true)
    (k_fR : PySem.W.keepIn K (.ref fR) = true)
    (xLN : K.lookup CN = some (excClassObj nmN qN CN NN bsN [.ref CRf, .type "Exception", .type "BaseException", .type "object"] true snN subN abN colN ddN m0N m1N m2N m3N m5N "Exception.__new__"))
    (saN : PySem.W.findIn K (.ref CN) "__setattr__" = some (some (.builtin "object.__setattr__")))
    (gaN : PySem.W.findIn K (.ref CN) "__getattribute__" = some (some (.builtin "BaseException.__getattribute__")))
    (ggN : PySem.W.findIn K (.ref CN) "__getattr__" = some none)
    (nnN : PySem.W.findIn K (.ref CN) "number" = some none)
    (n_faultN : PySem.W.findIn K (.ref CN) "fault" = some none)
    (kCN : PySem.W.keepIn K (.ref CN) = true)
    (eCN : PySem.W.subIn K (.ref CN) (.type "BaseException") = some true)
    (tCN : PySem.W.typeIn K (.ref CN) = some (.type "type"))
    (hCN : PySem.W.hasDictIn K CN = true)
    (iCN : PySem.W.isClsIn K CN = true)
    (sCN : PySem.W.subIn K (.ref CN) (.ref CN) = some true)
    (a_iN : PySem.W.findIn K (.ref CN) "__init__" = some (some (.ref iN)))
    (t_iN : PySem.W.typeIn K (.ref iN) = some (.type "function"))
    (l_iN : K.lookup iN = some ⟨oc_iN, od_iN, .func (PySem.W.fnOf "__init__" "NoCatalogue.__init__" (defArgs s_NoCatalogue_init) (defBody s_NoCatalogue_init) (defScope s_NoCatalogue_init) .none kV_iN dc_iN pm_iN an_iN cd_iN ct_iN), sl_iN⟩)
    (c_iN : PySem.W.codeIn K cd_iN "NoCatalogue.__init__" = true)
    (k_iN : PySem.W.keepIn K (.ref iN) = true)
    (cName : PySem.W.nsIn K mainGlobals "LONGEST_NAME" = some (some (.int 8 t_cName)))
    (cEnd : PySem.W.nsIn K mainGlobals "TEXT_END" = some (some (.int 256 t_cEnd)))
    (cWide : PySem.W.nsIn K mainGlobals "MOST_WIDE" = some (some (.int 16 t_cWide)))
    (cHigh : PySem.W.nsIn K mainGlobals "MOST_HIGH" = some (some (.int 18 t_cHigh)))
    (cHeavy : PySem.W.nsIn K mainGlobals "MOST_HEAVY" = some (some (.int 9999 t_cHeavy)))
    (cParts : PySem.W.nsIn K mainGlobals "MOST_PARTS" = some (some (.int 64 t_cParts)))
    (cBytes : PySem.W.nsIn K mainGlobals "MOST_BYTES" = some (some (.int 1048576 t_cBytes)))
    (c46 : PySem.W.nsIn K mainGlobals "NO_CELL" = some (some (.int 46 t_c46)))
    (c35 : PySem.W.nsIn K mainGlobals "PLAIN" = some (some (.int 35 t_c35)))
    (c115 : PySem.W.nsIn K mainGlobals "STUD" = some (some (.int 115 t_c115)))
    (c116 : PySem.W.nsIn K mainGlobals "TUBE" = some (some (.int 116 t_c116)))
    (c98 : PySem.W.nsIn K mainGlobals "BOTH" = some (some (.int 98 t_c98)))
    (z_ord : PySem.W.nsIn K mainGlobals "ord" = some none)
    (z_len : PySem.W.nsIn K mainGlobals "len" = some none)
    (z_range : PySem.W.nsIn K mainGlobals "range" = some none)
    (g_hstud : PySem.W.nsIn K mainGlobals "has_stud" = some (some (.ref hstud)))
    (l_hstud : K.lookup hstud = some ⟨oc_hstud, od_hstud, .func (PySem.W.fnOf "has_stud" "has_stud" (defArgs s_has_stud) (defBody s_has_stud) (defScope s_has_stud) .none kV_hstud dc_hstud pm_hstud an_hstud cd_hstud ct_hstud), sl_hstud⟩)
    (c_hstud : PySem.W.codeIn K cd_hstud "has_stud" = true)
    (k_hstud : PySem.W.keepIn K (.ref hstud) = true)
    (g_htube : PySem.W.nsIn K mainGlobals "has_tube" = some (some (.ref htube)))
    (l_htube : K.lookup htube = some ⟨oc_htube, od_htube, .func (PySem.W.fnOf "has_tube" "has_tube" (defArgs s_has_tube) (defBody s_has_tube) (defScope s_has_tube) .none kV_htube dc_htube pm_htube an_htube cd_htube ct_htube), sl_htube⟩)
    (c_htube : PySem.W.codeIn K cd_htube "has_tube" = true)
    (k_htube : PySem.W.keepIn K (.ref htube) = true)
    (g_acov : PySem.W.nsIn K mainGlobals "a_stud_is_covered" = some (some (.ref acov)))
    (l_acov : K.lookup acov = some ⟨oc_acov, od_acov, .func (PySem.W.fnOf "a_stud_is_covered" "a_stud_is_covered" (defArgs s_a_stud_is_covered) (defBody s_a_stud_is_covered) (defScope s_a_stud_is_covered) .none kV_acov dc_acov pm_acov an_acov cd_acov ct_acov), sl_acov⟩)
    (c_acov : PySem.W.codeIn K cd_acov "a_stud_is_covered" = true)
    (k_acov : PySem.W.keepIn K (.ref acov) = true)
    (g_astop : PySem.W.nsIn K mainGlobals "a_tube_is_stopped" = some (some (.ref astop)))
    (l_astop : K.lookup astop = some ⟨oc_astop, od_astop, .func (PySem.W.fnOf "a_tube_is_stopped" "a_tube_is_stopped" (defArgs s_a_tube_is_stopped) (defBody s_a_tube_is_stopped) (defScope s_a_tube_is_stopped) .none kV_astop dc_astop pm_astop an_astop cd_astop ct_astop), sl_astop⟩)
    (c_astop : PySem.W.codeIn K cd_astop "a_tube_is_stopped" = true)
    (k_astop : PySem.W.keepIn K (.ref astop) = true)
    (g_spans : PySem.W.nsIn K mainGlobals "spans" = some (some (.ref spans)))
    (l_spans : K.lookup spans = some ⟨oc_spans, od_spans, .func (PySem.W.fnOf "spans" "spans" (defArgs s_spans) (defBody s_spans) (defScope s_spans) .none kV_spans dc_spans pm_spans an_spans cd_spans ct_spans), sl_spans⟩)
    (c_spans : PySem.W.codeIn K cd_spans "spans" = true)
    (k_spans : PySem.W.keepIn K (.ref spans) = true)
    (g_sides : PySem.W.nsIn K mainGlobals "reaches_all_sides" = some (some (.ref sides)))
    (l_sides : K.lookup sides = some ⟨oc_sides, od_sides, .func (PySem.W.fnOf "reaches_all_sides" "reaches_all_sides" (defArgs s_reaches_all_sides) (defBody s_reaches_all_sides) (defScope s_reaches_all_sides) .none kV_sides dc_sides pm_sides an_sides cd_sides ct_sides), sl_sides⟩)
    (c_sides : PySem.W.codeIn K cd_sides "reaches_all_sides" = true)
    (k_sides : PySem.W.keepIn K (.ref sides) = true)
    (g_besd : PySem.W.nsIn K mainGlobals "beside" = some (some (.ref besd)))
    (l_besd : K.lookup besd = some ⟨oc_besd, od_besd, .func (PySem.W.fnOf "beside" "beside" (defArgs s_beside) (defBody s_beside) (defScope s_beside) .none kV_besd dc_besd pm_besd an_besd cd_besd ct_besd), sl_besd⟩)
    (c_besd : PySem.W.codeIn K cd_besd "beside" = true)
    (k_besd : PySem.W.keepIn K (.ref besd) = true)
    (g_reach : PySem.W.nsIn K mainGlobals "reached_from" = some (some (.ref reach)))
    (l_reach : K.lookup reach = some ⟨oc_reach, od_reach, .func (PySem.W.fnOf "reached_from" "reached_from" (defArgs s_reached_from) (defBody s_reached_from) (defScope s_reached_from) .none kV_reach dc_reach pm_reach an_reach cd_reach ct_reach), sl_reach⟩)
    (c_reach : PySem.W.codeIn K cd_reach "reached_from" = true)
    (k_reach : PySem.W.keepIn K (.ref reach) = true)
    (g_togth : PySem.W.nsIn K mainGlobals "hangs_together" = some (some (.ref togth)))
    (l_togth : K.lookup togth = some ⟨oc_togth, od_togth, .func (PySem.W.fnOf "hangs_together" "hangs_together" (defArgs s_hangs_together) (defBody s_hangs_together) (defScope s_hangs_together) .none kV_togth dc_togth pm_togth an_togth cd_togth ct_togth), sl_togth⟩)
    (c_togth : PySem.W.codeIn K cd_togth "hangs_together" = true)
    (k_togth : PySem.W.keepIn K (.ref togth) = true)
    (g_broken : PySem.W.nsIn K mainGlobals "broken_point" = some (some (.ref broken)))
    (l_broken : K.lookup broken = some ⟨oc_broken, od_broken, .func (PySem.W.fnOf "broken_point" "broken_point" (defArgs s_broken_point) (defBody s_broken_point) (defScope s_broken_point) .none kV_broken dc_broken pm_broken an_broken cd_broken ct_broken), sl_broken⟩)
    (c_broken : PySem.W.codeIn K cd_broken "broken_point" = true)
    (k_broken : PySem.W.keepIn K (.ref broken) = true)
    (g_order : PySem.W.nsIn K mainGlobals "stands_in_order" = some (some (.ref order)))
    (l_order : K.lookup order = some ⟨oc_order, od_order, .func (PySem.W.fnOf "stands_in_order" "stands_in_order" (defArgs s_stands_in_order) (defBody s_stands_in_order) (defScope s_stands_in_order) .none kV_order dc_order pm_order an_order cd_order ct_order), sl_order⟩)
    (c_order : PySem.W.codeIn K cd_order "stands_in_order" = true)
    (k_order : PySem.W.keepIn K (.ref order) = true)
    (g_right : PySem.W.nsIn K mainGlobals "right_catalogue" = some (some (.ref right)))
    (l_right : K.lookup right = some ⟨oc_right, od_right, .func (PySem.W.fnOf "right_catalogue" "right_catalogue" (defArgs s_right_catalogue) (defBody s_right_catalogue) (defScope s_right_catalogue) .none kV_right dc_right pm_right an_right cd_right ct_right), sl_right⟩)
    (c_right : PySem.W.codeIn K cd_right "right_catalogue" = true)
    (k_right : PySem.W.keepIn K (.ref right) = true)
    (a_pstud : PySem.W.findIn K (.ref CP) "places_with_stud" = some (some (.ref pstud)))
    (i_pstud : PySem.W.isFn K (.ref pstud) = true)
    (l_pstud : K.lookup pstud = some ⟨oc_pstud, od_pstud, .func (PySem.W.fnOf "places_with_stud" "Part.places_with_stud" (defArgs s_Part_places_with_stud) (defBody s_Part_places_with_stud) (defScope s_Part_places_with_stud) .none kV_pstud dc_pstud pm_pstud an_pstud cd_pstud ct_pstud), sl_pstud⟩)
    (c_pstud : PySem.W.codeIn K cd_pstud "Part.places_with_stud" = true)
    (k_pstud : PySem.W.keepIn K (.ref pstud) = true)
    (a_ptube : PySem.W.findIn K (.ref CP) "places_with_tube" = some (some (.ref ptube)))
    (i_ptube : PySem.W.isFn K (.ref ptube) = true)
    (l_ptube : K.lookup ptube = some ⟨oc_ptube, od_ptube, .func (PySem.W.fnOf "places_with_tube" "Part.places_with_tube" (defArgs s_Part_places_with_tube) (defBody s_Part_places_with_tube) (defScope s_Part_places_with_tube) .none kV_ptube dc_ptube pm_ptube an_ptube cd_ptube ct_ptube), sl_ptube⟩)
    (c_ptube : PySem.W.codeIn K cd_ptube "Part.places_with_tube" = true)
    (k_ptube : PySem.W.keepIn K (.ref ptube) = true)
    (z_any : PySem.W.nsIn K mainGlobals "any" = some none)
    (z_list : PySem.W.nsIn K mainGlobals "list" = some none)
    (z_enm : PySem.W.nsIn K mainGlobals "enumerate" = some none)
    (g_CW : PySem.W.nsIn K mainGlobals "NotRight" = some (some (.ref CW)))
    (xLW : K.lookup CW = some (excClassObj nmW qW CW NW bsW [.ref CRf, .type "Exception", .type "BaseException", .type "object"] true snW subW abW colW ddW m0W m1W m2W m3W m5W "Exception.__new__"))
    (saW : PySem.W.findIn K (.ref CW) "__setattr__" = some (some (.builtin "object.__setattr__")))
    (gaW : PySem.W.findIn K (.ref CW) "__getattribute__" = some (some (.builtin "BaseException.__getattribute__")))
    (ggW : PySem.W.findIn K (.ref CW) "__getattr__" = some none)
    (nnW : PySem.W.findIn K (.ref CW) "number" = some none)
    (n_pointW : PySem.W.findIn K (.ref CW) "point" = some none)
    (n_whereW : PySem.W.findIn K (.ref CW) "where" = some none)
    (kCW : PySem.W.keepIn K (.ref CW) = true)
    (eCW : PySem.W.subIn K (.ref CW) (.type "BaseException") = some true)
    (tCW : PySem.W.typeIn K (.ref CW) = some (.type "type"))
    (hCW : PySem.W.hasDictIn K CW = true)
    (iCW : PySem.W.isClsIn K CW = true)
    (sCW : PySem.W.subIn K (.ref CW) (.ref CW) = some true)
    (a_iW : PySem.W.findIn K (.ref CW) "__init__" = some (some (.ref iW)))
    (t_iW : PySem.W.typeIn K (.ref iW) = some (.type "function"))
    (l_iW : K.lookup iW = some ⟨oc_iW, od_iW, .func (PySem.W.fnOf "__init__" "NotRight.__init__" (defArgs s_NotRight_init) (defBody s_NotRight_init) (defScope s_NotRight_init) .none kV_iW dc_iW pm_iW an_iW cd_iW ct_iW), sl_iW⟩)
    (c_iW : PySem.W.codeIn K cd_iW "NotRight.__init__" = true)
    (k_iW : PySem.W.keepIn K (.ref iW) = true)
    (sNW : PySem.W.subIn K (.ref CN) (.ref CW) = some false)
    (eCRf : PySem.W.subIn K (.ref CRf) (.type "BaseException") = some true)
    (tCRf : PySem.W.typeIn K (.ref CRf) = some (.type "type"))
    (iCRf : PySem.W.isClsIn K CRf = true)
    (sNR : PySem.W.subIn K (.ref CN) (.ref CRf) = some true)
    (sWR : PySem.W.subIn K (.ref CW) (.ref CRf) = some true)
    (g_pin : PySem.W.nsIn K mainGlobals "part_in" = some (some (.ref pin)))
    (l_pin : K.lookup pin = some ⟨oc_pin, od_pin, .func (PySem.W.fnOf "part_in" "part_in" (defArgs s_part_in) (defBody s_part_in) (defScope s_part_in) .none kV_pin dc_pin pm_pin an_pin cd_pin ct_pin), sl_pin⟩)
    (c_pin : PySem.W.codeIn K cd_pin "part_in" = true)
    (k_pin : PySem.W.keepIn K (.ref pin) = true)
    (g_CSp : PySem.W.nsIn K mainGlobals "NoSuchPart" = some (some (.ref CSp)))
    (xLSp : K.lookup CSp = some (excClassObj nmSp qSp CSp NSp bsSp [.ref CRf, .type "Exception", .type "BaseException", .type "object"] true snSp subSp abSp colSp ddSp m0Sp m1Sp m2Sp m3Sp m5Sp "Exception.__new__"))
    (saSp : PySem.W.findIn K (.ref CSp) "__setattr__" = some (some (.builtin "object.__setattr__")))
    (gaSp : PySem.W.findIn K (.ref CSp) "__getattribute__" = some (some (.builtin "BaseException.__getattribute__")))
    (ggSp : PySem.W.findIn K (.ref CSp) "__getattr__" = some none)
    (nnSp : PySem.W.findIn K (.ref CSp) "number" = some none)
    (kCSp : PySem.W.keepIn K (.ref CSp) = true)
    (eCSp : PySem.W.subIn K (.ref CSp) (.type "BaseException") = some true)
    (tCSp : PySem.W.typeIn K (.ref CSp) = some (.type "type"))
    (hCSp : PySem.W.hasDictIn K CSp = true)
    (iCSp : PySem.W.isClsIn K CSp = true)
    (sCSp : PySem.W.subIn K (.ref CSp) (.ref CSp) = some true)
    (a_iSp : PySem.W.findIn K (.ref CSp) "__init__" = some (some (.ref iSp)))
    (t_iSp : PySem.W.typeIn K (.ref iSp) = some (.type "function"))
    (l_iSp : K.lookup iSp = some ⟨oc_iSp, od_iSp, .func (PySem.W.fnOf "__init__" "NoSuchPart.__init__" (defArgs s_NoSuchPart_init) (defBody s_NoSuchPart_init) (defScope s_NoSuchPart_init) .none kV_iSp dc_iSp pm_iSp an_iSp cd_iSp ct_iSp), sl_iSp⟩)
    (c_iSp : PySem.W.codeIn K cd_iSp "NoSuchPart.__init__" = true)
    (k_iSp : PySem.W.keepIn K (.ref iSp) = true)
    (sSpR : PySem.W.subIn K (.ref CSp) (.ref CRf) = some true)
    (g_chosen : PySem.W.nsIn K mainGlobals "chosen_part" = some (some (.ref chosen)))
    (l_chosen : K.lookup chosen = some ⟨oc_chosen, od_chosen, .func (PySem.W.fnOf "chosen_part" "chosen_part" (defArgs s_chosen_part) (defBody s_chosen_part) (defScope s_chosen_part) .none kV_chosen dc_chosen pm_chosen an_chosen cd_chosen ct_chosen), sl_chosen⟩)
    (c_chosen : PySem.W.codeIn K cd_chosen "chosen_part" = true)
    (k_chosen : PySem.W.keepIn K (.ref chosen) = true)
    (g_once : PySem.W.nsIn K mainGlobals "turned_once" = some (some (.ref once)))
    (l_once : K.lookup once = some ⟨oc_once, od_once, .func (PySem.W.fnOf "turned_once" "turned_once" (defArgs s_turned_once) (defBody s_turned_once) (defScope s_turned_once) .none kV_once dc_once pm_once an_once cd_once ct_once), sl_once⟩)
    (c_once : PySem.W.codeIn K cd_once "turned_once" = true)
    (k_once : PySem.W.keepIn K (.ref once) = true)
    (g_tby : PySem.W.nsIn K mainGlobals "turned_by" = some (some (.ref tby)))
    (l_tby : K.lookup tby = some ⟨oc_tby, od_tby, .func (PySem.W.fnOf "turned_by" "turned_by" (defArgs s_turned_by) (defBody s_turned_by) (defScope s_turned_by) .none kV_tby dc_tby pm_tby an_tby cd_tby ct_tby), sl_tby⟩)
    (c_tby : PySem.W.codeIn K cd_tby "turned_by" = true)
    (k_tby : PySem.W.keepIn K (.ref tby) = true)
    (g_shp : PySem.W.nsIn K mainGlobals "same_shape" = some (some (.ref shp)))
    (l_shp : K.lookup shp = some ⟨oc_shp, od_shp, .func (PySem.W.fnOf "same_shape" "same_shape" (defArgs s_same_shape) (defBody s_same_shape) (defScope s_same_shape) .none kV_shp dc_shp pm_shp an_shp cd_shp ct_shp), sl_shp⟩)
    (c_shp : PySem.W.codeIn K cd_shp "same_shape" = true)
    (k_shp : PySem.W.keepIn K (.ref shp) = true)
    (g_count : PySem.W.nsIn K mainGlobals "count_of_turns" = some (some (.ref count)))
    (l_count : K.lookup count = some ⟨oc_count, od_count, .func (PySem.W.fnOf "count_of_turns" "count_of_turns" (defArgs s_count_of_turns) (defBody s_count_of_turns) (defScope s_count_of_turns) .none kV_count dc_count pm_count an_count cd_count ct_count), sl_count⟩)
    (c_count : PySem.W.codeIn K cd_count "count_of_turns" = true)
    (k_count : PySem.W.keepIn K (.ref count) = true)
    (c_most : PySem.W.nsIn K mainGlobals "MOST_TURNS" = some (some (.int 3 t_most)))
    (g_main : PySem.W.nsIn K mainGlobals "turns" = some (some (.ref fM)))
    (l_main : K.lookup fM = some ⟨oc_main, od_main, .func (PySem.W.fnOf "turns" "turns" (defArgs s_turns) (defBody s_turns) (defScope s_turns) .none kV_main dc_main pm_main an_main cd_main ct_main), sl_main⟩)
    (c_main : PySem.W.codeIn K cd_main "turns" = true)
    (k_main : PySem.W.keepIn K (.ref fM) = true) :
    ∃ fd : FuncData, (∀ (s : Shared) (us : List Value), us.length = (["k", "t"] : List Str).length → BindsTo s fd ⟨us, []⟩ ((["k", "t"] : List Str).zip us)) ∧ ∀ base : Heap, K.In base → base.Ns mainGlobals mg → FnOk P w K mg base CX0 9 fa fd ["k", "t"] (spTurns K) := by
  have e := hfa.symm.trans (PySem.W.mg_of X G g_main)
  cases e
  let ad : Ad := ⟨digit, letter, fits, sgns, sgn, next, fail, need, rname, rnum, rsign, rcells, rpart, iR, iP, CR, CP, CN, iN, rcat⟩
  have RTx : PySem.Jx.RT K mg CRf fR := ⟨PySem.W.mg_of X G g_CRf, rdRf, gaRf, inRf, k_fR, ⟨_, _, _, _, _, _, _, _, _, _, _, _, _, _, _, l_fR, c_fR⟩⟩
  have eN : ErrT K mg CN iN 1 (fun vs => [("fault", vs.getD 0 .non), ("number", .int (-6))]) := err_f (n := 6) ⟨⟨nmN, qN, NN, bsN, _, snN, subN, abN, colN, ddN, m0N, m1N, m2N, m3N, m5N, xLN, rfl⟩, saN, gaN, ggN, nnN, kCN, eCN, tCN, hCN⟩ RTx n_faultN a_iN t_iN (exm_self eCN iCN tCN sCN) ⟨_, _, _, _, _, _, _, _, _, _, _, _, _, _, by rfl, _, _, _, _, _, _, _, _, _, l_iN, c_iN⟩
  have T : Txt K mg ad :=
    { ord := PySem.W.mg_none_of X G z_ord,
      len := PySem.W.mg_none_of X G z_len,
      range := PySem.W.mg_none_of X G z_range,
      cName := ⟨_, PySem.W.mg_of X G cName⟩,
      cEnd := ⟨_, PySem.W.mg_of X G cEnd⟩,
      cWide := ⟨_, PySem.W.mg_of X G cWide⟩,
      cHigh := ⟨_, PySem.W.mg_of X G cHigh⟩,
      cHeavy := ⟨_, PySem.W.mg_of X G cHeavy⟩,
      cParts := ⟨_, PySem.W.mg_of X G cParts⟩,
      cBytes := ⟨_, PySem.W.mg_of X G cBytes⟩,
      c46 := ⟨_, PySem.W.mg_of X G c46⟩,
      c35 := ⟨_, PySem.W.mg_of X G c35⟩,
      c115 := ⟨_, PySem.W.mg_of X G c115⟩,
      c116 := ⟨_, PySem.W.mg_of X G c116⟩,
      c98 := ⟨_, PySem.W.mg_of X G c98⟩,
      gDigit := PySem.W.mg_of X G g_digit,
      gLetter := PySem.W.mg_of X G g_letter,
      gFits := PySem.W.mg_of X G g_fits,
      gSigns := PySem.W.mg_of X G g_sgns,
      gSign := PySem.W.mg_of X G g_sgn,
      gRcat := PySem.W.mg_of X G g_rcat,
      gR := PySem.W.mg_of X G g_CR,
      gP := PySem.W.mg_of X G g_CP,
      gN := PySem.W.mg_of X G g_CN,
      clR := ⟨pgR, hdR, poR, saR⟩,
      nT := nT,
      nAt := nAt,
      mNext := ⟨a_next, i_next, k_next⟩,
      mFail := ⟨a_fail, i_fail, k_fail⟩,
      mNeed := ⟨a_need, i_need, k_need⟩,
      mName := ⟨a_rname, i_rname, k_rname⟩,
      mNum := ⟨a_rnum, i_rnum, k_rnum⟩,
      mSign := ⟨a_rsign, i_rsign, k_rsign⟩,
      mCells := ⟨a_rcells, i_rcells, k_rcells⟩,
      mPart := ⟨a_rpart, i_rpart, k_rpart⟩,
      clP := ⟨pgP, hdP, poP, saP⟩,
      nName := n_name,
      nWidth := n_width,
      nDepth := n_depth,
      nHeight := n_height,
      nWeight := n_weight,
      nCells := n_cells,
      mkR := ⟨mkR, a_iR, i_iR, kcR⟩,
      mkP := ⟨mkP, a_iP, i_iP, kcP⟩,
      eN := eN,
      kDigit := k_digit,
      kLetter := k_letter,
      kFits := k_fits,
      kSigns := k_sgns,
      kSign := k_sgn,
      kRcat := k_rcat,
      dDigit := ⟨_, fun_mk (st := s_is_digit) l_digit c_digit k_digit⟩,
      dLetter := ⟨_, fun_mk (st := s_is_letter) l_letter c_letter k_letter⟩,
      dFits := ⟨_, fun_mk (st := s_fits_name) l_fits c_fits k_fits⟩,
      dSigns := ⟨_, fun_mk (st := s_signs_in_order) l_sgns c_sgns k_sgns⟩,
      dSign := ⟨_, fun_mk (st := s_is_sign) l_sgn c_sgn k_sgn⟩,
      dNext := ⟨_, fun_mk (st := s_Reader_next_byte) l_next c_next k_next⟩,
      dFail := ⟨_, fun_mk (st := s_Reader_fail_unless) l_fail c_fail k_fail⟩,
      dNeed := ⟨_, fun_mk (st := s_Reader_need) l_need c_need k_need⟩,
      dName := ⟨_, fun_mk (st := s_Reader_read_name) l_rname c_rname k_rname⟩,
      dNum := ⟨_, fun_mk (st := s_Reader_read_number) l_rnum c_rnum k_rnum⟩,
      dRsign := ⟨_, fun_mk (st := s_Reader_read_sign) l_rsign c_rsign k_rsign⟩,
      dCells := ⟨_, fun_mk (st := s_Reader_read_cells) l_rcells c_rcells k_rcells⟩,
      dPart := ⟨_, fun_mk (st := s_Reader_read_part) l_rpart c_rpart k_rpart⟩,
      dIR := ⟨_, fun_mk (st := s_Reader_init) l_iR c_iR k_iR⟩,
      dIP := ⟨_, fun_mk (st := s_Part_init) l_iP c_iP k_iP⟩,
      dRcat := ⟨_, fun_mk (st := s_read_catalogue) l_rcat c_rcat k_rcat⟩ }
  let ad2 : Ad2 := ⟨hstud, htube, pstud, ptube, acov, astop, spans, sides, besd, reach, togth, broken, order, right, CW, iW⟩
  have eW : ErrT K mg CW iW 2 (fun vs => [("where", vs.getD 1 .non), ("point", vs.getD 0 .non), ("number", .int (-8))]) := err_w (n := 8) ⟨⟨nmW, qW, NW, bsW, _, snW, subW, abW, colW, ddW, m0W, m1W, m2W, m3W, m5W, xLW, rfl⟩, saW, gaW, ggW, nnW, kCW, eCW, tCW, hCW⟩ RTx n_pointW n_whereW a_iW t_iW (exm_self eCW iCW tCW sCW) ⟨_, _, _, _, _, _, _, _, _, _, _, _, _, _, _, _, _, _, _, by rfl, _, _, _, _, _, _, _, _, _, l_iW, c_iW⟩
  have U : Txt2 K mg ad ad2 :=
    { any := PySem.W.mg_none_of X G z_any,
      lst := PySem.W.mg_none_of X G z_list,
      enm := PySem.W.mg_none_of X G z_enm,
      gHs := PySem.W.mg_of X G g_hstud,
      gHt := PySem.W.mg_of X G g_htube,
      gCov := PySem.W.mg_of X G g_acov,
      gStop := PySem.W.mg_of X G g_astop,
      gSpans := PySem.W.mg_of X G g_spans,
      gSides := PySem.W.mg_of X G g_sides,
      gBesd := PySem.W.mg_of X G g_besd,
      gReach := PySem.W.mg_of X G g_reach,
      gTogth := PySem.W.mg_of X G g_togth,
      gBroken := PySem.W.mg_of X G g_broken,
      gOrder := PySem.W.mg_of X G g_order,
      gRight := PySem.W.mg_of X G g_right,
      gW := PySem.W.mg_of X G g_CW,
      mPs := ⟨a_pstud, i_pstud, k_pstud⟩,
      mPt := ⟨a_ptube, i_ptube, k_ptube⟩,
      eW := eW,
      kHs := k_hstud,
      kHt := k_htube,
      kCov := k_acov,
      kStop := k_astop,
      kSpans := k_spans,
      kSides := k_sides,
      kBesd := k_besd,
      kReach := k_reach,
      kTogth := k_togth,
      kBroken := k_broken,
      kOrder := k_order,
      kRight := k_right,
      dHs := ⟨_, fun_mk (st := s_has_stud) l_hstud c_hstud k_hstud⟩,
      dHt := ⟨_, fun_mk (st := s_has_tube) l_htube c_htube k_htube⟩,
      dPs := ⟨_, fun_mk (st := s_Part_places_with_stud) l_pstud c_pstud k_pstud⟩,
      dPt := ⟨_, fun_mk (st := s_Part_places_with_tube) l_ptube c_ptube k_ptube⟩,
      dCov := ⟨_, fun_mk (st := s_a_stud_is_covered) l_acov c_acov k_acov⟩,
      dStop := ⟨_, fun_mk (st := s_a_tube_is_stopped) l_astop c_astop k_astop⟩,
      dSpans := ⟨_, fun_mk (st := s_spans) l_spans c_spans k_spans⟩,
      dSides := ⟨_, fun_mk (st := s_reaches_all_sides) l_sides c_sides k_sides⟩,
      dBesd := ⟨_, fun_mk (st := s_beside) l_besd c_besd k_besd⟩,
      dReach := ⟨_, fun_mk (st := s_reached_from) l_reach c_reach k_reach⟩,
      dTogth := ⟨_, fun_mk (st := s_hangs_together) l_togth c_togth k_togth⟩,
      dBroken := ⟨_, fun_mk (st := s_broken_point) l_broken c_broken k_broken⟩,
      dOrder := ⟨_, fun_mk (st := s_stands_in_order) l_order c_order k_order⟩,
      dRight := ⟨_, fun_mk (st := s_right_catalogue) l_right c_right k_right⟩ }
  have xNW : PySem.W.exmOne K (.ref CN) (.ref CW) = some false := exm_is eCW iCW tCW sNW
  have xNR : PySem.W.exmOne K (.ref CN) (.ref CRf) = some true := exm_is eCRf iCRf tCRf sNR
  have xWR : PySem.W.exmOne K (.ref CW) (.ref CRf) = some true := exm_is eCRf iCRf tCRf sWR
  have eSp : ErrT K mg CSp iSp 0 (fun _ => [("number", .int (-4))]) := err_n (n := 4) ⟨⟨nmSp, qSp, NSp, bsSp, _, snSp, subSp, abSp, colSp, ddSp, m0Sp, m1Sp, m2Sp, m3Sp, m5Sp, xLSp, rfl⟩, saSp, gaSp, ggSp, nnSp, kCSp, eCSp, tCSp, hCSp⟩ RTx a_iSp t_iSp (exm_self eCSp iCSp tCSp sCSp) ⟨_, _, _, _, _, _, _, _, _, by rfl, _, _, _, _, _, _, _, _, _, l_iSp, c_iSp⟩
  have xSpR : PySem.W.exmOne K (.ref CSp) (.ref CRf) = some true := exm_is eCRf iCRf tCRf sSpR
  let adQ : AdQ := ⟨pin, CSp, iSp⟩
  have SQ : TxtQ K mg ad adQ :=
    { g_pin := PySem.W.mg_of X G g_pin,
      k_pin := k_pin,
      d_pin := ⟨_, fun_mk (st := s_part_in) l_pin c_pin k_pin⟩,
      g_CSp := PySem.W.mg_of X G g_CSp,
      e_Sp := eSp }
  let adP : AdP := ⟨chosen⟩
  have SP : TxtP K mg ad adP :=
    { g_chosen := PySem.W.mg_of X G g_chosen,
      k_chosen := k_chosen,
      d_chosen := ⟨_, fun_mk (st := s_chosen_part) l_chosen c_chosen k_chosen⟩ }
  let adT : AdT := ⟨once, tby⟩
  have ST : TxtT K mg ad adT :=
    { g_once := PySem.W.mg_of X G g_once,
      k_once := k_once,
      d_once := ⟨_, fun_mk (st := s_turned_once) l_once c_once k_once⟩,
      g_tby := PySem.W.mg_of X G g_tby,
      k_tby := k_tby,
      d_tby := ⟨_, fun_mk (st := s_turned_by) l_tby c_tby k_tby⟩ }
  let adC : AdC := ⟨shp, count⟩
  have SC : TxtC K mg ad adC :=
    { g_shp := PySem.W.mg_of X G g_shp,
      k_shp := k_shp,
      d_shp := ⟨_, fun_mk (st := s_same_shape) l_shp c_shp k_shp⟩,
      g_count := PySem.W.mg_of X G g_count,
      k_count := k_count,
      d_count := ⟨_, fun_mk (st := s_count_of_turns) l_count c_count k_count⟩,
      c_most := ⟨_, PySem.W.mg_of X G c_most⟩ }
  have FM := fun_mk (st := s_turns) l_main c_main k_main
  exact ⟨_, fun s us hu => match us, hu with | [_, _], _ => .of_eq rfl, fun base _ _ => ok_turns FM T U SQ SP ST SC (PySem.W.mg_of X G g_CRf) xNR xWR xSpR⟩
end
end St
open PySem PySem.W PyProof.Rows
set_option maxRecDepth 100000 in
set_option maxHeartbeats 16000000 in
theorem PySem.Challenge.cw_studtube_s09_turns_holds : PySem.Challenge.rw_studtube_s09_turns.Holds := by
  w_on; k_headS; (case hw => exact ⟨[.int 0, .list []], by decide +kernel, by decide +kernel⟩)
  k_fillS
  refine L2.walk_specK (r := PySem.Challenge.rw_studtube_s09_turns) (k := 9) (CX := L2.CX0) (ps := ["k", "t"]) (sp := fun K => St.spTurns K) (by decide +kernel) rfl rfl ⟨rfl, by decide, by decide⟩ (fun w h Y => PySem.W.kIn_of Y) ?F ?S (fun _ _ _ _ z => z)
  case F =>
    intro w mg fa h Y KX G hmg
    refine' St.all_mk KX G hmg ?hg_digit ?hl_digit ?hc_digit ?hk_digit ?hg_letter ?hl_letter ?hc_letter ?hk_letter ?hg_fits ?hl_fits ?hc_fits ?hk_fits ?hg_sgns ?hl_sgns ?hc_sgns ?hk_sgns ?hg_sgn ?hl_sgn ?hc_sgn ?hk_sgn ?hg_rcat ?hl_rcat ?hc_rcat ?hk_rcat ?hg_CR ?hg_CP ?hg_CN ?hg_CRf ?hpgR ?hhdR ?hpoR ?hsaR ?hmkR ?hkcR ?hpgP ?hhdP ?hpoP ?hsaP ?hmkP ?hkcP ?hnT ?hnAt ?hn_name ?hn_width ?hn_depth ?hn_height ?hn_weight ?hn_cells ?ha_next ?hi_next ?hl_next ?hc_next ?hk_next ?ha_fail ?hi_fail ?hl_fail ?hc_fail ?hk_fail ?ha_need ?hi_need ?hl_need ?hc_need ?hk_need ?ha_rname ?hi_rname ?hl_rname ?hc_rname ?hk_rname ?ha_rnum ?hi_rnum ?hl_rnum ?hc_rnum ?hk_rnum ?ha_rsign ?hi_rsign ?hl_rsign ?hc_rsign ?hk_rsign ?ha_rcells ?hi_rcells ?hl_rcells ?hc_rcells ?hk_rcells ?ha_rpart ?hi_rpart ?hl_rpart ?hc_rpart ?hk_rpart ?ha_iR ?hi_iR ?hl_iR ?hc_iR ?hk_iR ?ha_iP ?hi_iP ?hl_iP ?hc_iP ?hk_iP ?hrdRf ?hgaRf ?hinRf ?hl_fR ?hc_fR ?hk_fR ?hxLN ?hsaN ?hgaN ?hggN ?hnnN ?hn_faultN ?hkCN ?heCN ?htCN ?hhCN ?hiCN ?hsCN ?ha_iN ?ht_iN ?hl_iN ?hc_iN ?hk_iN ?hcName ?hcEnd ?hcWide ?hcHigh ?hcHeavy ?hcParts ?hcBytes ?hc46 ?hc35 ?hc115 ?hc116 ?hc98 ?hz_ord ?hz_len ?hz_range ?hg_hstud ?hl_hstud ?hc_hstud ?hk_hstud ?hg_htube ?hl_htube ?hc_htube ?hk_htube ?hg_acov ?hl_acov ?hc_acov ?hk_acov ?hg_astop ?hl_astop ?hc_astop ?hk_astop ?hg_spans ?hl_spans ?hc_spans ?hk_spans ?hg_sides ?hl_sides ?hc_sides ?hk_sides ?hg_besd ?hl_besd ?hc_besd ?hk_besd ?hg_reach ?hl_reach ?hc_reach ?hk_reach ?hg_togth ?hl_togth ?hc_togth ?hk_togth ?hg_broken ?hl_broken ?hc_broken ?hk_broken ?hg_order ?hl_order ?hc_order ?hk_order ?hg_right ?hl_right ?hc_right ?hk_right ?ha_pstud ?hi_pstud ?hl_pstud ?hc_pstud ?hk_pstud ?ha_ptube ?hi_ptube ?hl_ptube ?hc_ptube ?hk_ptube ?hz_any ?hz_list ?hz_enm ?hg_CW ?hxLW ?hsaW ?hgaW ?hggW ?hnnW ?hn_pointW ?hn_whereW ?hkCW ?heCW ?htCW ?hhCW ?hiCW ?hsCW ?ha_iW ?ht_iW ?hl_iW ?hc_iW ?hk_iW ?hsNW ?heCRf ?htCRf ?hiCRf ?hsNR ?hsWR ?hg_pin ?hl_pin ?hc_pin ?hk_pin ?hg_CSp ?hxLSp ?hsaSp ?hgaSp ?hggSp ?hnnSp ?hkCSp ?heCSp ?htCSp ?hhCSp ?hiCSp ?hsCSp ?ha_iSp ?ht_iSp ?hl_iSp ?hc_iSp ?hk_iSp ?hsSpR ?hg_chosen ?hl_chosen ?hc_chosen ?hk_chosen ?hg_once ?hl_once ?hc_once ?hk_once ?hg_tby ?hl_tby ?hc_tby ?hk_tby ?hg_shp ?hl_shp ?hc_shp ?hk_shp ?hg_count ?hl_count ?hc_count ?hk_count ?hc_most ?hg_main ?hl_main ?hc_main ?hk_main
    (case hg_digit => k_is)
    (case hl_digit => k_is)
    (case hc_digit => k_is)
    (case hk_digit => k_is)
    (case hg_letter => k_is)
    (case hl_letter => k_is)
    (case hc_letter => k_is)
    (case hk_letter => k_is)
    (case hg_fits => k_is)
    (case hl_fits => k_is)
    (case hc_fits => k_is)
    (case hk_fits => k_is)
    (case hg_sgns => k_is)
    (case hl_sgns => k_is)
    (case hc_sgns => k_is)
    (case hk_sgns => k_is)
    (case hg_sgn => k_is)
    (case hl_sgn => k_is)
    (case hc_sgn => k_is)
    (case hk_sgn => k_is)
    (case hg_rcat => k_is)
    (case hl_rcat => k_is)
    (case hc_rcat => k_is)
    (case hk_rcat => k_is)
    (case hg_CR => k_is)
    (case hg_CP => k_is)
    (case hg_CN => k_is)
    (case hg_CRf => k_is)
    (case hpgR => k_is)
    (case hhdR => k_is)
    (case hpoR => k_is)
    (case hsaR => k_is)
    (case hmkR => k_is)
    (case hkcR => k_is)
    (case hpgP => k_is)
    (case hhdP => k_is)
    (case hpoP => k_is)
    (case hsaP => k_is)
    (case hmkP => k_is)
    (case hkcP => k_is)
    (case hnT => k_is)
    (case hnAt => k_is)
    (case hn_name => k_is)
    (case hn_width => k_is)
    (case hn_depth => k_is)
    (case hn_height => k_is)
    (case hn_weight => k_is)
    (case hn_cells => k_is)
    (case ha_next => k_is)
    (case hi_next => k_is)
    (case hl_next => k_is)
    (case hc_next => k_is)
    (case hk_next => k_is)
    (case ha_fail => k_is)
    (case hi_fail => k_is)
    (case hl_fail => k_is)
    (case hc_fail => k_is)
    (case hk_fail => k_is)
    (case ha_need => k_is)
    (case hi_need => k_is)
    (case hl_need => k_is)
    (case hc_need => k_is)
    (case hk_need => k_is)
    (case ha_rname => k_is)
    (case hi_rname => k_is)
    (case hl_rname => k_is)
    (case hc_rname => k_is)
    (case hk_rname => k_is)
    (case ha_rnum => k_is)
    (case hi_rnum => k_is)
    (case hl_rnum => k_is)
    (case hc_rnum => k_is)
    (case hk_rnum => k_is)
    (case ha_rsign => k_is)
    (case hi_rsign => k_is)
    (case hl_rsign => k_is)
    (case hc_rsign => k_is)
    (case hk_rsign => k_is)
    (case ha_rcells => k_is)
    (case hi_rcells => k_is)
    (case hl_rcells => k_is)
    (case hc_rcells => k_is)
    (case hk_rcells => k_is)
    (case ha_rpart => k_is)
    (case hi_rpart => k_is)
    (case hl_rpart => k_is)
    (case hc_rpart => k_is)
    (case hk_rpart => k_is)
    (case ha_iR => k_is)
    (case hi_iR => k_is)
    (case hl_iR => k_is)
    (case hc_iR => k_is)
    (case hk_iR => k_is)
    (case ha_iP => k_is)
    (case hi_iP => k_is)
    (case hl_iP => k_is)
    (case hc_iP => k_is)
    (case hk_iP => k_is)
    (case hrdRf => k_is)
    (case hgaRf => k_is)
    (case hinRf => k_is)
    (case hl_fR => k_is)
    (case hc_fR => k_is)
    (case hk_fR => k_is)
    (case hxLN => k_is)
    (case hsaN => k_is)
    (case hgaN => k_is)
    (case hggN => k_is)
    (case hnnN => k_is)
    (case hn_faultN => k_is)
    (case hkCN => k_is)
    (case heCN => k_is)
    (case htCN => k_is)
    (case hhCN => k_is)
    (case hiCN => k_is)
    (case hsCN => first | rfl | k_is)
    (case ha_iN => k_is)
    (case ht_iN => k_is)
    (case hl_iN => k_is)
    (case hc_iN => k_is)
    (case hk_iN => k_is)
    (case hcName => k_is)
    (case hcEnd => k_is)
    (case hcWide => k_is)
    (case hcHigh => k_is)
    (case hcHeavy => k_is)
    (case hcParts => k_is)
    (case hcBytes => k_is)
    (case hc46 => k_is)
    (case hc35 => k_is)
    (case hc115 => k_is)
    (case hc116 => k_is)
    (case hc98 => k_is)
    (case hz_ord => k_is)
    (case hz_len => k_is)
    (case hz_range => k_is)
    (case hg_hstud => k_is)
    (case hl_hstud => k_is)
    (case hc_hstud => k_is)
    (case hk_hstud => k_is)
    (case hg_htube => k_is)
    (case hl_htube => k_is)
    (case hc_htube => k_is)
    (case hk_htube => k_is)
    (case hg_acov => k_is)
    (case hl_acov => k_is)
    (case hc_acov => k_is)
    (case hk_acov => k_is)
    (case hg_astop => k_is)
    (case hl_astop => k_is)
    (case hc_astop => k_is)
    (case hk_astop => k_is)
    (case hg_spans => k_is)
    (case hl_spans => k_is)
    (case hc_spans => k_is)
    (case hk_spans => k_is)
    (case hg_sides => k_is)
    (case hl_sides => k_is)
    (case hc_sides => k_is)
    (case hk_sides => k_is)
    (case hg_besd => k_is)
    (case hl_besd => k_is)
    (case hc_besd => k_is)
    (case hk_besd => k_is)
    (case hg_reach => k_is)
    (case hl_reach => k_is)
    (case hc_reach => k_is)
    (case hk_reach => k_is)
    (case hg_togth => k_is)
    (case hl_togth => k_is)
    (case hc_togth => k_is)
    (case hk_togth => k_is)
    (case hg_broken => k_is)
    (case hl_broken => k_is)
    (case hc_broken => k_is)
    (case hk_broken => k_is)
    (case hg_order => k_is)
    (case hl_order => k_is)
    (case hc_order => k_is)
    (case hk_order => k_is)
    (case hg_right => k_is)
    (case hl_right => k_is)
    (case hc_right => k_is)
    (case hk_right => k_is)
    (case ha_pstud => k_is)
    (case hi_pstud => k_is)
    (case hl_pstud => k_is)
    (case hc_pstud => k_is)
    (case hk_pstud => k_is)
    (case ha_ptube => k_is)
    (case hi_ptube => k_is)
    (case hl_ptube => k_is)
    (case hc_ptube => k_is)
    (case hk_ptube => k_is)
    (case hz_any => k_is)
    (case hz_list => k_is)
    (case hz_enm => k_is)
    (case hg_CW => k_is)
    (case hxLW => k_is)
    (case hsaW => k_is)
    (case hgaW => k_is)
    (case hggW => k_is)
    (case hnnW => k_is)
    (case hn_pointW => k_is)
    (case hn_whereW => k_is)
    (case hkCW => k_is)
    (case heCW => k_is)
    (case htCW => k_is)
    (case hhCW => k_is)
    (case hiCW => k_is)
    (case hsCW => first | rfl | k_is)
    (case ha_iW => k_is)
    (case ht_iW => k_is)
    (case hl_iW => k_is)
    (case hc_iW => k_is)
    (case hk_iW => k_is)
    (case hsNW => first | rfl | k_is)
    (case heCRf => k_is)
    (case htCRf => k_is)
    (case hiCRf => k_is)
    (case hsNR => first | rfl | k_is)
    (case hsWR => first | rfl | k_is)
    (case hg_pin => k_is)
    (case hl_pin => k_is)
    (case hc_pin => k_is)
    (case hk_pin => k_is)
    (case hg_CSp => k_is)
    (case hxLSp => k_is)
    (case hsaSp => k_is)
    (case hgaSp => k_is)
    (case hggSp => k_is)
    (case hnnSp => k_is)
    (case hkCSp => k_is)
    (case heCSp => k_is)
    (case htCSp => k_is)
    (case hhCSp => k_is)
    (case hiCSp => k_is)
    (case hsCSp => first | rfl | k_is)
    (case ha_iSp => k_is)
    (case ht_iSp => k_is)
    (case hl_iSp => k_is)
    (case hc_iSp => k_is)
    (case hk_iSp => k_is)
    (case hsSpR => first | rfl | k_is)
    (case hg_chosen => k_is)
    (case hl_chosen => k_is)
    (case hc_chosen => k_is)
    (case hk_chosen => k_is)
    (case hg_once => k_is)
    (case hl_once => k_is)
    (case hc_once => k_is)
    (case hk_once => k_is)
    (case hg_tby => k_is)
    (case hl_tby => k_is)
    (case hc_tby => k_is)
    (case hk_tby => k_is)
    (case hg_shp => k_is)
    (case hl_shp => k_is)
    (case hc_shp => k_is)
    (case hk_shp => k_is)
    (case hg_count => k_is)
    (case hl_count => k_is)
    (case hc_count => k_is)
    (case hk_count => k_is)
    (case hc_most => k_is)
    (case hg_main => k_is)
    (case hl_main => k_is)
    (case hc_main => k_is)
    (case hk_main => k_is)
  case S =>
    intro K H xs a hO hwi hask hx
    cases hx with
    | cons h0 hx =>
      cases hx with
      | cons h1 hx =>
        cases hx
        cases h0
        cases h1 with
        | lst hs2 ha2 =>
          have e2 := L2.ints_dw a.2.1 _ ha2
          subst e2
          have q : (Codec.inInt 0 18446744073709551615 a.1 && ((Codec.inLen 0 100000 a.2.1 && a.2.1.all (Codec.inInt 0 255)) && true)) = true := hwi
          obtain ⟨q0, q⟩ := Bool.and_eq_true_iff.mp q
          have k0 := Codec.inInt_iff.mp q0
          have e10 : ((a.1.toNat : Nat) : Int) = a.1 := Int.toNat_of_nonneg k0.1
          obtain ⟨q, _⟩ := Bool.and_eq_true_iff.mp q
          obtain ⟨qa, qb⟩ := Bool.and_eq_true_iff.mp q
          refine ⟨_, a.1.toNat, a.2.1, (by rw [e10]), hs2, (Codec.inNat_iff.mp qa).2, fun x hx => ?_, fun H' p hp => .lst (L2.SqL.of hp) (by rw [e10]; exact L2.dw_ints _)⟩
          have z := List.all_eq_true.mp qb x hx
          exact Codec.inInt_iff.mp z
