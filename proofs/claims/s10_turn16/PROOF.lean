import PyProof.Rows.All
import Wide.All
import OpenK.AllK
import Wide.FinOn
import PyProof.EqAt
import PyProof.EqKinds
import PyProof.TupleCall
import KE.KExcInit
import HandS.Exc
import HandS.ExcSuper
import HandS.ExcInit
import HandS.ForSpec
import HandS.TryMany
import HandS.Dict
import HandS.Iter
import HandS.Comp
import HandS.WideBits
import Open.SpecLaws
import KE.OsGo
import PySem.Challenge.RW_studtube_s10_turn16
set_option Elab.async false
set_option linter.all false
set_option maxRecDepth 100000
set_option maxHeartbeats 4000000
/-! The program's own errors: classes over Exception, one below another; __init__ of the upper one is called by name, then fields are set. -/
namespace PySem
namespace Jx
open PySem.W PySem.Calls PyProof.Rows PySem.HandSPX Builtin Builtin.ObjectAttr
abbrev exT : List Value := [.type "Exception", .type "BaseException", .type "object"]
structure CT (K : Frag) (C : Addr) : Prop where
  cls : ∃ nm q N bs bm sn sub ab col dd k0 k1 k2 k3 k5,
    K.lookup C = some (excClassObj nm q C N bs bm true sn sub ab col dd k0 k1 k2 k3 k5 "Exception.__new__") ∧ excTail exT bm = true
  sa : findIn K (.ref C) "__setattr__" = some (some (.builtin "object.__setattr__"))
  ga : findIn K (.ref C) "__getattribute__" = some (some (.builtin "BaseException.__getattribute__"))
  gg : findIn K (.ref C) "__getattr__" = some none
  nN : findIn K (.ref C) "number" = some none
  kC : keepIn K (.ref C) = true
  exC : subIn K (.ref C) (.type "BaseException") = some true
  tyC : typeIn K (.ref C) = some (.type "type")
  hdC : hasDictIn K C = true
section
variable {K : Frag} {C : Addr}
theorem CT.cd (T : CT K C) : ∃ cd : ClassData, clsIn K C = some cd ∧ cd.hasDict = true := by
  obtain ⟨nm, q, N, bs, bm, sn, sub, ab, col, dd, k0, k1, k2, k3, k5, hC, hbm⟩ := T.cls
  have e : (clsIn K C).map (·.hasDict) = some true := by
    unfold clsIn
    rw [hC] <;> rfl
  cases q : clsIn K C with
  | none => rw [q] at e; cases e
  | some cd => rw [q] at e; exact ⟨cd, rfl, Option.some.inj e⟩
theorem CT.over (T : CT K C) : excOver K C exT = true := by
  obtain ⟨nm, q, N, bs, bm, sn, sub, ab, col, dd, k0, k1, k2, k3, k5, hC, hbm⟩ := T.cls
  unfold excOver clsIn
  rw [hC]
  show ((C == C) && excTail exT bm) = true
  rw [hbm, Bool.and_true]
  exact beq_self_eq_true C
theorem taker {f : Str} (h : findIn K (.ref C) f = some none) : takerIn K C f = some none := by
  unfold takerIn
  rw [h] <;> rfl
end
/-- what is left of an error at x when a field was set -/
structure FEnd (h h' : Heap) (x C dx t0 : Addr) (m : Str → Option Value) : Prop where
  keep : ∀ b o, b ≠ x → h.get? b = some o → h'.get? b = some o
  obj : h'.get? x = some { cls := .ref C, dict := some dx, data := .fields #[.ref t0, .none, .none, .none, .bool false, .none] }
  dbig : h.objs.size ≤ dx
  dne : dx ≠ x
  ns : h'.Ns1 dx m
section
variable {prog : Program} {w : World} {A : Around} {E : Value → Shared → Prop} {s : Shared} {K : Frag} {C x t0 : Addr} {f : Str} {v : Value} {Q : Unit → Shared → Prop}
/-- the first field -/
theorem set_first (T : CT K C) (X : K.In s.heap) (hx : s.heap.get? x = some (excO C t0)) (hf : findIn K (.ref C) f = some none)
    (hq : ∀ h' tk dx, FEnd s.heap h' x C dx t0 (fun y => if y = f then some v else none) → Q () { s with heap := h', toks := tk }) :
    wpAny (model prog w) A (setAttr (.ref x) f v) Q E s := by
  obtain ⟨cd, hcd, hhd⟩ := T.cd
  obtain ⟨hp, g, d, tk, os⟩ := s
  have I : InstAt hp x (excO C t0) C none := ⟨hx, rfl, rfl, trivial⟩
  refine set_plain X I T.sa (osa_openX F.store_Exception X I T.over (taker hf) fun b => ?_)
  have hcls : Looks (model prog w) hp (classData C) cd := looks_clsIn X hcd
  have hxs : x ≠ hp.objs.size := Nat.ne_of_lt (Heap.lt_size hx)
  dsimp only
  unfold storeInOwnDict ownDictForStores
  repeat (first
    | with_reducible refine HandSPX.store_in_new ?mt ?gn
    | with_reducible refine wpAny_loadPart_at hx ?_
    | (with_reducible refine hcls.at ?_; rw [hhd])
    | wp_step
    | dsimp only)
  case mt =>
    refine ⟨_, #[], _, (Heap.get?_update_ne _ _ _ _ hxs.symm).trans (Heap.get?_push_at rfl rfl), rfl, ?_, fun _ => rfl⟩
    intro e he
    exact absurd he (by simp)
  case gn =>
    intro h' tk' hn' hs
    have hx1 := Heap.get?_push_of_some (h := hp) { cls := .type "dict", data := .dict #[] } hx
    refine hq h' tk' hp.objs.size ⟨fun b o hb ho => ?_, ?_, Nat.le_refl _, hxs.symm, hn'⟩
    · have e1 := hs.2 b (Nat.ne_of_lt (Heap.lt_size ho))
      rw [e1, Heap.get?_update_ne _ _ _ _ hb]
      exact Heap.get?_push_of_some _ ho
    · rw [hs.2 x hxs]
      exact Heap.get?_update_self _ hx1 rfl
/-- a further field -/
theorem set_more {dx : Addr} {m0 : Str → Option Value} {nl : List Str} {fv : Array Value} (T : CT K C) (X : K.In s.heap)
    (hx : s.heap.get? x = some { cls := .ref C, dict := some dx, data := .fields fv }) (hns : s.heap.Ns1 dx m0) (hw : Within m0 nl) (hz : nl.length ≤ 1000) (hf : findIn K (.ref C) f = some none)
    (hq : ∀ h' tk, (∀ b o, b ≠ dx → s.heap.get? b = some o → h'.get? b = some o) → h'.Ns1 dx (fun y => if y = f then some v else m0 y) → Q () { s with heap := h', toks := tk }) :
    wpAny (model prog w) A (setAttr (.ref x) f v) Q E s := by
  obtain ⟨cd, hcd, hhd⟩ := T.cd
  obtain ⟨hp, g, d, tk, os⟩ := s
  obtain ⟨oD, _, _, hoD, _, _⟩ := hns.count hw
  have I : InstAt hp x { cls := .ref C, dict := some dx, data := .fields fv } C (some oD) := ⟨hx, rfl, rfl, hoD⟩
  refine set_plain X I T.sa (osa_openX F.store_Exception X I T.over (taker hf) fun b => ?_)
  have hcls : Looks (model prog w) hp (classData C) cd := looks_clsIn X hcd
  dsimp only
  unfold storeInOwnDict ownDictForStores
  repeat (first
    | with_reducible refine OEX.store_in_old hns hw hz ?gn
    | with_reducible refine wpAny_loadPart_at hx ?_
    | (with_reducible refine hcls.at ?_; rw [hhd])
    | wp_step
    | dsimp only)
  case gn =>
    intro h' tk' hn' hs
    exact hq h' tk' (fun b o hb ho => by rw [hs.2 b hb]; exact ho) hn'
end
/-! ### the text of the defs -/
def rA (p1 p2 : Pos) : Arguments := { posonlyargs := [], args := [{ arg := "self", annotation := none, pos := p1 }, { arg := "number", annotation := none, pos := p2 }], vararg := none, kwonlyargs := [], kw_defaults := [], kwarg := none, defaults := [] }
def stB (f y : Str) (q1 q2 q3 q4 : Pos) : Stmt := .Assign [.Attribute (.Name "self" q1) f q2] (.Name y q3) q4
def rS : Scope := { kind := .function, names := [(PySem.Str.ofString "self", .local), (PySem.Str.ofString "number", .local)], isGenerator := false, isCoroutine := false, more := [] }
/-- Refused.__init__(self, -n) -/
def cS (n : Int) (k : Nat) (p1 p2 p3 p4 p5 p6 p7 : Pos) : Stmt := .Expr (.Call (.Attribute (.Name "Refused" p1) "__init__" p2) [.Name "self" p3, .UnaryOp .USub (.Constant (.int n) k p4) p5] [] p6) p7
def nA (p1 : Pos) : Arguments := { posonlyargs := [], args := [{ arg := "self", annotation := none, pos := p1 }], vararg := none, kwonlyargs := [], kw_defaults := [], kwarg := none, defaults := [] }
def nS : Scope := { kind := .function, names := [(PySem.Str.ofString "self", .local), (PySem.Str.ofString "Refused", .globalImplicit)], isGenerator := false, isCoroutine := false, more := [] }
def fA (p1 p2 : Pos) : Arguments := { posonlyargs := [], args := [{ arg := "self", annotation := none, pos := p1 }, { arg := "fault", annotation := none, pos := p2 }], vararg := none, kwonlyargs := [], kw_defaults := [], kwarg := none, defaults := [] }
def fS : Scope := { kind := .function, names := [(PySem.Str.ofString "self", .local), (PySem.Str.ofString "fault", .local), (PySem.Str.ofString "Refused", .globalImplicit)], isGenerator := false, isCoroutine := false, more := [] }
def wA (p1 p2 p3 : Pos) : Arguments := { posonlyargs := [], args := [{ arg := "self", annotation := none, pos := p1 }, { arg := "point", annotation := none, pos := p2 }, { arg := "where", annotation := none, pos := p3 }], vararg := none, kwonlyargs := [], kw_defaults := [], kwarg := none, defaults := [] }
def wS : Scope := { kind := .function, names := [(PySem.Str.ofString "self", .local), (PySem.Str.ofString "point", .local), (PySem.Str.ofString "where", .local), (PySem.Str.ofString "Refused", .globalImplicit)], isGenerator := false, isCoroutine := false, more := [] }

/-- what the written part says of a def of these -/
def FnIn (K : Frag) (f : Addr) (qual : Str) (a : Arguments) (b : List Stmt) (sc : Scope) : Prop :=
  ∃ (oc : Value) (od : Option Addr) (kV doc pm : Value) (an : Option Addr) (cdv ct : Value) (osl : Array (Option Value)),
    K.lookup f = some ⟨oc, od, .func (fnOf "__init__" qual a b sc .none kV doc pm an cdv ct), osl⟩ ∧ codeIn K cdv qual = true
/-- Refused, at CR, its __init__ at fR -/
structure RT (K : Frag) (mg : Str → Option Value) (CR fR : Addr) : Prop where
  gR : mg "Refused" = some (.ref CR)
  rd : readsIn K CR (.type "type") = true
  ga : specialIn K (.ref CR) "__getattribute__" = some (some (.builtin "type.__getattribute__"))
  ini : findCls K (.ref CR) (.type "type") "__init__" = some (.val (.ref fR))
  kp : keepIn K (.ref fR) = true
  fn : ∃ p1 p2 q1 q2 q3 q4, FnIn K fR "Refused.__init__" (rA p1 p2) [stB "number" "number" q1 q2 q3 q4] rS
section
variable {prog : Program} {w : World} {A : Around} {E : Value → Shared → Prop} {R : Result → Shared → Prop} {s : Shared} {K : Frag} {mg : Str → Option Value} {C CR fR fI : Addr}
theorem rd_local {M : Model} {name : Str} {scope : Scope} {L a : Addr} {cd : Value} {m : Str → Option Value} {x : Str} {pos : Pos} {v : Value} {Q : Value → Shared → Prop}
    (hn : s.heap.Ns L m) (hv : m x = some v) (h : Q v s) (hk : scope.kind = .function := by rfl) (hl : (envOfC name scope L a cd).kindOf x = some .local := by rfl) (hd : (x == ("__debug__" : Str)) = false := by decide) :
    wpAny M A (eval (.Name x pos) (envOfC name scope L a cd)) Q E s := wpAny_Name (wpAny_loadName_local hk hl hn hv h) hd
theorem out_of {h : Heap} {x : Addr} {o : Obj} (X : K.In h) (hx : K.lookup x = some o) : h.get? x = some o := X _ _ hx
/-- Refused.__init__ -/
theorem ref_init (T : CT K C) (TR : RT K mg CR fR) {x t0 : Addr} {v : Value} (X : K.In s.heap) (hlim : s.heap.NoLimit) (hx : s.heap.get? x = some (excO C t0)) (hroom : A.depth < recursionLimit)
    (hq : ∀ h' tk dx, FEnd s.heap h' x C dx t0 (fun y => if y = "number" then some v else none) → R (.ok (.ret .none)) { s with heap := h', toks := tk }) :
    codeAny (model prog w) A (.call (.ref fR) ⟨[.ref x, v], []⟩) R s := by
  obtain ⟨p1, p2, q1, q2, q3, q4, oc, od, kV, doc, pm, an, cdv, ct, osl, ho, hcd⟩ := TR.fn
  refine Att.call_fn (binds := [("self", .ref x), ("number", v)]) X hlim ho hcd hroom (BindsTo.of_eq (by first | rfl | with_unfolding_all rfl)) (by first | rfl | decide | with_unfolding_all rfl) (fun s1 IC => ?_) rfl rfl rfl
  obtain ⟨h1, tk1, rfl⟩ := IC.toInCall.same
  have k : ∀ b o, s.heap.get? b = some o → h1.get? b = some o := IC.toInCall.keep
  have hn := IC.toInCall.ns
  have X1 : K.In h1 := X.keeps k
  show wpAny _ _ (execs _ _) _ _ _
  refine wpAny_execs_cons (plainObj_wpAny_Assign_Attribute ?_)
  refine rd_local (v := v) hn (by first | rfl | with_unfolding_all rfl | kernel_rfl) (rd_local (v := .ref x) hn (by first | rfl | with_unfolding_all rfl | kernel_rfl) ?_)
  refine set_first T X1 (k _ _ hx) T.nN fun h3 tk3 dx e => ?_
  show wpAny _ _ (execs _ _) _ _ _
  have z : s.heap.objs.size < h1.objs.size := hn.lt
  refine wpAny_execs_nil (hq h3 tk3 dx ⟨fun b o hb q => e.keep b o hb (k b o q), e.obj, ?_, e.dne, e.ns⟩)
  exact Nat.le_of_lt (Nat.lt_of_lt_of_le z e.dbig)
theorem call_eq {env : Env} {n : Int} {nk : Nat} {p1 p2 p3 p4 p5 p6 : Pos} (h : (p2.endLine == p6.line) = true) :
    eval (.Call (.Attribute (.Name "Refused" p1) "__init__" p2) [.Name "self" p3, .UnaryOp .USub (.Constant (.int n) nk p4) p5] [] p6) env = (do
      let ov ← eval (.Name "Refused" p1) env
      standAt p2.atName
      let (f, first) ← holding [ov] (getMethod ov "__init__" (do return (← importBound (.Name "Refused" p1) env).getD true))
      callWith p6 f first (backTo p6 (starEach [.Name "self" p3, .UnaryOp .USub (.Constant (.int n) nk p4) p5] env)) (backToKw p6 (keywordEach [] env))) := by
  rw [arm_eval_Call]
  have e : ∀ b : Bool, methodCallPos b (.Name "Refused" p1) env p2 p6 = pure p6 := fun b => by
    unfold methodCallPos
    rw [h, Bool.or_true, if_pos rfl]
  unfold methodCall
  rw [e]
  rfl
/-- the statement that calls it -/
theorem call_ref (T : CT K C) (TR : RT K mg CR fR) {x t0 L a : Addr} {n : Int} {nk : Nat} {name : Str} {scope : Scope} {cd : Value} {m : Str → Option Value} {p1 p2 p3 p4 p5 p6 p7 : Pos} {Q : Flow → Shared → Prop}
    (X : K.In s.heap) (hlim : s.heap.NoLimit) (G : s.heap.Ns mainGlobals mg) (hx : s.heap.get? x = some (excO C t0)) (hroom : A.depth < recursionLimit) (hc : (p2.endLine == p6.line) = true) (hn : s.heap.Ns L m) (hm : m "self" = some (.ref x))
    (hq : ∀ h' tk tn dx, FEnd s.heap h' x C dx t0 (fun (y : Str) => if y = "number" then some (Value.int (-n) tn) else none) → Q .next { s with heap := h', toks := tk })
    (hk : scope.kind = .function := by rfl) (hl : (envOfC name scope L a cd).kindOf "self" = some .local := by rfl) (hg : (envOfC name scope L a cd).kindOf "Refused" = some .globalImplicit := by rfl)
    (hgl : (envOfC name scope L a cd).globals = mainGlobals := by rfl) (hi : interactive (envOfC name scope L a cd) = false := by rfl) :
    wpAny (model prog w) A (exec (cS n nk p1 p2 p3 p4 p5 p6 p7) (envOfC name scope L a cd)) Q E s := by
  unfold cS
  refine wpAny_Expr_any ?_ hi
  refine methodCall_KW (Name_function_global hk hg (loadGlobal_global (by rw [hgl]; exact G) TR.gR ?_)) (call_eq hc)
  refine method_cls X TR.ga (cls_value X TR.rd TR.ini (by first | rfl | decide) ?_)
  refine callWith_K X TR.kp ?_
  show wpAny _ _ (spliced [(false, _), (false, _)]) _ _ _
  refine Calls.spliced_cons (rd_local (v := .ref x) hn hm ?_ hk hl)
  refine Calls.spliced_cons (UnaryOp_ (wpAny_Constant_int (P.neg_int (Calls.spliced_nil ?_))))
  refine ⟨X, wpAny_call (ref_init (s := { s with toks := s.toks + 1 + 1 + 1 }) T TR X hlim hx hroom fun h' tk dx e => ?_)⟩
  exact hq h' tk _ dx e
end
theorem FEnd.more {h h3 h' : Heap} {x C dx t0 : Addr} {m m' : Str → Option Value} (e : FEnd h h3 x C dx t0 m) (k : ∀ b o, b ≠ dx → h3.get? b = some o → h'.get? b = some o) (n : h'.Ns1 dx m') : FEnd h h' x C dx t0 m' :=
  ⟨fun b o hb q => k b o (Nat.ne_of_lt (Nat.lt_of_lt_of_le (Heap.lt_size q) e.dbig)) (e.keep b o hb q), k _ _ (Ne.symm e.dne) e.obj, e.dbig, e.dne, n⟩
theorem FEnd.back {h h1 h' : Heap} {x C dx t0 : Addr} {m : Str → Option Value} (e : FEnd h1 h' x C dx t0 m) (k : ∀ b o, h.get? b = some o → h1.get? b = some o) (z : h.objs.size ≤ h1.objs.size) : FEnd h h' x C dx t0 m :=
  ⟨fun b o hb q => e.keep b o hb (k b o q), e.obj, Nat.le_trans z e.dbig, e.dne, e.ns⟩
theorem in_but {K : Frag} {h h' : Heap} {x : Addr} (X : K.In h) (hx : K.lookup x = none) (k : ∀ b o, b ≠ x → h.get? b = some o → h'.get? b = some o) : K.In h' := fun a o e =>
  k a o (fun z => by rw [z, hx] at e; cases e) (X a o e)
/-- how the __init__ of C, at fI, goes with these arguments: P tells the fields -/
def Ini (K : Frag) (mg : Str → Option Value) (C fI : Addr) (us : List Value) (P : (Str → Option Value) → Prop) : Prop :=
  ∀ (prog : Program) (w : World) (A : Around) (R : Result → Shared → Prop) (s : Shared) (x t0 : Addr), K.In s.heap → s.heap.NoLimit → s.heap.Ns mainGlobals mg →
    s.heap.get? x = some (excO C t0) → K.lookup x = none → A.depth + 1 < recursionLimit → (∀ h' tk dx m, FEnd s.heap h' x C dx t0 m → P m → R (.ok (.ret .none)) { s with heap := h', toks := tk }) →
    codeAny (model prog w) A (.call (.ref fI) ⟨.ref x :: us, []⟩) R s
section
variable {K : Frag} {mg : Str → Option Value} {C CR fR fI : Addr} {qual : Str} {n : Int}
/-- def __init__(self): Refused.__init__(self, -n) -/
theorem ini_n (T : CT K C) (TR : RT K mg CR fR) (hf : ∃ p0 nk p1 p2 p3 p4 p5 p6 p7, (p2.endLine == p6.line) = true ∧ FnIn K fI qual (nA p0) [cS n nk p1 p2 p3 p4 p5 p6 p7] nS) :
    Ini K mg C fI [] (fun m => ∃ tn, m = fun (y : Str) => if y = "number" then some (Value.int (-n) tn) else none) := by
  intro prog w A R s x t0 X hlim G hx hnx hroom hq
  obtain ⟨p0, nk, p1, p2, p3, p4, p5, p6, p7, hln, oc, od, kV, doc, pm, an, cdv, ct, osl, ho, hcd⟩ := hf
  refine Att.call_fn (binds := [("self", .ref x)]) X hlim ho hcd (Nat.lt_of_succ_lt hroom) (BindsTo.of_eq (by first | rfl | with_unfolding_all rfl)) (by first | rfl | decide | with_unfolding_all rfl) (fun s1 IC => ?_) rfl rfl rfl
  obtain ⟨h1, tk1, rfl⟩ := IC.toInCall.same
  have k : ∀ b o, s.heap.get? b = some o → h1.get? b = some o := IC.toInCall.keep
  have hn := IC.toInCall.ns
  have z : s.heap.objs.size < h1.objs.size := hn.lt
  show wpAny _ _ (execs _ _) _ _ _
  refine wpAny_execs_cons ?_
  refine call_ref (s := { s with heap := h1, toks := tk1 }) T TR (X.keeps k) (hlim.keeps k) (G.keeps k) (k _ _ hx) hroom hln hn (by first | rfl | with_unfolding_all rfl | kernel_rfl) fun h3 tk3 tn dx e => ?_
  show wpAny _ _ (execs _ _) _ _ _
  exact wpAny_execs_nil (hq h3 tk3 dx _ (e.back k (Nat.le_of_lt z)) ⟨tn, rfl⟩)
/-- def __init__(self, fault): Refused.__init__(self, -n); self.fault = fault -/
theorem ini_f (T : CT K C) (TR : RT K mg CR fR) (nF : findIn K (.ref C) "fault" = some none)
    (hf : ∃ p0 p0' nk p1 p2 p3 p4 p5 p6 p7 q1 q2 q3 q4, (p2.endLine == p6.line) = true ∧ FnIn K fI qual (fA p0 p0') [cS n nk p1 p2 p3 p4 p5 p6 p7, stB "fault" "fault" q1 q2 q3 q4] fS) {v : Value} :
    Ini K mg C fI [v] (fun m => ∃ tn, m = fun (y : Str) => if y = "fault" then some v else if y = "number" then some (Value.int (-n) tn) else none) := by
  intro prog w A R s x t0 X hlim G hx hnx hroom hq
  obtain ⟨p0, p0', nk, p1, p2, p3, p4, p5, p6, p7, q1, q2, q3, q4, hln, oc, od, kV, doc, pm, an, cdv, ct, osl, ho, hcd⟩ := hf
  refine Att.call_fn (binds := [("self", .ref x), ("fault", v)]) X hlim ho hcd (Nat.lt_of_succ_lt hroom) (BindsTo.of_eq (by first | rfl | with_unfolding_all rfl)) (by first | rfl | decide | with_unfolding_all rfl) (fun s1 IC => ?_) rfl rfl rfl
  obtain ⟨h1, tk1, rfl⟩ := IC.toInCall.same
  have k : ∀ b o, s.heap.get? b = some o → h1.get? b = some o := IC.toInCall.keep
  have hn := IC.toInCall.ns
  have X1 : K.In h1 := X.keeps k
  have z : s.heap.objs.size < h1.objs.size := hn.lt
  have hxL : x ≠ s.heap.objs.size := Nat.ne_of_lt (Heap.lt_size hx)
  show wpAny _ _ (execs _ _) _ _ _
  refine wpAny_execs_cons ?_
  refine call_ref (s := { s with heap := h1, toks := tk1 }) T TR X1 (hlim.keeps k) (G.keeps k) (k _ _ hx) hroom hln hn (by first | rfl | with_unfolding_all rfl | kernel_rfl) fun h3 tk3 tn dx e => ?_
  have hn3 := hn.at (h' := h3) fun q hq => e.keep _ q (Ne.symm hxL) hq
  have X3 : K.In h3 := in_but X1 hnx e.keep
  show wpAny _ _ (execs _ _) _ _ _
  refine wpAny_execs_cons (plainObj_wpAny_Assign_Attribute ?_)
  refine rd_local (s := { s with heap := h3, toks := tk3 }) (v := v) hn3 (by first | rfl | with_unfolding_all rfl | kernel_rfl) (rd_local (v := .ref x) hn3 (by first | rfl | with_unfolding_all rfl | kernel_rfl) ?_)
  refine set_more (s := { s with heap := h3, toks := tk3 }) T X3 e.obj e.ns (Within.cons "number" _ Within.nil) (by decide) nF fun h4 tk4 k4 n4 => ?_
  show wpAny _ _ (execs _ _) _ _ _
  exact wpAny_execs_nil (hq h4 tk4 dx _ ((e.more k4 n4).back k (Nat.le_of_lt z)) ⟨tn, rfl⟩)
/-- def __init__(self, point, where): Refused.__init__(self, -n); self.point = point; self.where = where -/
theorem ini_w (T : CT K C) (TR : RT K mg CR fR) (nP : findIn K (.ref C) "point" = some none) (nW : findIn K (.ref C) "where" = some none)
    (hf : ∃ p0 p0' p0'' nk p1 p2 p3 p4 p5 p6 p7 q1 q2 q3 q4 r1 r2 r3 r4, (p2.endLine == p6.line) = true ∧ FnIn K fI qual (wA p0 p0' p0'') [cS n nk p1 p2 p3 p4 p5 p6 p7, stB "point" "point" q1 q2 q3 q4, stB "where" "where" r1 r2 r3 r4] wS) {v u : Value} :
    Ini K mg C fI [v, u] (fun m => ∃ tn, m = fun (y : Str) => if y = "where" then some u else if y = "point" then some v else if y = "number" then some (Value.int (-n) tn) else none) := by
  intro prog w A R s x t0 X hlim G hx hnx hroom hq
  obtain ⟨p0, p0', p0'', nk, p1, p2, p3, p4, p5, p6, p7, q1, q2, q3, q4, r1, r2, r3, r4, hln, oc, od, kV, doc, pm, an, cdv, ct, osl, ho, hcd⟩ := hf
  refine Att.call_fn (binds := [("self", .ref x), ("point", v), ("where", u)]) X hlim ho hcd (Nat.lt_of_succ_lt hroom) (BindsTo.of_eq (by first | rfl | with_unfolding_all rfl)) (by first | rfl | decide | with_unfolding_all rfl) (fun s1 IC => ?_) rfl rfl rfl
  obtain ⟨h1, tk1, rfl⟩ := IC.toInCall.same
  have k : ∀ b o, s.heap.get? b = some o → h1.get? b = some o := IC.toInCall.keep
  have hn := IC.toInCall.ns
  have X1 : K.In h1 := X.keeps k
  have z : s.heap.objs.size < h1.objs.size := hn.lt
  have hxL : x ≠ s.heap.objs.size := Nat.ne_of_lt (Heap.lt_size hx)
  show wpAny _ _ (execs _ _) _ _ _
  refine wpAny_execs_cons ?_
  refine call_ref (s := { s with heap := h1, toks := tk1 }) T TR X1 (hlim.keeps k) (G.keeps k) (k _ _ hx) hroom hln hn (by first | rfl | with_unfolding_all rfl | kernel_rfl) fun h3 tk3 tn dx e => ?_
  have hn3 := hn.at (h' := h3) fun q hq => e.keep _ q (Ne.symm hxL) hq
  have X3 : K.In h3 := in_but X1 hnx e.keep
  have hnd : K.lookup dx = none := by
    cases q : K.lookup dx with
    | none => rfl
    | some o => exact absurd (Heap.lt_size (X1 _ _ q)) (Nat.not_lt.mpr e.dbig)
  show wpAny _ _ (execs _ _) _ _ _
  refine wpAny_execs_cons (plainObj_wpAny_Assign_Attribute ?_)
  refine rd_local (s := { s with heap := h3, toks := tk3 }) (v := v) hn3 (by first | rfl | with_unfolding_all rfl | kernel_rfl) (rd_local (v := .ref x) hn3 (by first | rfl | with_unfolding_all rfl | kernel_rfl) ?_)
  refine set_more (s := { s with heap := h3, toks := tk3 }) T X3 e.obj e.ns (Within.cons "number" _ Within.nil) (by decide) nP fun h4 tk4 k4 n4 => ?_
  have e4 := e.more k4 n4
  have hn4 := hn3.at (h' := h4) fun q hq => k4 _ q (Nat.ne_of_lt (Nat.lt_of_lt_of_le z e.dbig)) hq
  have X4 : K.In h4 := in_but X3 hnd k4
  show wpAny _ _ (execs _ _) _ _ _
  refine wpAny_execs_cons (plainObj_wpAny_Assign_Attribute ?_)
  refine rd_local (s := { s with heap := h4, toks := tk4 }) (v := u) hn4 (by first | rfl | with_unfolding_all rfl | kernel_rfl) (rd_local (v := .ref x) hn4 (by first | rfl | with_unfolding_all rfl | kernel_rfl) ?_)
  refine set_more (s := { s with heap := h4, toks := tk4 }) T X4 e4.obj n4 (Within.cons "point" _ (Within.cons "number" _ Within.nil)) (by decide) nW fun h5 tk5 k5 n5 => ?_
  show wpAny _ _ (execs _ _) _ _ _
  exact wpAny_execs_nil (hq h5 tk5 dx _ ((e4.more k5 n5).back k (Nat.le_of_lt z)) ⟨tn, rfl⟩)
end
/-- a made error -/
structure Made (h h' : Heap) (e C d : Addr) (m : Str → Option Value) : Prop where
  keep : ∀ b o, h.get? b = some o → h'.get? b = some o
  new : h.objs.size ≤ e
  obj : ∃ oe vs, h'.get? e = some oe ∧ oe.cls = .ref C ∧ oe.dict = some d ∧ oe.data = .fields vs ∧ vs[1]? = some .none
  dbig : h.objs.size ≤ d
  dne : d ≠ e
  ns : h'.Ns1 d m
theorem made {prog : Program} {w : World} {A : Around} {R : Result → Shared → Prop} {s : Shared} {K : Frag} {mg : Str → Option Value} {C fI : Addr} {us : List Value} {P : (Str → Option Value) → Prop}
    (T : CT K C) (iC : findIn K (.ref C) "__init__" = some (some (.ref fI))) (tI : typeIn K (.ref fI) = some (.type "function")) (J : Ini K mg C fI us P) (hz : us.length ≤ sizeLine)
    (X : K.In s.heap) (hlim : s.heap.NoLimit) (G : s.heap.Ns mainGlobals mg) (hroom : A.depth + 2 < recursionLimit)
    (hq : ∀ h' tk e d m, Made s.heap h' e C d m → P m → R (.ok (.ret (.ref e))) { s with heap := h', toks := tk }) : codeAny (model prog w) A (.call (.ref C) ⟨us, []⟩) R s := by
  obtain ⟨nm, q, N, bs, bm, sn, sub, ab, col, dd, k0, k1, k2, k3, k5, hC, hbm⟩ := T.cls
  obtain ⟨hp, g, dr, tk, os⟩ := s
  have k : ∀ b o, hp.get? b = some o → ((hp.push (kdv_tup us)).push (excO C hp.objs.size)).get? b = some o := fun b o e => Heap.get?_push_of_some _ (Heap.get?_push_of_some _ e)
  have hget : ((hp.push (kdv_tup us)).push (excO C hp.objs.size)).get? (hp.objs.size + 1) = some (excO C hp.objs.size) := by heap_get
  have hnx : K.lookup (hp.objs.size + 1) = none := by
    cases e : K.lookup (hp.objs.size + 1) with
    | none => rfl
    | some o => exact absurd (Nat.lt_of_succ_lt (Heap.lt_size (X _ _ e))) (Nat.lt_irrefl _)
  refine call_own F.excBase_Exception (fun Y => excTail_contains Y bm hbm) (X _ _ hC) (looks_findIn X iC) (fun self => bind_fn X self tI) hz ?_
  refine J prog w _ _ ⟨(hp.push (kdv_tup us)).push (excO C hp.objs.size), g, dr, tk, os⟩ (hp.objs.size + 1) hp.objs.size (X.keeps k) (hlim.keeps k) (G.keeps k) hget hnx ?_ fun h' tk' dx m e p => ?_
  · show A.depth + 1 + 1 < recursionLimit
    exact hroom
  · have z : hp.objs.size + 1 + 1 ≤ dx := by
      have z1 := e.dbig
      rw [Heap.size_push, Heap.size_push] at z1
      exact z1
    refine ⟨rfl, hq h' tk' (hp.objs.size + 1) dx m ⟨fun b o q => ?_, Nat.le_succ _, ⟨_, _, e.obj, rfl, rfl, rfl, rfl⟩, Nat.le_trans (Nat.le_trans (Nat.le_succ _) (Nat.le_succ _)) z, e.dne, e.ns⟩ p⟩
    exact e.keep b o (Nat.ne_of_lt (Nat.lt_succ_of_lt (Heap.lt_size q))) (k b o q)
end Jx
end PySem
set_option Elab.async false
set_option linter.all false
set_option maxRecDepth 100000
set_option maxHeartbeats 4000000
namespace PySem
namespace Jx
open PySem.W PySem.Calls PyProof.Rows PySem.HandSPX
theorem Ini.imp {K : Frag} {mg : Str → Option Value} {C fI : Addr} {us : List Value} {P P' : (Str → Option Value) → Prop} (J : Ini K mg C fI us P) (h : ∀ m, P m → P' m) : Ini K mg C fI us P' :=
  fun prog w A R s x t0 X hl G hx hn hr hq => J prog w A R s x t0 X hl G hx hn hr fun h' tk dx m e p => hq h' tk dx m e (h m p)
end Jx
end PySem
namespace L2
open PySem PySem.Spec PyProof.Rows PySem.Jx
/-- what the written part says of an error's class: k arguments, g the fields that they make -/
structure ErrT (K : PySem.W.Frag) (mg : Str → Option Value) (C fI : Addr) (k : Nat) (g : List V → List (Str × V)) : Prop where
  ct : CT K C
  iC : PySem.W.findIn K (.ref C) "__init__" = some (some (.ref fI))
  tI : PySem.W.typeIn K (.ref fI) = some (.type "function")
  te : PySem.W.exmOne K (.ref C) (.ref C) = some true
  run : ∀ vs us, Vals vs us → vs.length = k → Ini K mg C fI us (fun m => ∀ f, RelO ((g vs).lookup f) (m f))
def tMkE (C : Addr) (k : Nat) (g : List V → List (Str × V)) (ta : TA) : St → Hp → XK → Prop := fun σ H Q => ta σ H fun vs H1 => vs.length = k ∧ k ≤ 10 ∧ ∀ d, H1 d = none → Q (.ref C) (some d) (upd H1 d (.xd (g vs)))
section
variable {X : Cx} {C fI : Addr} {k : Nat} {g : List V → List (Str × V)}
/-- the class is called: a new error, its dict tracked -/
theorem mk_err {pins : List (Addr × Obj)} {σ : St} {H1 : Hp} {s1 : Shared} {Q : XK} {vs : List V} {us : List Value} (T : ErrT X.K X.mg C fI k g) (hd : X.A.depth + 5 < recursionLimit) (I1 : Inv X pins σ H1 s1)
    (r1 : Vals vs us) (hl : vs.length = k) (hk : k ≤ 10) (q1 : ∀ d, H1 d = none → Q (.ref C) (some d) (upd H1 d (.xd (g vs)))) :
    wpAny (model X.prog X.w) X.A (call (.ref C) us) (MkP X pins σ Q) X.xe s1 := by
  have hlim := I1.nolimit
  have G := I1.mod.glob.keeps I1.bk
  have hz : us.length ≤ sizeLine := by
    rw [← Paired.length r1, hl, sizeLine_eq]
    omega
  obtain ⟨hp, gs, dr, tk, os⟩ := s1
  refine wpAny_call (made T.ct T.iC T.tI (T.run vs us r1 hl) hz I1.kIn hlim G (by omega) fun h' tk' e d m M rel => ?_)
  show MkP X pins σ Q (.ref e) ⟨h', gs, dr, tk', os⟩
  obtain ⟨oe, fv, hoe, hc, hd, hdat, h1⟩ := M.obj
  have hns := M.ns
  obtain ⟨G', g1, g2⟩ := restrict h' fun b => decide (b ≠ e)
  have gk : ∀ b, b ≠ e → G'.get? b = h'.get? b := fun b hb => g1 b (decide_eq_true hb)
  have ge : G'.get? e = none := g2 e (by simp)
  have old : ∀ b o, hp.get? b = some o → G'.get? b = some o := fun b o q => (gk b (Nat.ne_of_lt (Nat.lt_of_lt_of_le (Heap.lt_size q) M.new))).trans (M.keep b o q)
  have ob : ObjOk X.prog X.w (upd H1 d (.xd (g vs))) G' d (.xd (g vs)) := ⟨m, hns.at (fun o q => (gk d M.dne).trans q), rel⟩
  have J := I1.laid (t' := tk') old M.dbig ob
  refine ⟨e, oe, fv, ⟨G', gs, dr, tk', os⟩, _, .ref C, some d, rfl, J, fun b o q => ?_, ge, hoe, ⟨hc, hd⟩, hdat, h1, ?_, rfl, I1.bare, raises_own T.ct.exC T.ct.tyC, q1 d (I1.hok.fresh M.dbig)⟩
  · by_cases hb : b = e
    · have q' : G'.get? b = some o := q
      rw [hb, ge] at q'; cases q'
    · exact (gk b hb).symm.trans q
  · rw [upd_ne (Ne.symm M.dne)]
    exact I1.hok.fresh M.new
theorem pmk_err {a : Expr} {as : List Expr} {ta : TA} {x : Str} {p pos : Pos} {j : Nat} (T : ErrT X.K X.mg C fI k g) (hm : X.mg x = some (.ref C)) (hr : Room j X.A) (ha : PA X (a :: as) ta) (hg : Gl X x := by rfl) (hdb : (x == ("__debug__" : Str)) = false := by decide)
    (he : starEach (a :: as) X.env = (false, eval a X.env) :: starEach as X.env := by rfl) (hpl : (backTo pos (starEach as X.env)).any (·.1) = false := by rfl) :
    PMk X (.Call (.Name x p) (a :: as) [] pos) (tMkE C k g ta) := by
  intro pins s σ H Q I h
  refine wpAny_Call_Name_kw (ld_glob I hg hm ?_ hdb)
  refine PySem.W.callWith_K (h₀ := X.base) I.ok.mod.kin T.ct.kC (thn (ha.run pos pins s σ H _ I h) fun us s1 ⟨vs, H1, I1, r1, hl, hk, q1⟩ => ?_) he hpl
  exact ⟨I1.kIn, mk_err T (by have := hr.dp; omega) I1 r1 hl hk q1⟩
theorem pmk_err0 {x : Str} {p pos : Pos} {j : Nat} (T : ErrT X.K X.mg C fI 0 g) (hm : X.mg x = some (.ref C)) (hr : Room j X.A) (hg : Gl X x := by rfl) (hdb : (x == ("__debug__" : Str)) = false := by decide) :
    PMk X (.Call (.Name x p) [] [] pos) (tMkE C 0 g tNil) := by
  intro pins s σ H Q I h
  obtain ⟨hl, hk, q1⟩ := h
  refine wpAny_Call_Name_kw (ld_glob I hg hm ?_ hdb)
  exact PySem.W.callWith_K0 I.kIn T.ct.kC (mk_err (us := []) T (by have := hr.dp; omega) I .nil rfl (by omega) q1)
/-- raise C(e, ..) -/
theorem ps_raise_err {W : WX} {e : Expr} {t : St → Hp → XK → Prop} {pos2 : Pos} (hc : X.calm = true) (tk : Takes X W) (h : PMk X e t) :
    PS X (.Raise (some e) none pos2) (fun _ σ H => t σ H fun cls d H' => W cls d σ H') := ps_raise hc tk h
/-- e.f, e the error that the suite holds (at a; its class cls, its dict d) -/
def tErrF (K : PySem.W.Frag) (f : Str) (a : Addr) (cls : Value) (d : Option Addr) (te : TE) : TE := fun σ H Q => te σ H fun x H1 => x = .ref a ∧ ∃ (C dd : Addr) (fs : List (Str × V)) (v : V), cls = .ref C ∧ CT K C ∧ PySem.W.findIn K (.ref C) f = some none ∧
  d = some dd ∧ H1 dd = some (.xd fs) ∧ fs.lookup f = some v ∧ Q v H1
theorem pe_errF {f : Str} {a : Addr} {oe : Obj} {cls : Value} {d : Option Addr} {pn : List (Addr × Obj)} {e : Expr} {te : TE} {pos : Pos} (hz : Zc cls d oe) (hf : ∃ vs, oe.data = .fields vs) (he : PE (X.suite a ((a, oe) :: pn)) e te)
    (hb : attributeBase e f X.env (eval e X.env) = eval e X.env := by rfl) : PE (X.suite a ((a, oe) :: pn)) (.Attribute e f pos) (tErrF X.K f a cls d te) := by
  refine ⟨fun pins s σ H Q I h => ?_⟩
  refine attr_of hb (thn (he.run pins s σ H _ I h) fun u s1 hh => ?_)
  obtain ⟨x, H1, I1, rx, ex, C, dd, fs, v, ec, T, nf, ed, ea, l, q⟩ := hh
  subst ex
  obtain rfl : u = Value.ref a := rx
  subst ec
  subst ed
  obtain ⟨ha, _⟩ := I1.pin (a, oe) (List.mem_append_left _ List.mem_cons_self)
  obtain ⟨vs, hd⟩ := hf
  have hx : ObjOk X.prog X.w H1 s1.heap dd (.xd fs) := I1.hok dd _ ea
  obtain ⟨mA, hns, hr⟩ := hx
  obtain ⟨od, ho, hl⟩ := lookIn_ns hns
  obtain ⟨u, hu, ru⟩ := RelO.some_of (v := v) (o := mA f) (by rw [← l]; exact hr f)
  have J : PySem.W.InstAt s1.heap a oe C (some od) := ⟨ha, hz.1, by unfold PySem.W.notCls; rw [hd] <;> rfl, by rw [hz.2]; exact ho⟩
  exact HandSPX.exc_get I1.kIn J T.ga T.gg T.exC (PySem.W.findObj_own T.hdC nf rfl (by rw [hl, hu])) (handed_of ru) ⟨v, H1, I1.tok _, ru, q⟩
end
/-! ### the classes of this program -/
theorem err_n {K : PySem.W.Frag} {mg : Str → Option Value} {C CR fR fI : Addr} {qual : Str} {n : Int} (T : CT K C) (TR : RT K mg CR fR) (iC : PySem.W.findIn K (.ref C) "__init__" = some (some (.ref fI))) (tI : PySem.W.typeIn K (.ref fI) = some (.type "function")) (te : PySem.W.exmOne K (.ref C) (.ref C) = some true)
    (hf : ∃ p0 nk p1 p2 p3 p4 p5 p6 p7, (p2.endLine == p6.line) = true ∧ FnIn K fI qual (nA p0) [cS n nk p1 p2 p3 p4 p5 p6 p7] nS) : ErrT K mg C fI 0 (fun _ => [("number", .int (-n))]) :=
  ⟨T, iC, tI, te, fun vs us r hl => by
    cases r with
    | cons _ _ => cases hl
    | nil =>
      refine (ini_n T TR hf).imp fun m ⟨tn, e⟩ f => ?_
      subst e
      exact relO_put (y := .int (-n)) (u := .int (-n) tn) (fs := []) (mA := fun _ => none) ⟨tn, rfl⟩ (fun _ => True.intro) f⟩
theorem err_f {K : PySem.W.Frag} {mg : Str → Option Value} {C CR fR fI : Addr} {qual : Str} {n : Int} (T : CT K C) (TR : RT K mg CR fR) (nF : PySem.W.findIn K (.ref C) "fault" = some none) (iC : PySem.W.findIn K (.ref C) "__init__" = some (some (.ref fI))) (tI : PySem.W.typeIn K (.ref fI) = some (.type "function")) (te : PySem.W.exmOne K (.ref C) (.ref C) = some true)
    (hf : ∃ p0 p0' nk p1 p2 p3 p4 p5 p6 p7 q1 q2 q3 q4, (p2.endLine == p6.line) = true ∧ FnIn K fI qual (fA p0 p0') [cS n nk p1 p2 p3 p4 p5 p6 p7, stB "fault" "fault" q1 q2 q3 q4] fS) :
    ErrT K mg C fI 1 (fun vs => [("fault", vs.getD 0 .non), ("number", .int (-n))]) :=
  ⟨T, iC, tI, te, fun vs us r hl => by
    cases r with
    | nil => cases hl
    | cons r1 r =>
      cases r with
      | cons _ _ => cases hl
      | nil =>
        refine (ini_f T TR nF hf).imp fun m ⟨tn, e⟩ f => ?_
        subst e
        exact relO_put (fs := [("number", V.int (-n))]) (mA := fun (y : Str) => if y = "number" then some (Value.int (-n) tn) else none) r1 (relO_put (y := .int (-n)) (u := .int (-n) tn) (fs := []) (mA := fun _ => none) ⟨tn, rfl⟩ (fun _ => True.intro)) f⟩
theorem err_w {K : PySem.W.Frag} {mg : Str → Option Value} {C CR fR fI : Addr} {qual : Str} {n : Int} (T : CT K C) (TR : RT K mg CR fR) (nP : PySem.W.findIn K (.ref C) "point" = some none) (nW : PySem.W.findIn K (.ref C) "where" = some none) (iC : PySem.W.findIn K (.ref C) "__init__" = some (some (.ref fI))) (tI : PySem.W.typeIn K (.ref fI) = some (.type "function")) (te : PySem.W.exmOne K (.ref C) (.ref C) = some true)
    (hf : ∃ p0 p0' p0'' nk p1 p2 p3 p4 p5 p6 p7 q1 q2 q3 q4 r1 r2 r3 r4, (p2.endLine == p6.line) = true ∧ FnIn K fI qual (wA p0 p0' p0'') [cS n nk p1 p2 p3 p4 p5 p6 p7, stB "point" "point" q1 q2 q3 q4, stB "where" "where" r1 r2 r3 r4] wS) :
    ErrT K mg C fI 2 (fun vs => [("where", vs.getD 1 .non), ("point", vs.getD 0 .non), ("number", .int (-n))]) :=
  ⟨T, iC, tI, te, fun vs us r hl => by
    cases r with
    | nil => cases hl
    | cons r1 r =>
      cases r with
      | nil => cases hl
      | cons r2 r =>
        cases r with
        | cons _ _ => cases hl
        | nil =>
          refine (ini_w T TR nP nW hf).imp fun m ⟨tn, e⟩ f => ?_
          subst e
          refine relO_put (fs := [("point", _), ("number", V.int (-n))]) (mA := fun (y : Str) => if y = "point" then some _ else if y = "number" then some (Value.int (-n) tn) else none) r2 ?_ f
          exact relO_put (fs := [("number", V.int (-n))]) (mA := fun (y : Str) => if y = "number" then some (Value.int (-n) tn) else none) r1 (relO_put (y := .int (-n)) (u := .int (-n) tn) (fs := []) (mA := fun _ => none) ⟨tn, rfl⟩ (fun _ => True.intro))⟩
end L2
set_option Elab.async false
set_option linter.all false
set_option maxRecDepth 100000
set_option maxHeartbeats 4000000
namespace L2
open PySem PySem.Spec PyProof.Rows PySem.Jx
/-! ### try: body, except c1 as n: .., except c2 as n: .. (slot i is n's) -/
abbrev Suite := Addr → Value → Option Addr → TS
abbrev unset (i : Nat) (D : Ends) : Ends := { nx := fun σ' H' => D.nx (σ'.set i none) H', rt := D.rt, bk := fun σ' H' => D.bk (σ'.set i none) H', ct := fun σ' H' => D.ct (σ'.set i none) H' }
def wEach (K : PySem.W.Frag) (i : Nat) (Wout : WX) (D : Ends) : List (Value × Suite) → WX
  | [] => Wout
  | (c, ts) :: r => fun cls d σ H => ∃ b, PySem.W.exmOne K cls c = some b ∧ (b = true → ∀ a, H a = none → ts a cls d (unset i D) (σ.set i (some (.ref a))) H) ∧ (b = false → wEach K i Wout D r cls d σ H)
inductive HdsAs (X : Cx) (n : Str) : List ExceptHandler → List (Value × Suite) → Prop
  | nil : HdsAs X n [] []
  | cons {x : Str} {c : Value} {ts : Suite} {b0 : Stmt} {su : List Stmt} {np pq : Pos} {hs : List ExceptHandler} {l : List (Value × Suite)} (hc : Names X x c)
      (hsu : ∀ (a : Addr) (oe : Obj) (cls : Value) (d : Option Addr) (pn : List (Addr × Obj)), Zc cls d oe → (∃ vs, oe.data = .fields vs) → PSs (X.suite a ((a, oe) :: pn)) (b0 :: su) (ts a cls d)) (r : HdsAs X n hs l) :
      HdsAs X n (.ExceptHandler (some (.Name x np)) (some n) (b0 :: su) pq :: hs) ((c, ts) :: l)
section
variable {X : Cx} {n : Str} {i : Nat} {body : List Stmt} {e0 : ExceptHandler} {es : List ExceptHandler} {l : List (Value × Suite)} {pos : Pos} {tb : WX → TS} {Wout : WX}
/-- the clauses, asked one after the other, of an error that is back on the ground -/
theorem clauses (hst : X.stack = X.env :: X.outer) (hfm : X.env.frame = some X.env.locals) (hN : X.N.Nodup) (hi : X.N[i]? = some n) (hln : X.env.kindOf n = some .local) (tk : Takes X Wout)
    {pins : List (Addr × Obj)} {σ : St} {H : Hp} {sI s3 : Shared} {a : Addr} {B : Heap} {cls : Value} {d : Option Addr} {D : Ends} (J : Inv X pins σ H sI)
    (nb : ∀ b o, sI.heap.get? b = some o → b ∉ frs X.stack → B.get? b = some o) (up : sI.heap.UpToSlots s3.heap) (fl : HandSPX.FlyingZ B (X.env :: X.outer) a (Zc cls d) s3.heap) (na : H a = none) (os : s3.os = sI.os) (ag : AllBare s3.gens) :
    ∀ {hs : List ExceptHandler} {l : List (Value × Suite)}, HdsAs X n hs l → wEach X.K i Wout D l cls d σ H → wpAny (model X.prog X.w) X.A (handleBy (.ref a) X.env hs) (SP X pins D) X.xe s3 := by
  have kOk := J.ok
  have J3 : Inv X pins σ H s3 := J.landed nb fl.1 up os ag
  obtain ⟨oe3, vs3, he3, hz3, hd3⟩ := fl.there
  have away : a ∉ frs (X.env :: X.outer) := fun hm => by
    obtain ⟨_, o2, e2, hnf⟩ := fl.2.2.1.mem hm
    rw [he3] at e2
    cases e2
    exact hnf _ hd3
  have nL : a ≠ X.env.locals := fun z => away (List.mem_filterMap.mpr ⟨X.env, List.mem_cons_self .., by rw [hfm, z]⟩)
  have nF : a ∉ X.fs := fun hm => by
    obtain ⟨e1, m1, q1⟩ := List.mem_filterMap.mp hm
    exact away (List.mem_filterMap.mpr ⟨e1, List.mem_cons_of_mem _ m1, q1⟩)
  have S3 := J3.suite he3 hd3 na nL nF
  intro hs l hk
  induction hk with
  | nil =>
    intro wo
    refine wpAny_handleBy_nil ?_
    obtain ⟨_, _, _, oe, vs, T, oT, ts2, he, hz, hd, h1, hr⟩ := id fl
    unfold PySem.passOn
    refine wpAny_bind (wpAny_field he hd h1 ?_)
    rw [if_neg (show ¬ ((Value.ref T == Value.none) = true) by simp)]
    have last : wpAny (model X.prog X.w) X.A (setFlight (.ref a) X.env.frame) (fun _ s4 => wpAny (model X.prog X.w) X.A (throw (.ref a) : Sem Flow) (SP X pins D) X.xe s4) X.xe s3 := by
      rw [hfm]
      refine HandSPX.setFlight_upZ fl fun h4 hh4 up4 => wpAny_throw (tk _ _ ?_)
      refine ⟨a, B, sI, pins, σ, H, cls, d, rfl, J, nb, up.trans up4, ?_, na, os, ag, wo⟩
      rw [hst]
      exact .inr (.inr hh4)
    first
      | exact wpAny_bind (wpAny_pure (wpAny_bind last))
      | exact wpAny_bind last
  | @cons x c ts b0 su np pq hs2 l2 hc hsu r ih =>
    intro wo
    obtain ⟨b, hb1, yes, nope⟩ := wo
    have LT : PySem.W.Looks (model X.prog X.w) s3.heap (typeOf (.ref a)) cls := fun A1 Q1 E1 s1 k q => wpAny_typeOf_ref (k _ _ he3) (by rw [hz3.1]; exact q)
    have LM := PySem.W.exm_one (M := model X.prog X.w) J3.kIn LT hb1
    refine wpAny_handleBy_cons (codeAny_handlers_test ?_) (by intro z; cases z)
    have named : ∀ {Q : Value → Shared → Prop} {E : Value → Shared → Prop}, Q c s3 → wpAny (model X.prog X.w) (X.A.mark (some (.ref a))) (eval (.Name x np) X.env) Q E s3 := fun {Q E} q => by
      obtain ⟨hg, hdb, hm | ⟨hm, hv, hnn⟩⟩ := hc
      · exact ld_glob (X := X.suite a ((a, oe3) :: (X.pn ++ pins))) S3 hg hm q hdb
      · exact ld_blt (X := X.suite a ((a, oe3) :: (X.pn ++ pins))) S3 hg hm hv q hnn hdb
    refine named (LM.here ?_)
    cases b with
    | false =>
      show wpAny _ X.A (handleBy (.ref a) X.env hs2) _ _ _
      exact ih (nope rfl)
    | true =>
      refine codeAny_handlers_suite_as ?_
      refine HandSPX.lands_againZ fl fun h4 fl4 up4 => ?_
      have J4 : Inv X pins σ H { s3 with heap := h4 } := J.landed nb fl4.1 (up.trans up4) os ag
      obtain ⟨oe4, vs4, he4, hz4, hd4⟩ := fl4.there
      have S4 := J4.suite he4 hd4 na nL nF
      refine store_ok (X := X.suite a ((a, oe4) :: (X.pn ++ pins))) (v := .ref a) S4 hN hi (.inl hln) rfl (fun s5 S5 => ?_) (.inr hln)
      refine wpAny_mono ((hsu a oe4 cls d (X.pn ++ pins) hz4 ⟨_, hd4⟩).run [] s5 _ H _ S5 (yes rfl a na)) (fun f s6 sp => ?_) (fun _ _ z => False.elim z)
      have off : ∀ {σ6 : St} {H6 : Hp} {Q : Shared → Prop}, Inv (X.suite a ((a, oe4) :: (X.pn ++ pins))) [] σ6 H6 s6 → (∀ s7, Inv X pins (σ6.set i none) H6 s7 → Q s7) →
          wpAny (model X.prog X.w) X.A (do bindName X.env n .none; unbindBehindTheSuite X.env n pq) (fun _ s7 => Q s7) X.xe s6 := fun S6 hq => gone_ok (S6.unsuite kOk) hN hi hln hq
      cases f with
      | ret u =>
        obtain ⟨v6, σ6, H6, S6, r6, q6⟩ := sp
        exact off S6 fun s7 J7 => ⟨_, _, _, J7, r6, q6⟩
      | next =>
        obtain ⟨σ6, H6, S6, q6⟩ := sp
        exact off S6 fun s7 J7 => ⟨_, _, J7, q6⟩
      | brk =>
        obtain ⟨σ6, H6, S6, q6⟩ := sp
        exact off S6 fun s7 J7 => ⟨_, _, J7, q6⟩
      | cont =>
        obtain ⟨σ6, H6, S6, q6⟩ := sp
        exact off S6 fun s7 J7 => ⟨_, _, J7, q6⟩
theorem ps_try_each (hst : X.stack = X.env :: X.outer) (hfm : X.env.frame = some X.env.locals) (hN : X.N.Nodup) (hi : X.N[i]? = some n) (hln : X.env.kindOf n = some .local) (tk : Takes X Wout)
    (hb : ∀ (W : WX) (pn : List (Addr × Obj)) (xe : Value → Shared → Prop), Takes (X.tr pn xe) W → PassesOwn (model X.prog X.w) X.A X.env xe → PSs (X.tr pn xe) body (tb W))
    (hh : HdsAs X n (e0 :: es) l) : PS X (.Try body (e0 :: es) [] [] pos) (fun D σ H => tb (wEach X.K i Wout D l) D σ H) := by
  refine ⟨fun pins0 s0 σ0 H0 D0 I0 w0 => ?_⟩
  have kOk := I0.ok
  have hF : X.A.frames = some (X.env :: X.outer) := by rw [kOk.frames, hst]
  refine wpAny_Try_except ?_
  refine wpAny_mono ((hb (wEach X.K i Wout D0 l) (X.pn ++ pins0) (fun e s1 => wpAny (model X.prog X.w) X.A (noteFrame e X.env) (fun _ s2 => wpAny (model X.prog X.w) X.A (setFlight e none) (fun _ s3 =>
    wpAny (model X.prog X.w) X.A (handleBy e X.env (e0 :: es)) (SP X pins0 D0) X.xe s3) X.xe s2) X.xe s1) (fun u s' xx => ?_) PassesOwn.looking).run [] s0 σ0 H0 D0 (I0.toTry _) w0) (fun f s1 sp => ?_) (fun _ _ z => z)
  · obtain ⟨a, B, sI, pinsA, σA, HA, cls, d, rfl, JA, nb, up, sky, na, os, ag, wo⟩ := xx
    have skyA : Sky B (X.env :: X.outer) a (Zc cls d) X.env.locals s'.heap := by rw [← hst]; exact sky
    show wpAny (model X.prog X.w) X.A (noteFrame (.ref a) X.env) _ _ _
    refine Sky.land Zc.steady hF hfm skyA fun h3 fl3 up3 => ?_
    exact clauses (s3 := { s' with heap := h3 }) hst hfm hN hi hln tk (JA.ofTry kOk) nb (up.trans up3) fl3 na os ag hh wo
  · cases f with
    | ret u =>
      obtain ⟨v, σ', H', J', r, q⟩ := sp
      exact ⟨v, σ', H', J'.ofTry kOk, r, q⟩
    | next =>
      obtain ⟨σ', H', J', q⟩ := sp
      exact wpAny_execs_nil ⟨σ', H', J'.ofTry kOk, q⟩
    | brk =>
      obtain ⟨σ', H', J', q⟩ := sp
      exact ⟨σ', H', J'.ofTry kOk, q⟩
    | cont =>
      obtain ⟨σ', H', J', q⟩ := sp
      exact ⟨σ', H', J'.ofTry kOk, q⟩
end
end L2
set_option linter.all false
namespace Bits
open BrPart
/-! ### bits, sums -/
def bit (r x : Nat) : Nat := r / 2 ^ x % 2
theorem bit_if (r x : Nat) : bit r x = if r.testBit x = true then 1 else 0 := by
  unfold bit
  rw [Nat.testBit_eq_decide_div_mod_eq]
  by_cases h : r / 2 ^ x % 2 = 1
  · rw [h]
    rfl
  · have h2 : r / 2 ^ x % 2 = 0 := by omega
    rw [h2]
    rfl
theorem bit_le (r x : Nat) : bit r x ≤ 1 := by
  unfold bit
  omega
theorem sum_cast : ∀ l : List Nat, (l.map fun (n : Nat) => (n : Int)).sum = ((l.sum : Nat) : Int)
  | [] => rfl
  | a :: l => by
    rw [List.map_cons, List.sum_cons, List.sum_cons, sum_cast l, Int.natCast_add]
theorem count_sum {α : Type} (p : α → Bool) : ∀ l : List α, (l.filter p).length = (l.map fun x => if p x = true then 1 else 0).sum
  | [] => rfl
  | a :: l => by
    rw [List.filter_cons, List.map_cons, List.sum_cons, ← count_sum p l]
    by_cases h : p a = true
    · rw [if_pos h, if_pos h, List.length_cons]
      omega
    · rw [if_neg h, if_neg h]
      omega
theorem sum_zero : ∀ l : List Nat, (∀ n ∈ l, n = 0) → l.sum = 0
  | [], _ => rfl
  | a :: l, h => by
    rw [List.sum_cons, h a (List.mem_cons_self ..), sum_zero l fun n hn => h n (List.mem_cons_of_mem _ hn)]
/-! ### turned -/
def colL (l : List Nat) (x : Nat) : List Nat := (List.range 16).map fun y => if (l.getD y 0).testBit x = true then 2 ^ y else 0
theorem turnRows_eq (l : List Nat) : turnRows l = (List.range 16).map fun y => (colL l (15 - y)).sum := rfl
theorem colL_get {l : List Nat} {x i r : Nat} (hi : i < 16) (hr : l[i]? = some r) : (colL l x)[i]? = some (bit r x * 2 ^ i) := by
  unfold colL
  rw [List.getElem?_map, List.getElem?_range hi, Option.map_some, List.getD_eq_getElem?_getD, hr, bit_if]
  show some (if r.testBit x = true then 2 ^ i else 0) = _
  by_cases h : r.testBit x = true
  · rw [if_pos h, if_pos h, Nat.one_mul]
  · rw [if_neg h, if_neg h, Nat.zero_mul]
theorem colL_len (l : List Nat) (x : Nat) : (colL l x).length = 16 := by
  unfold colL
  rw [List.length_map, List.length_range]
/-! ### fitting -/
def ones (r : Nat) : Nat := ((List.range 16).filter fun x => r.testBit x).length
def onesL (r : Nat) : List Nat := (List.range 16).map fun x => bit r x
theorem ones_eq (r : Nat) : ones r = (onesL r).sum := by
  unfold ones onesL
  rw [count_sum]
  congr 1
  refine List.map_congr_left fun x _ => ?_
  exact (bit_if r x).symm
theorem onesL_len (r : Nat) : (onesL r).length = 16 := by
  unfold onesL
  rw [List.length_map, List.length_range]
theorem onesL_get {r i : Nat} (hi : i < 16) : (onesL r)[i]? = some (bit r i) := by
  unfold onesL
  rw [List.getElem?_map, List.getElem?_range hi]
  rfl
theorem ones_le (r : Nat) : ones r ≤ 16 := by
  unfold ones
  refine Nat.le_trans (List.length_filter_le ..) ?_
  rw [List.length_range]
  exact Nat.le_refl _
def metL (s t : List Nat) (a b : Nat) : List Nat := (List.range (16 - b)).map fun y => ones ((s.getD y 0 * 2 ^ a) &&& t.getD (y + b) 0)
theorem metL_len (s t : List Nat) (a b : Nat) : (metL s t a b).length = 16 - b := by
  unfold metL
  rw [List.length_map, List.length_range]
theorem metL_get {s t : List Nat} {a b i f g : Nat} (hi : i < 16 - b) (hf : s[i]? = some f) (hg : t[i + b]? = some g) : (metL s t a b)[i]? = some (ones ((f * 2 ^ a) &&& g)) := by
  unfold metL
  rw [List.getElem?_map, List.getElem?_range hi, Option.map_some, List.getD_eq_getElem?_getD, List.getD_eq_getElem?_getD, hf, hg]
  rfl
theorem filter_none {α : Type} {p : α → Bool} : ∀ {l : List α}, (∀ x ∈ l, p x = false) → l.filter p = []
  | [], _ => rfl
  | a :: l, h => by
    rw [List.filter_cons, if_neg (by rw [h a (List.mem_cons_self ..)]; exact Bool.false_ne_true)]
    exact filter_none fun x hx => h x (List.mem_cons_of_mem _ hx)
theorem ones_met {f g a : Nat} (ha : a < 16) : ones ((f * 2 ^ a) &&& g) = ((List.range 16).filter fun x => f.testBit x && (decide (x + a < 16) && g.testBit (x + a))).length := by
  have e1 : List.range 16 = List.range a ++ (List.range (16 - a)).map (a + ·) := by
    rw [← List.range_add]
    congr 1
    omega
  have e2 : List.range 16 = List.range (16 - a) ++ (List.range a).map (16 - a + ·) := by
    rw [← List.range_add]
    congr 1
    omega
  have l1 : ones ((f * 2 ^ a) &&& g) = ((List.range (16 - a)).filter fun x => f.testBit x && g.testBit (x + a)).length := by
    unfold ones
    rw [e1, List.filter_append, List.length_append, filter_none (l := List.range a), List.filter_map, List.length_map]
    · rw [List.length_nil, Nat.zero_add]
      congr 1
      refine List.filter_congr fun x hx => ?_
      show ((f * 2 ^ a) &&& g).testBit (a + x) = _
      rw [Nat.testBit_and, Nat.testBit_mul_two_pow, Nat.add_sub_cancel_left, decide_eq_true (Nat.le_add_right a x), Bool.true_and, Nat.add_comm x a]
    · intro x hx
      have hx := List.mem_range.mp hx
      rw [Nat.testBit_and, Nat.testBit_mul_two_pow, decide_eq_false (by omega), Bool.false_and, Bool.false_and]
  rw [l1, e2, List.filter_append, List.length_append]
  have z : ((List.range a).map (16 - a + ·)).filter (fun x => f.testBit x && (decide (x + a < 16) && g.testBit (x + a))) = [] := by
    refine filter_none fun x hx => ?_
    obtain ⟨y, hy, e⟩ := List.mem_map.mp hx
    have e : 16 - a + y = x := e
    rw [decide_eq_false (by omega), Bool.false_and, Bool.and_false]
  rw [z, List.length_nil, Nat.add_zero]
  congr 1
  refine List.filter_congr fun x hx => ?_
  have hx := List.mem_range.mp hx
  rw [decide_eq_true (by omega : x + a < 16), Bool.true_and]
theorem fits_eq (s t : List Nat) (dx dy : Nat) : fits s t dx dy = (metL s t (dx % 16) (dy % 16)).sum := by
  have ha : dx % 16 < 16 := Nat.mod_lt _ (by decide)
  have hb : dy % 16 < 16 := Nat.mod_lt _ (by decide)
  unfold fits
  generalize dx % 16 = a at ha
  generalize dy % 16 = b at hb
  have e2 : List.range 16 = List.range (16 - b) ++ (List.range b).map (16 - b + ·) := by
    rw [← List.range_add]
    congr 1
    omega
  have sp : ∀ F : Nat → Nat, ((List.range 16).map F).sum = ((List.range (16 - b)).map F).sum + ((List.range b).map fun y => F (16 - b + y)).sum := fun F => by
    conv => lhs; rw [e2]
    rw [List.map_append, List.sum_append, List.map_map]
    rfl
  rw [sp]
  have z : ((List.range b).map fun y => ((List.range 16).filter fun x => (s.getD (16 - b + y) 0).testBit x && (decide (x + a < 16) && (decide (16 - b + y + b < 16) && (t.getD (16 - b + y + b) 0).testBit (x + a)))).length).sum = 0 := by
    refine sum_zero _ fun n hn => ?_
    obtain ⟨y, hy, e⟩ := List.mem_map.mp hn
    rw [← e, filter_none]
    · rfl
    · intro x _
      rw [decide_eq_false (by omega : ¬ (16 - b + y + b < 16)), Bool.false_and, Bool.and_false, Bool.and_false]
  rw [z, Nat.add_zero]
  unfold metL
  congr 1
  refine List.map_congr_left fun y hy => ?_
  have hy := List.mem_range.mp hy
  rw [ones_met ha]
  congr 1
  refine List.filter_congr fun x hx => ?_
  rw [decide_eq_true (by omega : y + b < 16), Bool.true_and]
end Bits
set_option Elab.async false
set_option linter.all false
set_option maxRecDepth 100000
set_option maxHeartbeats 4000000
namespace St
/-- the i-th statement of the program -/
def topS (i : Nat) : PySem.Stmt := PySem.Challenge.pw_studtube_s10_turn16.main.body.getD i (.Pass ⟨0, 0, 0, 0⟩)
abbrev s_Refused_init : PySem.Stmt := L2.inClass (topS 1) 0
abbrev s_NoRows_init : PySem.Stmt := L2.inClass (topS 2) 0
abbrev s_sixteen_rows : PySem.Stmt := topS 6
abbrev s_bit_at : PySem.Stmt := topS 7
abbrev s_column : PySem.Stmt := topS 8
abbrev s_rows_turned : PySem.Stmt := topS 9
abbrev s_turn16 : PySem.Stmt := topS 11
end St
namespace St
open PySem PySem.Spec PyProof.Rows L2 PySem.Jx BrPart Bits
open PySem.W (Codec)
theorem same_new {H : Hp} {p : Addr} {o : HO} (hp : H p = none) : Same H (upd H p o) := fun b u e => by
  rw [upd_ne (ne_of_none e hp)]
  exact e
theorem lk_here {k : Str} {v : V} {r : List (Str × V)} : List.lookup k ((k, v) :: r) = some v := by
  have e : (k == k) = true := beq_self_eq_true k
  simp only [List.lookup, e]
def Dn (K : PySem.W.Frag) (x qual : Str) (st : Stmt) (f : Addr) : Prop := ∃ fd, Fun K x qual st f fd
def Ok (P : Program) (w : World) (K : PySem.W.Frag) (mg : Str → Option Value) (base : Heap) (CX : CXT) (k : Nat) (f : Addr) (ps : List Str) (sp : Sp) : Prop := ∃ fd, FnOk P w K mg base CX k f fd ps sp ∧ Binds K fd ps []
theorem iteT' {c : Bool} {A B : Prop} (hc : c = true) (h : A) : if c = true then A else B := by
  rw [if_pos hc]
  exact h
theorem iteF' {c : Bool} {A B : Prop} (hc : c = false) (h : B) : if c = true then A else B := by
  rw [hc, if_neg Bool.false_ne_true]
  exact h
theorem hxT {X : Cx} {E : XK} (t : Takes X (fun cls d _ H => E cls d H)) : Passes (L2.CX X.prog X.w) X E := passes_call t fun _ _ _ _ h => h
theorem exm_self {K : PySem.W.Frag} {S : Addr} (h1 : PySem.W.subIn K (.ref S) (.type "BaseException") = some true) (h2 : PySem.W.isClsIn K S = true) (h3 : PySem.W.typeIn K (.ref S) = some (.type "type")) (h4 : PySem.W.subIn K (.ref S) (.ref S) = some true) :
    PySem.W.exmOne K (.ref S) (.ref S) = some true := by
  have e1 : (PySem.W.subIn K (.ref S) (.type "BaseException") == some true) = true := by rw [h1] <;> rfl
  have e2 : ((PySem.W.clsIn K S).isSome && PySem.W.typeIn K (.ref S) == some (.type "type")) = true := by
    have h2' : (PySem.W.clsIn K S).isSome = true := h2
    rw [h2', h3] <;> rfl
  show (if (PySem.W.subIn K (.ref S) (.type "BaseException") == some true) = true then (if ((PySem.W.clsIn K S).isSome && PySem.W.typeIn K (.ref S) == some (.type "type")) = true then PySem.W.subIn K (.ref S) (.ref S) else none) else none) = some true
  rw [if_pos e1, if_pos e2]
  exact h4
theorem exm_is {K : PySem.W.Frag} {S C : Addr} {r : Bool} (h1 : PySem.W.subIn K (.ref S) (.type "BaseException") = some true) (h2 : PySem.W.isClsIn K S = true) (h3 : PySem.W.typeIn K (.ref S) = some (.type "type")) (h4 : PySem.W.subIn K (.ref C) (.ref S) = some r) :
    PySem.W.exmOne K (.ref C) (.ref S) = some r := by
  have e1 : (PySem.W.subIn K (.ref S) (.type "BaseException") == some true) = true := by rw [h1] <;> rfl
  have e2 : ((PySem.W.clsIn K S).isSome && PySem.W.typeIn K (.ref S) == some (.type "type")) = true := by
    have h2' : (PySem.W.clsIn K S).isSome = true := h2
    rw [h2', h3] <;> rfl
  show (if (PySem.W.subIn K (.ref S) (.type "BaseException") == some true) = true then (if ((PySem.W.clsIn K S).isSome && PySem.W.typeIn K (.ref S) == some (.type "type")) = true then PySem.W.subIn K (.ref C) (.ref S) else none) else none) = some r
  rw [if_pos e1, if_pos e2]
  exact h4
def FailsN (C : Addr) (z : Int) (E : XK) : Prop := ∀ d H', H' d = some (.xd [("number", .int z)]) → E (.ref C) (some d) H'
theorem lc_enum {K : PySem.W.Frag} {a : Addr} {xs : List V} {g : TG} {tt : TT} {te : TE} {vs : List Nat} {σ : L2.St} {H1 : Hp} {D : Addr} {Qd : Hp → Prop} (Pv : Nat → Hp → Prop) (h0 : Pv 0 (upd H1 D (.lst []))) (hl : ∀ i H, i ≤ xs.length → Pv i H → SqL K H a xs)
    (hs : ∀ i x H t, xs[i]? = some x → Pv i H → H t = none → g (.ref t) (wipe σ vs) (upd H t (.tup [.int (i : Nat), x])) fun σ2 H2 => wipe σ2 vs = wipe σ vs ∧ tt σ2 H2 fun b H3 =>
      if b = true then te σ2 H3 fun y H4 => ∃ acc, H4 D = some (.lst acc) ∧ acc.length < sizeLine ∧ Pv (i + 1) (upd H4 D (.lst (acc ++ [y]))) else Pv (i + 1) H3) (hd : ∀ H, Pv xs.length H → Qd H) :
    ∃ W : Nat → Nat → Hp → Prop, (∃ m, W 0 m (upd H1 D (.lst []))) ∧ ∀ i m H, W i m H →
      ((Ite K a).stop i H ∧ Qd H) ∨ ((Ite K a).go i H ∧ ∃ Nx : Hp → Prop, (∀ H', Nx H' → ∃ m', m' < m ∧ W (i + 1) m' H') ∧ ∀ x H', (Ite K a).yld i H x H' → g x (wipe σ vs) H' fun σ2 H2 => wipe σ2 vs = wipe σ vs ∧ tt σ2 H2 fun b H3 =>
        if b = true then te σ2 H3 fun y H4 => ∃ acc, H4 D = some (.lst acc) ∧ acc.length < sizeLine ∧ Nx (upd H4 D (.lst (acc ++ [y]))) else Nx H3) := by
  refine ⟨fun i m H => m = xs.length - i ∧ i ≤ xs.length ∧ Pv i H, ⟨xs.length, by simp, Nat.zero_le _, h0⟩, ?_⟩
  rintro i m H ⟨rfl, hi, p⟩
  have q := hl i H hi p
  by_cases lt : i < xs.length
  · refine .inr ⟨⟨xs, xs[i], q, List.getElem?_eq_getElem lt⟩, Pv (i + 1), fun H' p' => ⟨xs.length - (i + 1), by omega, rfl, lt, p'⟩, fun y H' yl => ?_⟩
    obtain ⟨t, x, e, hn, eh, hx⟩ := yl
    subst e eh
    exact hs i x H t (hx xs q) p hn
  · have e : i = xs.length := by omega
    subst e
    exact .inl ⟨⟨xs, q, Nat.le_refl _⟩, hd H p⟩
theorem take_more {α : Type} : ∀ {l : List α} {i : Nat} {x : α}, l[i]? = some x → l.take (i + 1) = l.take i ++ [x]
  | [], i, x, h => by simp at h
  | a :: l, 0, x, h => by
    have e : a = x := Option.some.inj h
    subst e
    rfl
  | a :: l, i + 1, x, h => by
    have ih := take_more (l := l) (i := i) (x := x) h
    show a :: l.take (i + 1) = a :: l.take i ++ [x]
    rw [ih]
    rfl
theorem small4 {n : Nat} (h : n ≤ 4608) : n < sizeLine := Nat.lt_of_le_of_lt h (by decide)
theorem keep_upd {H H' : Hp} {D : Addr} {o : HO} (hD : H D = none) (s : Same H H') : Same H (upd H' D o) := fun d u e => by
  rw [upd_ne (ne_of_none e hD)]
  exact s d u e
/-! ### what the written part says -/
structure Ad where
  (CRf : Addr)
structure AdX where
  (six bitat CNr iNr : Addr)
structure TxtX (K : PySem.W.Frag) (mg : Str → Option Value) (a : Ad) (c : AdX) : Prop where
  g_six : mg "sixteen_rows" = some (.ref c.six)
  k_six : PySem.W.keepIn K (.ref c.six) = true
  d_six : Dn K "sixteen_rows" "sixteen_rows" s_sixteen_rows c.six
  g_bitat : mg "bit_at" = some (.ref c.bitat)
  k_bitat : PySem.W.keepIn K (.ref c.bitat) = true
  d_bitat : Dn K "bit_at" "bit_at" s_bit_at c.bitat
  g_CNr : mg "NoRows" = some (.ref c.CNr)
  e_Nr : ErrT K mg c.CNr c.iNr 0 (fun _ => [("number", .int (-1))])
  z_len : mg "len" = none
  z_max : mg "max" = none
  z_sum : mg "sum" = none
  z_range : mg "range" = none
  c_side : ∃ t, mg "SIDE" = some (.int 16 t)
  c_above : ∃ t, mg "ABOVE_ROWS" = some (.int 65536 t)
def natsV (l : List Nat) : List V := l.map fun (n : Nat) => V.int (n : Int)
theorem natsV_len (l : List Nat) : (natsV l).length = l.length := List.length_map ..
theorem natsV_get {l : List Nat} {i n : Nat} (h : l[i]? = some n) : (natsV l)[i]? = some (.int (n : Int)) := by
  unfold natsV
  rw [List.getElem?_map, h]
  rfl
theorem natsV_map (l : List Nat) : natsV l = (l.map fun (n : Nat) => (n : Int)).map V.int := by
  unfold natsV
  rw [List.map_map]
  rfl
theorem six_parts {l : List Nat} : BrPartSpec.sixteen l = true ↔ l.length = 16 ∧ ∀ n ∈ l, n < 65536 := by
  unfold BrPartSpec.sixteen
  rw [Bool.and_eq_true, beq_iff_eq, List.all_eq_true]
  constructor
  · rintro ⟨h1, h2⟩
    exact ⟨h1, fun n hn => of_decide_eq_true (h2 n hn)⟩
  · rintro ⟨h1, h2⟩
    exact ⟨h1, fun n hn => decide_eq_true (h2 n hn)⟩
theorem six_false {l : List Nat} (h : ¬ (l.length = 16 ∧ ∀ n ∈ l, n < 65536)) : BrPartSpec.sixteen l = false := by
  cases z : BrPartSpec.sixteen l with
  | false => rfl
  | true => exact absurd (six_parts.mp z) h
section
variable {P : Program} {w : World} {K : PySem.W.Frag} {mg : Str → Option Value} {base : Heap} {a : Ad} {c : AdX}
/-! ### sixteen_rows, bit_at -/
def spSix (K : PySem.W.Frag) (CNr : Addr) : Sp := fun vs H Q E => ∃ (p : Addr) (l : List Nat), vs = [.ref p] ∧ SqL K H p (natsV l) ∧ (BrPartSpec.sixteen l = true → Q (.ref p) H) ∧ (BrPartSpec.sixteen l = false → FailsN CNr (-1) E)
theorem scSix : FnScope ["numbers"] ["numbers"] (defScope s_sixteen_rows) := ⟨rfl, rfl, rfl, by decide +kernel, rfl, by decide +kernel, by decide +kernel⟩
theorem ok_six (S : TxtX K mg a c) : Ok P w K mg base (L2.CX P w) 2 c.six ["numbers"] (spSix K c.CNr) := by
  obtain ⟨fd, F⟩ := S.d_six
  obtain ⟨t1, h1⟩ := S.c_side
  obtain ⟨t2, h2⟩ := S.c_above
  refine ⟨fd, F.okX scSix (fun vs H Q E h => ?_) (fun cdv A outer s H vs Q E hr h => ⟨_,
    pss_cons (ps_if (PW.pt (pw_or (pt_cmpR op_ne (pe_callB call_len (by rfl) S.z_len (by decide +kernel) (pa_cons (pv 0) pa_nil)) (pe_glob (v := .int 16) rfl h1 ⟨_, rfl⟩) (nomark _))
        (pw_or1 (pt_cmpR op_ge (pe_callB (cr_max rfl) (by rfl) S.z_max (by decide +kernel) (pa_cons (pv 0) pa_nil)) (pe_glob (v := .int 65536) rfl h2 ⟨_, rfl⟩) (nomark _)))))
      (pss_one (ps_raise_err rfl (takes_of rfl rfl rfl rfl) (pmk_err0 S.e_Nr S.g_CNr hr))) pss_nil)
    (pss_one (ps_ret (pv 0))), ?_⟩),
    F.binds fun _ _ _ _ _ _ us hl => match us, hl with | [_], _ => rfl⟩
  · obtain ⟨p, l, rfl, _⟩ := h
    rfl
  · obtain ⟨p, l, rfl, hl, o1, o2⟩ := h
    refine ⟨_, rfl, _, _, rfl, .inl ⟨_, hl, rfl⟩, rfl, _, rfl, ?_⟩
    rw [dec_int, natsV_len]
    by_cases c0 : l.length = 16
    · refine iteF' (by rw [c0]; rfl) ?_
      have hl2 := hl
      rw [natsV_map] at hl2
      refine ⟨_, rfl, p, _, rfl, hl2, by rw [List.length_map]; omega, fun m hm hle => ⟨_, _, rfl, rfl, _, rfl, ?_⟩⟩
      obtain ⟨n, hn, en⟩ := List.mem_map.mp hm
      by_cases c1 : (65536 : Int) ≤ m
      · refine iteT' (decide_eq_true c1) ⟨rfl, by decide, fun d hd => o2 (six_false fun z => ?_) d _ upd_same⟩
        have := z.2 n hn
        omega
      · refine iteF' (decide_eq_false c1) ⟨_, rfl, o1 (six_parts.mpr ⟨c0, fun k hk => ?_⟩)⟩
        have := hle _ (List.mem_map.mpr ⟨k, hk, rfl⟩)
        omega
    · refine iteT' ?_ ⟨rfl, by decide, fun d hd => o2 (six_false fun z => c0 z.1) d _ upd_same⟩
      have : ((l.length : Int) == 16) = false := beq_eq_false_iff_ne.mpr (by omega)
      rw [this]
      rfl
def spBit : Sp := fun vs H Q _ => ∃ r x : Nat, vs = [.int (r : Nat), .int (x : Nat)] ∧ Q (.int (bit r x : Nat)) H
theorem scBit : FnScope ["row", "x"] ["row", "x"] (defScope s_bit_at) := ⟨rfl, rfl, rfl, by decide +kernel, rfl, by decide +kernel, by decide +kernel⟩
theorem ok_bit (S : TxtX K mg a c) : Ok P w K mg base CX0 1 c.bitat ["row", "x"] spBit := by
  obtain ⟨fd, F⟩ := S.d_bitat
  refine ⟨fd, F.ok scBit (fun vs H Q E h => ?_) (fun cdv A outer s H vs Q E hr h => ⟨_,
    pss_one (ps_ret (pe_op op_odd (pe_op op_shr (pv 0) (pv 1)) pe_int)), ?_⟩),
    F.binds fun _ _ _ _ _ _ us hl => match us, hl with | [_, _], _ => rfl⟩
  · obtain ⟨r, x, rfl, _⟩ := h
    rfl
  · obtain ⟨r, x, rfl, h⟩ := h
    refine ⟨_, rfl, _, rfl, _, _, rfl, rfl, Int.natCast_nonneg x, r / 2 ^ x, ?_, rfl, h⟩
    show V.int ((r : Int) / 2 ^ ((x : Int)).toNat) = _
    rw [Int.toNat_natCast, Int.natCast_ediv, Int.natCast_pow]
    rfl
end
end St
set_option Elab.async false
set_option linter.all false
set_option maxRecDepth 100000
set_option maxHeartbeats 4000000
namespace St
open PySem PySem.Spec PyProof.Rows L2 PySem.Jx BrPart Bits
open PySem.W (Codec)
structure AdY where
  (col rtd : Addr)
structure TxtY (K : PySem.W.Frag) (mg : Str → Option Value) (a : Ad) (c : AdY) : Prop where
  g_col : mg "column" = some (.ref c.col)
  k_col : PySem.W.keepIn K (.ref c.col) = true
  d_col : Dn K "column" "column" s_column c.col
  g_rtd : mg "rows_turned" = some (.ref c.rtd)
  k_rtd : PySem.W.keepIn K (.ref c.rtd) = true
  d_rtd : Dn K "rows_turned" "rows_turned" s_rows_turned c.rtd
  z_enm : mg "enumerate" = none
theorem t16_is {ns : List Int} : PyWqasbw.turn16 ns = Neutral.shown (if BrPartSpec.sixteen (Neutral.nats ns) = true then .nums (turnRows (Neutral.nats ns)) else BrPartSpec.no 1) := rfl
theorem nats_V {ns : List Int} (h : ∀ x ∈ ns, 0 ≤ x) : natsV (Neutral.nats ns) = ns.map V.int := by
  unfold natsV Neutral.nats
  rw [List.map_map]
  refine List.map_congr_left fun x hx => ?_
  have h0 := h x hx
  show V.int ((x.toNat : Nat) : Int) = V.int x
  rw [Int.toNat_of_nonneg h0]
section
variable {P : Program} {w : World} {K : PySem.W.Frag} {mg : Str → Option Value} {base : Heap} {a : Ad} {x : AdX} {c : AdY}
/-! ### column, rows_turned -/
def spCol (K : PySem.W.Frag) : Sp := fun vs H Q _ => ∃ (p : Addr) (l : List Nat) (k : Nat), vs = [.ref p, .int (k : Nat)] ∧ SqL K H p (natsV l) ∧ l.length = 16 ∧ ∀ H', Same H H' → Q (.int ((colL l k).sum : Nat)) H'
theorem scCol : FnScope ["rows", "x", "y", "row"] ["rows", "x"] (defScope s_column) := ⟨rfl, rfl, rfl, by decide +kernel, rfl, by decide +kernel, by decide +kernel⟩
theorem ok_col (S : TxtX K mg a x) (Y : TxtY K mg a c) : Ok P w K mg base CX0 2 c.col ["rows", "x"] (spCol K) := by
  obtain ⟨fd, F⟩ := Y.d_col
  obtain ⟨fdB, GB, bB⟩ := ok_bit (P := P) (w := w) (base := base) S
  refine ⟨fd, F.ok scCol (fun vs H Q E h => ?_) (fun cdv A outer s H vs Q E hr h => ⟨_,
    pss_one (ps_ret (pe_callB (cr_sum rfl) (by rfl) S.z_sum (by decide +kernel) (pa_cons (pe_lc (own := [("y", 2), ("row", 3)]) (g := gTup K 2 (gCons (gName 2) (gCons (gName 3) gNil))) (tt := tYes)
        (te := tOp (rI CPow fun i j => .int (i * 2 ^ j.toNat)) (tCall spBit [] E0 (tCons (tVar 3) (tCons (tVar 1) tNil))) (tVar 2)) rfl scCol.nd (pi_enum rfl Y.z_enm (pa_cons (pv 0) pa_nil))
      (blkOk_by (own := [("y", 2), ("row", 3)]) (N := ["rows", "x", "y", "row"]) (sc := defScope s_column) (by decide +kernel))
      (fun _ _ _ _ _ => pg_tup rfl (pgs_cons (pg_name (i := 2) scCol.nd rfl (Or.inl rfl)) (pgs_cons (pg_name (i := 3) scCol.nd rfl (Or.inl rfl)) pgs_nil))) (fun _ _ _ _ _ => pts_nil)
      (fun _ _ _ _ _ => by exact (pe_op op_shl (by exact (pe_call GB hr rfl S.g_bitat S.k_bitat bB .nil pass0 (by exact (pa_cons (pv 3) (pa_cons (pv 1) pa_nil))))) (pv 2)))) pa_nil))), ?_⟩),
    F.binds fun _ _ _ _ _ _ us hl => match us, hl with | [_, _], _ => rfl⟩
  · obtain ⟨p, l, k, rfl, _⟩ := h
    rfl
  · obtain ⟨p, l, k, rfl, hl, len, h⟩ := h
    refine ⟨_, rfl, p, _, rfl, hl, fun D hD => ?_⟩
    refine lc_enum (K := K) (a := p) (xs := natsV l) (fun i H' => Same H H' ∧ H' D = some (.lst (natsV ((colL l k).take i)))) ⟨same_new hD, upd_same⟩ (fun i H' _ q => q.1.seq hl) ?_ ?_
    · rintro i y H2 t hi ⟨s2, h2⟩ ht
      have il : i < l.length := by
        rw [← natsV_len l]
        exact (List.getElem?_eq_some_iff.mp hi).1
      have hr : l[i]? = some l[i] := List.getElem?_eq_getElem il
      have ey := (natsV_get hr).symm.trans hi
      have ey : V.int (l[i] : Nat) = y := Option.some.inj ey
      subst ey
      have hc := colL_get (x := k) (by omega : i < 16) hr
      have Dt : D ≠ t := ne_of_none h2 ht
      refine ⟨t, _, rfl, .inl (.inl upd_same), rfl, _, _, rfl, _, _, rfl, rfl, rfl, _, rfl, _, rfl, _, _, rfl, ?_⟩
      refine ⟨_, rfl, _, _, rfl, rfl, ⟨Int.natCast_nonneg i, by omega, ?_⟩, _, (by rw [upd_ne Dt]; exact h2), ?_, ?_, ?_⟩
      · have := bit_le l[i] k
        have : ((bit l[i] k : Nat) : Int).natAbs = bit l[i] k := rfl
        omega
      · rw [natsV_len, List.length_take, colL_len]
        exact small4 (by omega)
      · exact keep_upd hD (s2.trans (same_new ht))
      · rw [take_more hc]
        have e : ((bit l[i] k : Nat) : Int) * 2 ^ ((i : Int)).toNat = ((bit l[i] k * 2 ^ i : Nat) : Int) := by
          rw [Int.toNat_natCast, Int.natCast_mul, Int.natCast_pow]
          rfl
        show upd _ D (.lst (natsV ((colL l k).take i) ++ [V.int (((bit l[i] k : Nat) : Int) * 2 ^ ((i : Int)).toNat)])) D = _
        rw [e]
        unfold natsV
        rw [List.map_append]
        exact upd_same
    · rintro H2 ⟨s2, h2⟩
      have el : (colL l k).length = (natsV l).length := by rw [colL_len, natsV_len, len]
      rw [← el, List.take_length, natsV_map] at h2
      refine ⟨D, _, rfl, SqL.of h2, ?_⟩
      rw [sum_cast]
      exact h H2 s2
def spRtd (K : PySem.W.Frag) : Sp := fun vs H Q _ => ∃ (p : Addr) (l : List Nat), vs = [.ref p] ∧ SqL K H p (natsV l) ∧ l.length = 16 ∧ ∀ H' q, H' q = some (.lst (natsV (turnRows l))) → Q (.ref q) H'
theorem scRtd : FnScope ["rows", "y"] ["rows"] (defScope s_rows_turned) := ⟨rfl, rfl, rfl, by decide +kernel, rfl, by decide +kernel, by decide +kernel⟩
theorem turnRows_get {l : List Nat} {i : Nat} (hi : i < 16) : (turnRows l)[i]? = some (colL l (15 - i)).sum := by
  rw [turnRows_eq, List.getElem?_map, List.getElem?_range hi]
  rfl
theorem turnRows_len (l : List Nat) : (turnRows l).length = 16 := by
  rw [turnRows_eq, List.length_map, List.length_range]
theorem ok_rtd (S : TxtX K mg a x) (Y : TxtY K mg a c) : Ok P w K mg base CX0 3 c.rtd ["rows"] (spRtd K) := by
  obtain ⟨fd, F⟩ := Y.d_rtd
  obtain ⟨t1, h1⟩ := S.c_side
  obtain ⟨fdB, GB, bB⟩ := ok_col (P := P) (w := w) (base := base) S Y
  refine ⟨fd, F.ok scRtd (fun vs H Q E h => ?_) (fun cdv A outer s H vs Q E hr h => ⟨_,
    pss_one (ps_ret (pe_lc (own := [("y", 1)]) (g := gName 1) (tt := tYes)
        (te := tCall (spCol K) [] E0 (tCons (tVar 0) (tCons (tOp (rI0 fun i j => .int (i - j)) (tOp (rI0 fun i j => .int (i - j)) (tC (.int 16)) (tC (.int 1))) (tVar 1)) tNil))) rfl scRtd.nd
        (pi_range1 rfl S.z_range (pa_cons (pe_glob (v := .int 16) rfl h1 ⟨_, rfl⟩) pa_nil))
      (blkOk_by (own := [("y", 1)]) (N := ["rows", "y"]) (sc := defScope s_rows_turned) (by decide +kernel))
      (fun _ _ _ _ _ => pg_name (i := 1) scRtd.nd rfl (Or.inl rfl)) (fun _ _ _ _ _ => pts_nil)
      (fun _ _ _ _ _ => by exact (pe_call GB hr rfl Y.g_col Y.k_col bB .nil pass0 (by exact (pa_cons (pv 0) (pa_cons (by exact (pe_op op_sub (by exact (pe_op op_sub (pe_glob (v := .int 16) rfl h1 ⟨_, rfl⟩) pe_int)) (pv 1))) pa_nil))))))), ?_⟩),
    F.binds fun _ _ _ _ _ _ us hl => match us, hl with | [_], _ => rfl⟩
  · obtain ⟨p, l, rfl, _⟩ := h
    rfl
  · obtain ⟨p, l, rfl, hl, len, h⟩ := h
    refine ⟨((16 : Nat) : Int), rfl, by omega, by omega, fun D hD => ?_⟩
    refine lc_range (lo := 0) (n := 16) (fun i H' => Same H H' ∧ H' D = some (.lst (natsV ((turnRows l).take i)))) ⟨same_new hD, upd_same⟩ ?_ ?_
    · rintro i H2 hi ⟨s2, h2⟩
      refine ⟨rfl, _, rfl, _, _, rfl, rfl, _, rfl, _, _, rfl, rfl, p, l, 15 - i, ?_, s2.seq hl, len, fun H3 s3 => ⟨_, s3 _ _ h2, ?_, keep_upd hD (s2.trans s3), ?_⟩⟩
      · show [V.ref p, V.int (16 - 1 - (0 + (i : Int)))] = [V.ref p, V.int ((15 - i : Nat) : Int)]
        congr 3
        omega
      · rw [natsV_len, List.length_take, turnRows_len]
        exact small4 (by omega)
      · rw [take_more (turnRows_get hi)]
        unfold natsV
        rw [List.map_append]
        exact upd_same
    · rintro H2 ⟨s2, h2⟩
      have e : (turnRows l).take 16 = turnRows l := List.take_of_length_le (by rw [turnRows_len]; exact Nat.le_refl _)
      rw [e] at h2
      exact h H2 D h2
/-! ### turn16 -/
def spT16 (K : PySem.W.Frag) : Sp := fun vs H Q _ => ∃ (p : Addr) (ns : List Int), vs = [.ref p] ∧ SqL K H p (ns.map V.int) ∧ (∀ n ∈ ns, 0 ≤ n) ∧
  ∀ (H' : Hp) (q : Addr), H' q = some (.lst ((PyWqasbw.turn16 ns).map V.int)) → Q (.ref q) H'
theorem scT16 : FnScope ["l", "e"] ["l"] (defScope s_turn16) := ⟨rfl, rfl, rfl, by decide +kernel, rfl, by decide +kernel, by decide +kernel⟩
def sNum1 (K : PySem.W.Frag) : Suite := fun a0 cls d => tRet (tLst (tCons (tErrF K "number" a0 cls d (tVar 1)) tNil))
theorem ok_t16 {f CRf : Addr} {fd : FuncData} (F : Fun K "turn16" "turn16" s_turn16 f fd) (S : TxtX K mg a x) (Y : TxtY K mg a c) (gRf : mg "Refused" = some (.ref CRf)) (x1 : PySem.W.exmOne K (.ref x.CNr) (.ref CRf) = some true) :
    FnOk P w K mg base CX0 4 f fd ["l"] (spT16 K) := by
  obtain ⟨fdC, GC, bC⟩ := ok_six (P := P) (w := w) (base := base) S
  obtain ⟨fdM, GM, bM⟩ := ok_rtd (P := P) (w := w) (base := base) S Y
  refine F.ok (k := 3) scT16 (fun vs H Q E h => ?_) (fun cdv A outer s H vs Q E hr h => ⟨_,
    pss_one (ps_try_each (i := 1) (n := "e") (l := [(.ref CRf, sNum1 K)]) (tb := fun W => tRet (tCall (spRtd K) [] E0 (tCons (tCallS (spSix K x.CNr) (WE W) (tCons (tVar 0) tNil)) tNil))) (Wout := fun _ _ _ _ => False) rfl rfl scT16.nd rfl rfl takes0
      (fun W pn xe tk _ => pss_one (ps_ret (pe_call GM hr rfl Y.g_rtd Y.k_rtd bM .nil pass0 (by exact (pa_cons (pe_callS GC (hr.mono (by decide)) rfl S.g_six S.k_six bC (fun σ => passAt tk σ) (by exact (pa_cons (pv 0) pa_nil))) pa_nil)))))
      (.cons ⟨rfl, by decide, .inl gRf⟩ (fun a0 oe cls d pn hz hf => pss_one (ps_ret (pe_lst (by exact (pa_cons (pe_errF hz hf (pv 1)) pa_nil))))) .nil)), ?_⟩)
  · obtain ⟨p, ns, rfl, _⟩ := h
    rfl
  · obtain ⟨p, ns, rfl, hl, hb, h⟩ := h
    rw [← nats_V hb] at hl
    refine ⟨_, rfl, p, Neutral.nats ns, rfl, hl, fun z => ?_, fun z d H1 hd => ?_⟩
    · refine ⟨p, Neutral.nats ns, rfl, hl, (six_parts.mp z).1, fun H' q hq => h H' q ?_⟩
      rw [t16_is, if_pos z]
      rw [natsV_map] at hq
      exact hq
    · refine ⟨true, x1, fun _ a0 _ => ?_, fun q => Bool.noConfusion q⟩
      refine ⟨_, rfl, rfl, x.CNr, d, _, _, rfl, S.e_Nr.ct, S.e_Nr.ct.nN, rfl, hd, lk_here, ?_⟩
      refine ⟨(by show 1 ≤ sizeLine; decide), fun q hq => h _ q ?_⟩
      rw [t16_is, if_neg (by rw [z]; exact Bool.false_ne_true)]
      exact upd_same
end
section
theorem all_mk {P : Program} {w : World} {K : PySem.W.Frag} {h : Heap} {mg : Str → Option Value} {fa fM CRf fR six bitat CNr iNr col rtd : Addr} (X : K.In h) (G : h.Ns mainGlobals mg) (hfa : mg "turn16" = some (.ref fa))
    {od_fR an_fR : Option Addr}
    {sl_fR : Array (Option Value)}
    {oc_fR kV_fR dc_fR pm_fR cd_fR ct_fR : Value}
    {od_six an_six : Option Addr}
    {sl_six : Array (Option Value)}
    {oc_six kV_six dc_six pm_six cd_six ct_six : Value}
    {od_bitat an_bitat : Option Addr}
    {sl_bitat : Array (Option Value)}
    {oc_bitat kV_bitat dc_bitat pm_bitat cd_bitat ct_bitat : Value}
    {nmNr qNr : Str}
    {NNr : Addr}
    {bsNr : List Value}
    {snNr : List Str}
    {subNr : List Value}
    {abNr : Bool}
    {colNr : Option Bool}
    {ddNr : Option Addr}
    {m0Nr m1Nr m2Nr m3Nr m5Nr : Option Value}
    {od_iNr an_iNr : Option Addr}
    {sl_iNr : Array (Option Value)}
    {oc_iNr kV_iNr dc_iNr pm_iNr cd_iNr ct_iNr : Value}
    {t_side : Tok}
    {t_above : Tok}
    {od_col an_col : Option Addr}
    {sl_col : Array (Option Value)}
    {oc_col kV_col dc_col pm_col cd_col ct_col : Value}
    {od_rtd an_rtd : Option Addr}
    {sl_rtd : Array (Option Value)}
    {oc_rtd kV_rtd dc_rtd pm_rtd cd_rtd ct_rtd : Value}
    {od_main an_main : Option Addr}
    {sl_main : Array (Option Value)}
    {oc_main kV_main dc_main pm_main cd_main ct_main : Value}
    (g_CRf : PySem.W.nsIn K mainGlobals "Refused" = some (some (.ref CRf)))
    (rdRf : PySem.W.readsIn K CRf (.type "type") = true)
    (gaRf : PySem.W.specialIn K (.ref CRf) "__getattribute__" = some (some (.builtin "type.__getattribute__")))
    (inRf : PySem.W.findCls K (.ref CRf) (.type "type") "__init__" = some (.val (.ref fR)))
    (l_fR : K.lookup fR = some ⟨oc_fR, od_fR, .func (PySem.W.fnOf "__init__" "Refused.__init__" (defArgs s_Refused_init) (defBody s_Refused_init) (defScope s_Refused_init) .none kV_fR dc_fR pm_fR an_fR cd_fR ct_fR), sl_fR⟩)
    (c_fR : PySem.W.codeIn K cd_fR "Refused.__init__" = true)
    (k_fR : PySem.W.keepIn K (.ref fR) = true)
    (eCRf : PySem.W.subIn K (.ref CRf) (.type "BaseException") = some true)
    (tCRf : PySem.W.typeIn K (.ref CRf) = some (.type "type"))
    (iCRf : PySem.W.isClsIn K CRf = true)
    (g_six : PySem.W.nsIn K mainGlobals "sixteen_rows" = some (some (.ref six)))
    (l_six : K.lookup six = some ⟨oc_six, od_six, .func (PySem.W.fnOf "sixteen_rows" "sixteen_rows" (defArgs s_sixteen_rows) (defBody s_sixteen_rows) (defScope s_sixteen_rows) .none kV_six dc_six pm_six an_six cd_six ct_six), sl_six⟩)
    (c_six : PySem.W.codeIn K cd_six "sixteen_rows" = true)
    (k_six : PySem.W.keepIn K (.ref six) = true)
    (g_bitat : PySem.W.nsIn K mainGlobals "bit_at" = some (some (.ref bitat)))
    (l_bitat : K.lookup bitat = some ⟨oc_bitat, od_bitat, .func (PySem.W.fnOf "bit_at" "bit_at" (defArgs s_bit_at) (defBody s_bit_at) (defScope s_bit_at) .none kV_bitat dc_bitat pm_bitat an_bitat cd_bitat ct_bitat), sl_bitat⟩)
    (c_bitat : PySem.W.codeIn K cd_bitat "bit_at" = true)
    (k_bitat : PySem.W.keepIn K (.ref bitat) = true)
    (g_CNr : PySem.W.nsIn K mainGlobals "NoRows" = some (some (.ref CNr)))
    (xLNr : K.lookup CNr = some (excClassObj nmNr qNr CNr NNr bsNr [.ref CRf, .type "Exception", .type "BaseException", .type "object"] true snNr subNr abNr colNr ddNr m0Nr m1Nr m2Nr m3Nr m5Nr "Exception.__new__"))
    (saNr : PySem.W.findIn K (.ref CNr) "__setattr__" = some (some (.builtin "object.__setattr__")))
    (gaNr : PySem.W.findIn K (.ref CNr) "__getattribute__" = some (some (.builtin "BaseException.__getattribute__")))
    (ggNr : PySem.W.findIn K (.ref CNr) "__getattr__" = some none)
    (nnNr : PySem.W.findIn K (.ref CNr) "number" = some none)
    (kCNr : PySem.W.keepIn K (.ref CNr) = true)
    (eCNr : PySem.W.subIn K (.ref CNr) (.type "BaseException") = some true)
    (tCNr : PySem.W.typeIn K (.ref CNr) = some (.type "type"))
    (hCNr : PySem.W.hasDictIn K CNr = true)
    (iCNr : PySem.W.isClsIn K CNr = true)
    (sCNr : PySem.W.subIn K (.ref CNr) (.ref CNr) = some true)
    (a_iNr : PySem.W.findIn K (.ref CNr) "__init__" = some (some (.ref iNr)))
    (t_iNr : PySem.W.typeIn K (.ref iNr) = some (.type "function"))
    (l_iNr : K.lookup iNr = some ⟨oc_iNr, od_iNr, .func (PySem.W.fnOf "__init__" "NoRows.__init__" (defArgs s_NoRows_init) (defBody s_NoRows_init) (defScope s_NoRows_init) .none kV_iNr dc_iNr pm_iNr an_iNr cd_iNr ct_iNr), sl_iNr⟩)
    (c_iNr : PySem.W.codeIn K cd_iNr "NoRows.__init__" = true)
    (k_iNr : PySem.W.keepIn K (.ref iNr) = true)
    (sNrR : PySem.W.subIn K (.ref CNr) (.ref CRf) = some true)
    (z_len : PySem.W.nsIn K mainGlobals "len" = some none)
    (z_max : PySem.W.nsIn K mainGlobals "max" = some none)
    (z_sum : PySem.W.nsIn K mainGlobals "sum" = some none)
    (z_range : PySem.W.nsIn K mainGlobals "range" = some none)
    (c_side : PySem.W.nsIn K mainGlobals "SIDE" = some (some (.int 16 t_side)))
    (c_above : PySem.W.nsIn K mainGlobals "ABOVE_ROWS" = some (some (.int 65536 t_above)))
    (g_col : PySem.W.nsIn K mainGlobals "column" = some (some (.ref col)))
    (l_col : K.lookup col = some ⟨oc_col, od_col, .func (PySem.W.fnOf "column" "column" (defArgs s_column) (defBody s_column) (defScope s_column) .none kV_col dc_col pm_col an_col cd_col ct_col), sl_col⟩)
    (c_col : PySem.W.codeIn K cd_col "column" = true)
    (k_col : PySem.W.keepIn K (.ref col) = true)
    (g_rtd : PySem.W.nsIn K mainGlobals "rows_turned" = some (some (.ref rtd)))
    (l_rtd : K.lookup rtd = some ⟨oc_rtd, od_rtd, .func (PySem.W.fnOf "rows_turned" "rows_turned" (defArgs s_rows_turned) (defBody s_rows_turned) (defScope s_rows_turned) .none kV_rtd dc_rtd pm_rtd an_rtd cd_rtd ct_rtd), sl_rtd⟩)
    (c_rtd : PySem.W.codeIn K cd_rtd "rows_turned" = true)
    (k_rtd : PySem.W.keepIn K (.ref rtd) = true)
    (z_enm : PySem.W.nsIn K mainGlobals "enumerate" = some none)
    (g_main : PySem.W.nsIn K mainGlobals "turn16" = some (some (.ref fM)))
    (l_main : K.lookup fM = some ⟨oc_main, od_main, .func (PySem.W.fnOf "turn16" "turn16" (defArgs s_turn16) (defBody s_turn16) (defScope s_turn16) .none kV_main dc_main pm_main an_main cd_main ct_main), sl_main⟩)
    (c_main : PySem.W.codeIn K cd_main "turn16" = true)
    (k_main : PySem.W.keepIn K (.ref fM) = true) :
    ∃ fd : FuncData, (∀ (s : Shared) (us : List Value), us.length = (["l"] : List Str).length → BindsTo s fd ⟨us, []⟩ ((["l"] : List Str).zip us)) ∧ ∀ base : Heap, K.In base → base.Ns mainGlobals mg → FnOk P w K mg base CX0 4 fa fd ["l"] (spT16 K) := by
  have e := hfa.symm.trans (PySem.W.mg_of X G g_main)
  cases e
  let ad : Ad := ⟨CRf⟩
  have RTx : PySem.Jx.RT K mg CRf fR := ⟨PySem.W.mg_of X G g_CRf, rdRf, gaRf, inRf, k_fR, ⟨_, _, _, _, _, _, _, _, _, _, _, _, _, _, _, l_fR, c_fR⟩⟩

  have eNr : ErrT K mg CNr iNr 0 (fun _ => [("number", .int (-1))]) := err_n (n := 1) ⟨⟨nmNr, qNr, NNr, bsNr, _, snNr, subNr, abNr, colNr, ddNr, m0Nr, m1Nr, m2Nr, m3Nr, m5Nr, xLNr, rfl⟩, saNr, gaNr, ggNr, nnNr, kCNr, eCNr, tCNr, hCNr⟩ RTx a_iNr t_iNr (exm_self eCNr iCNr tCNr sCNr) ⟨_, _, _, _, _, _, _, _, _, by rfl, _, _, _, _, _, _, _, _, _, l_iNr, c_iNr⟩
  have xNrR : PySem.W.exmOne K (.ref CNr) (.ref CRf) = some true := exm_is eCRf iCRf tCRf sNrR
  let adX : AdX := ⟨six, bitat, CNr, iNr⟩
  have SX : TxtX K mg ad adX :=
    { g_six := PySem.W.mg_of X G g_six,
      k_six := k_six,
      d_six := ⟨_, fun_mk (st := s_sixteen_rows) l_six c_six k_six⟩,
      g_bitat := PySem.W.mg_of X G g_bitat,
      k_bitat := k_bitat,
      d_bitat := ⟨_, fun_mk (st := s_bit_at) l_bitat c_bitat k_bitat⟩,
      g_CNr := PySem.W.mg_of X G g_CNr,
      e_Nr := eNr,
      z_len := PySem.W.mg_none_of X G z_len,
      z_max := PySem.W.mg_none_of X G z_max,
      z_sum := PySem.W.mg_none_of X G z_sum,
      z_range := PySem.W.mg_none_of X G z_range,
      c_side := ⟨_, PySem.W.mg_of X G c_side⟩,
      c_above := ⟨_, PySem.W.mg_of X G c_above⟩ }
  let adY : AdY := ⟨col, rtd⟩
  have SY : TxtY K mg ad adY :=
    { g_col := PySem.W.mg_of X G g_col,
      k_col := k_col,
      d_col := ⟨_, fun_mk (st := s_column) l_col c_col k_col⟩,
      g_rtd := PySem.W.mg_of X G g_rtd,
      k_rtd := k_rtd,
      d_rtd := ⟨_, fun_mk (st := s_rows_turned) l_rtd c_rtd k_rtd⟩,
      z_enm := PySem.W.mg_none_of X G z_enm }
  have FM := fun_mk (st := s_turn16) l_main c_main k_main
  exact ⟨_, fun s us hu => match us, hu with | [_], _ => .of_eq rfl, fun base _ _ => ok_t16 FM SX SY (PySem.W.mg_of X G g_CRf) xNrR⟩
end
end St
open PySem PySem.W PyProof.Rows
set_option maxRecDepth 100000 in
set_option maxHeartbeats 16000000 in
theorem PySem.Challenge.cw_studtube_s10_turn16_holds : PySem.Challenge.rw_studtube_s10_turn16.Holds := by
  w_on; k_headS; (case hw => exact ⟨[.list []], by decide +kernel, by decide +kernel⟩)
  k_fillS
  refine L2.walk_specK (r := PySem.Challenge.rw_studtube_s10_turn16) (k := 4) (CX := L2.CX0) (ps := ["l"]) (sp := fun K => St.spT16 K) (by decide +kernel) rfl rfl ⟨rfl, by decide, by decide⟩ (fun w h Y => PySem.W.kIn_of Y) ?F ?S (fun _ _ _ _ z => z)
  case F =>
    intro w mg fa h Y KX G hmg
    refine' St.all_mk KX G hmg ?hg_CRf ?hrdRf ?hgaRf ?hinRf ?hl_fR ?hc_fR ?hk_fR ?heCRf ?htCRf ?hiCRf ?hg_six ?hl_six ?hc_six ?hk_six ?hg_bitat ?hl_bitat ?hc_bitat ?hk_bitat ?hg_CNr ?hxLNr ?hsaNr ?hgaNr ?hggNr ?hnnNr ?hkCNr ?heCNr ?htCNr ?hhCNr ?hiCNr ?hsCNr ?ha_iNr ?ht_iNr ?hl_iNr ?hc_iNr ?hk_iNr ?hsNrR ?hz_len ?hz_max ?hz_sum ?hz_range ?hc_side ?hc_above ?hg_col ?hl_col ?hc_col ?hk_col ?hg_rtd ?hl_rtd ?hc_rtd ?hk_rtd ?hz_enm ?hg_main ?hl_main ?hc_main ?hk_main
    (case hg_CRf => k_is)
    (case hrdRf => k_is)
    (case hgaRf => k_is)
    (case hinRf => k_is)
    (case hl_fR => k_is)
    (case hc_fR => k_is)
    (case hk_fR => k_is)
    (case heCRf => k_is)
    (case htCRf => k_is)
    (case hiCRf => k_is)
    (case hg_six => k_is)
    (case hl_six => k_is)
    (case hc_six => k_is)
    (case hk_six => k_is)
    (case hg_bitat => k_is)
    (case hl_bitat => k_is)
    (case hc_bitat => k_is)
    (case hk_bitat => k_is)
    (case hg_CNr => k_is)
    (case hxLNr => k_is)
    (case hsaNr => k_is)
    (case hgaNr => k_is)
    (case hggNr => k_is)
    (case hnnNr => k_is)
    (case hkCNr => k_is)
    (case heCNr => k_is)
    (case htCNr => k_is)
    (case hhCNr => k_is)
    (case hiCNr => k_is)
    (case hsCNr => first | rfl | k_is)
    (case ha_iNr => k_is)
    (case ht_iNr => k_is)
    (case hl_iNr => k_is)
    (case hc_iNr => k_is)
    (case hk_iNr => k_is)
    (case hsNrR => first | rfl | k_is)
    (case hz_len => k_is)
    (case hz_max => k_is)
    (case hz_sum => k_is)
    (case hz_range => k_is)
    (case hc_side => k_is)
    (case hc_above => k_is)
    (case hg_col => k_is)
    (case hl_col => k_is)
    (case hc_col => k_is)
    (case hk_col => k_is)
    (case hg_rtd => k_is)
    (case hl_rtd => k_is)
    (case hc_rtd => k_is)
    (case hk_rtd => k_is)
    (case hz_enm => k_is)
    (case hg_main => k_is)
    (case hl_main => k_is)
    (case hc_main => k_is)
    (case hk_main => k_is)
  case S =>
    intro K H xs a hO hwi hask hx
    cases hx with
    | cons h0 hx =>
      cases hx
      cases h0 with
      | lst hs0 ha0 =>
        have e0 := L2.ints_dw a.1 _ ha0
        subst e0
        have q : ((Codec.inLen 0 64 a.1 && a.1.all (Codec.inInt 0 4294967295)) && true) = true := hwi
        obtain ⟨q0, q⟩ := Bool.and_eq_true_iff.mp q
        obtain ⟨qa0, qb0⟩ := Bool.and_eq_true_iff.mp q0
        have n0 : ∀ x ∈ a.1, 0 ≤ x := fun x hx => (Codec.inInt_iff.mp (List.all_eq_true.mp qb0 x hx)).1
        exact ⟨_, a.1, rfl, hs0, n0, fun H' p hp => .lst (L2.SqL.of hp) (L2.dw_ints _)⟩
