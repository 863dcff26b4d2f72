import PyProof.Rows.All
import Wide.All
import OpenK.AllK
import Wide.FinOn
import HandS.Base
import HandS.Call
import HandS.List
import HandS.Comp
import HandS.Ends
import HandS.Dict
import HandS.Iter
import HandS.Text
import HandS.Words
import HandS.WordsList
import HandS.StrMore
import HandS.IsInst
import HandS.TupAny
import HandS.TupMul
import HandS.Style
import PySem.Challenge.RW_leatwork_k01_is_graph
set_option Elab.async false
set_option linter.all false
set_option maxRecDepth 100000
set_option maxHeartbeats 4000000
namespace Wk
open PySem PySem.Spec PyProof.Rows L2

/-! ### the weakest wish, by syntax -/
structure wE (X : Cx) (e : Expr) (σ : L2.St) (H : Hp) (Q : VK) : Prop where
  ex : ∃ t : TE, PE X e t ∧ t σ H Q
structure wT (X : Cx) (e : Expr) (σ : L2.St) (H : Hp) (Q : Bool → Hp → Prop) : Prop where
  ex : ∃ t : TT, PT X e t ∧ t σ H Q
structure wP (X : Cx) (e : Expr) (σ : L2.St) (H : Hp) (Q : Bool → Hp → Prop) : Prop where
  ex : ∃ t : TT, PW X e t ∧ t σ H Q
structure wA (X : Cx) (es : List Expr) (σ : L2.St) (H : Hp) (Q : List V → Hp → Prop) : Prop where
  ex : ∃ t : TA, PA X es t ∧ t σ H Q
structure wS (X : Cx) (st : Stmt) (D : Ends) (σ : L2.St) (H : Hp) : Prop where
  ex : ∃ t : TS, PS X st t ∧ t D σ H
structure wSs (X : Cx) (st : List Stmt) (D : Ends) (σ : L2.St) (H : Hp) : Prop where
  ex : ∃ t : TS, PSs X st t ∧ t D σ H
structure wG (X : Cx) (tg : Expr) (v : V) (σ : L2.St) (H : Hp) (Q : L2.St → Hp → Prop) : Prop where
  ex : ∃ t : TG, PG X tg t ∧ t v σ H Q
structure wGs (X : Cx) (tg : List Expr) (v : List V) (σ : L2.St) (H : Hp) (Q : L2.St → Hp → Prop) : Prop where
  ex : ∃ t : TGs, PGs X tg t ∧ t v σ H Q
structure wI (X : Cx) (tg iter : Expr) (σ : L2.St) (H : Hp) (R : It → Hp → Prop) : Prop where
  ex : ∃ t : TI, PI X tg iter t ∧ t σ H R
structure wO (X : Cx) (e : Option Expr) (σ : L2.St) (H : Hp) (Q : Option Int → Hp → Prop) : Prop where
  ex : ∃ t : TO, PO X e t ∧ t σ H Q
section
variable {X : Cx}
theorem pE {e : Expr} : PE X e (wE X e) := ⟨fun pins s σ H Q I h => by obtain ⟨t, p, q⟩ := h; exact p.run pins s σ H Q I q⟩
theorem pT {e : Expr} : PT X e (wT X e) := ⟨fun pins s σ H Q I h => by obtain ⟨t, p, q⟩ := h; exact p.run pins s σ H Q I q⟩
theorem pP {e : Expr} : PW X e (wP X e) := ⟨fun wh pins s σ H Q I h => by obtain ⟨t, p, q⟩ := h; exact p.run wh pins s σ H Q I q⟩
theorem pA {es : List Expr} : PA X es (wA X es) := ⟨fun pos pins s σ H Q I h => by obtain ⟨t, p, q⟩ := h; exact p.run pos pins s σ H Q I q⟩
theorem pS {st : Stmt} : PS X st (wS X st) := ⟨fun pins s σ H Q I h => by obtain ⟨t, p, q⟩ := h; exact p.run pins s σ H Q I q⟩
theorem pSs {st : List Stmt} : PSs X st (wSs X st) := ⟨fun pins s σ H Q I h => by obtain ⟨t, p, q⟩ := h; exact p.run pins s σ H Q I q⟩
theorem pG {tg : Expr} : PG X tg (wG X tg) := ⟨fun pins s σ H v u Q I r h => by obtain ⟨t, p, q⟩ := h; exact p.run pins s σ H v u Q I r q⟩
theorem pGs {tg : List Expr} : PGs X tg (wGs X tg) := ⟨fun pins s σ H v u Q I r h => by obtain ⟨t, p, q⟩ := h; exact p.run pins s σ H v u Q I r q⟩
theorem pI {tg iter : Expr} : PI X tg iter (wI X tg iter) := ⟨fun pins s σ H R I h => by obtain ⟨t, p, q⟩ := h; exact p.run pins s σ H R I q⟩
theorem pO {e : Option Expr} : PO X e (wO X e) := ⟨fun pins s σ H Q I h => by obtain ⟨t, p, q⟩ := h; exact p.run pins s σ H Q I q⟩

/-! ### operators by values -/
structure wB (X : Cx) (op : Operator) (x y : V) (H : Hp) (Q : VK) : Prop where
  ex : ∃ r : R2, OpR X (binaryOp op) r ∧ r x y H Q
structure wC (X : Cx) (op : CmpOp) (x y : V) (H : Hp) (Q : VK) : Prop where
  ex : ∃ r : R2, OpR X (compareOp op) r ∧ r x y H Q
structure wU (X : Cx) (op : UnaryOp) (x : V) (H : Hp) (Q : VK) : Prop where
  ex : ∃ r : V → Hp → VK → Prop, UnR X (unaryOp op) r ∧ r x H Q
structure wX (X : Cx) (x y : V) (H : Hp) (Q : VK) : Prop where
  ex : ∃ r : R2, IxR X r ∧ r x y H Q
structure wL (X : Cx) (x : V) (lo hi : Option Int) (H : Hp) (Q : VK) : Prop where
  ex : ∃ r : V → Option Int → Option Int → Hp → VK → Prop, SlR X r ∧ r x lo hi H Q
structure wF (X : Cx) (f : Value) (xs : List V) (H : Hp) (Q : VK) : Prop where
  ex : ∃ r : List V → Hp → VK → Prop, CallR X f r ∧ r xs H Q
structure wM (X : Cx) (id : String) (x : V) (xs : List V) (H : Hp) (Q : VK) : Prop where
  ex : ∃ r : V → List V → Hp → VK → Prop, MtR X id r ∧ r x xs H Q
structure wPt (X : Cx) (o i v : V) (H : Hp) (Q : Hp → Prop) : Prop where
  ex : ∃ t : TSet, PSet X t ∧ t o i v H Q
structure wIp (X : Cx) (op : Operator) (x y : V) (H : Hp) (Q : VK) : Prop where
  ex : ∃ t : TIp, PIp X op t ∧ t x y H Q
theorem pB {op : Operator} : OpR X (binaryOp op) (wB X op) := by
  intro pins s σ H x y v u Q I rx ry h; obtain ⟨r, p, q⟩ := h; exact p pins s σ H x y v u Q I rx ry q
theorem pC {op : CmpOp} : OpR X (compareOp op) (wC X op) := by
  intro pins s σ H x y v u Q I rx ry h; obtain ⟨r, p, q⟩ := h; exact p pins s σ H x y v u Q I rx ry q
theorem pU {op : UnaryOp} : UnR X (unaryOp op) (wU X op) := by
  intro pins s σ H x v Q I rx h; obtain ⟨r, p, q⟩ := h; exact p pins s σ H x v Q I rx q
theorem pX : IxR X (wX X) := by
  intro value slice pins s σ H x y v u Q I rx ry h hs; obtain ⟨r, p, q⟩ := h; exact p value slice pins s σ H x y v u Q I rx ry q hs
theorem pL : SlR X (wL X) := by
  intro pins s σ H x v vl vu lo hi sl Q I rx hs pl pu h; obtain ⟨r, p, q⟩ := h; exact p pins s σ H x v vl vu lo hi sl Q I rx hs pl pu q
theorem pF {f : Value} : CallR X f (wF X f) := by
  intro pins s σ H xs us Q I rv h; obtain ⟨r, p, q⟩ := h; exact p pins s σ H xs us Q I rv q
theorem pM {id : String} : MtR X id (wM X id) := by
  intro pins s σ H x xs v us Q I rx rv h; obtain ⟨r, p, q⟩ := h; exact p pins s σ H x xs v us Q I rx rv q
theorem pPt : PSet X (wPt X) := by
  intro pins s σ H o i v ov iv u Q I ro ri rv h; obtain ⟨t, p, q⟩ := h; exact p pins s σ H o i v ov iv u Q I ro ri rv q
theorem pIp {op : Operator} : PIp X op (wIp X op) := by
  intro pins s σ H x y v u Q I rx ry h; obtain ⟨r, p, q⟩ := h; exact p pins s σ H x y v u Q I rx ry q


section
variable {σ : L2.St} {H : Hp} {Q : VK} {QT : Bool → Hp → Prop} {QA : List V → Hp → Prop} {a b c e o i : Expr} {es rest : List Expr} {pos pos' : Pos} {D : Ends}
/-! ### expressions -/
theorem eName (i : Nat) {x : Str} {v : V} (hv : σ[i]? = some (some v)) (hN : X.N[i]? = some x) (hx : Vis X.env.scope x)
    (hd : (x == ("__debug__" : Str)) = false) (hcd : (x == ("__classdict__" : Str)) = false) (h : Q v H) : wE X (.Name x pos) σ H Q := ⟨_, pe_var (i := i) hN hx hd hcd, v, hv, h⟩
/-- a name of the def -/
structure wN (X : Cx) (x : Str) (σ : L2.St) (H : Hp) (Q : VK) : Prop where
  ex : ∃ (i : Nat) (v : V), σ[i]? = some (some v) ∧ X.N[i]? = some x ∧ Vis X.env.scope x ∧ (x == ("__debug__" : Str)) = false ∧ (x == ("__classdict__" : Str)) = false ∧ Q v H
theorem eNm {x : Str} (h : wN X x σ H Q) : wE X (.Name x pos) σ H Q := by
  obtain ⟨i, v, hv, hN, hx, hd, hcd, q⟩ := h
  exact eName i hv hN hx hd hcd q
theorem nAt (i : Nat) {x : Str} {v : V} (hN : X.N[i]? = some x) (hv : σ[i]? = some (some v)) (hx : Vis X.env.scope x) (hd : (x == ("__debug__" : Str)) = false) (hcd : (x == ("__classdict__" : Str)) = false) (h : Q v H) : wN X x σ H Q := ⟨i, v, hv, hN, hx, hd, hcd, h⟩
theorem eInt {i j} (h : Q (.int i) H) : wE X (.Constant (.int i) j pos) σ H Q := ⟨_, pe_int, h⟩
theorem eBl {i j} (h : Q (.bl i) H) : wE X (.Constant (.bool i) j pos) σ H Q := ⟨_, pe_bl, h⟩
theorem eNon {j} (h : Q .non H) : wE X (.Constant .none j pos) σ H Q := ⟨_, pe_non, h⟩
theorem eStr {i j} (h : Q (.str i) H) : wE X (.Constant (.str i) j pos) σ H Q := ⟨_, pe_str, h⟩
theorem eGlob {x : Str} {v : V} {u : Value} (hm : X.mg x = some u) (r : RelV v u) (h : Q v H) (hg : Gl X x := by rfl) (hd : (x == ("__debug__" : Str)) = false := by decide) : wE X (.Name x pos) σ H Q := ⟨_, pe_glob hg hm r hd, h⟩
theorem eGlobI {x : Str} {n : Int} (hm : ∃ t, X.mg x = some (.int n t)) (h : Q (.int n) H) (hg : Gl X x := by rfl) (hd : (x == ("__debug__" : Str)) = false := by decide) : wE X (.Name x pos) σ H Q := by
  obtain ⟨t, e⟩ := hm
  exact ⟨_, pe_glob (v := .int n) hg e ⟨t, rfl⟩ hd, h⟩
theorem eBltn {x : Str} {v : V} {u : Value} (hm : X.mg x = none) (hv : bootBuiltins x = some u) (r : RelV v u) (h : Q v H) (hg : Gl X x := by rfl) (hn : x ≠ "__name__" := by decide) (hd : (x == ("__debug__" : Str)) = false := by decide) : wE X (.Name x pos) σ H Q := ⟨_, pe_bltn hg hm hv r hn hd, h⟩
theorem eTy {x : Str} {T : String} (hm : X.mg x = none) (hv : bootBuiltins x = some (.type T)) (h : Q (.ty T) H) (hg : Gl X x := by rfl) (hn : x ≠ "__name__" := by decide) (hd : (x == ("__debug__" : Str)) = false := by decide) : wE X (.Name x pos) σ H Q := ⟨_, pe_bltn (v := .ty T) hg hm hv rfl hn hd, h⟩
theorem eBin {op : Operator} (h : wE X a σ H fun x H1 => wE X b σ H1 fun y H2 => wB X op x y H2 Q) : wE X (.BinOp a op b pos) σ H Q := ⟨_, pe_op pB pE pE, h⟩
theorem eUn {op : UnaryOp} (h : wE X a σ H fun x H1 => wU X op x H1 Q) : wE X (.UnaryOp op a pos) σ H Q := ⟨_, pe_un pU pE, h⟩
theorem eNot (h : wE X a σ H fun x H1 => ∃ c, x = .bl c ∧ Q (.bl (!c)) H1) : wE X (.UnaryOp .Not a pos) σ H Q := ⟨_, pe_not pE, h⟩
theorem eCmp {op : CmpOp} (h : wE X a σ H fun x H1 => wE X b σ H1 fun y H2 => wC X op x y H2 Q) (hm : behindInMarks op b = false := by first | exact nomark _ | rfl) : wE X (.Compare a [op] [b] pos) σ H Q := ⟨_, pe_cmpR pC pE pE hm, h⟩
theorem eChain {op op' : CmpOp} (h : wE X a σ H fun x H1 => wE X b σ H1 fun y H2 => wC X op x y H2 fun z H3 => ∃ k, z = .bl k ∧ (if k = true then wE X c σ H3 fun w' H4 => wC X op' y w' H4 Q else Q (.bl false) H3))
    (hm : lastMarks [op, op'] [b, c] = false := by with_unfolding_all rfl) : wE X (.Compare a [op, op'] [b, c] pos) σ H Q := ⟨_, pe_chain pC pC pE pE pE hm, h⟩
theorem eOne {op} (h : wE X a σ H Q) : wE X (.BoolOp op [a] pos) σ H Q := ⟨_, pe_one pE, h⟩
theorem eAnd (h : wE X a σ H fun x H1 => ∃ c, x = .bl c ∧ if c = true then wE X (.BoolOp .And (b :: rest) pos) σ H1 Q else Q (.bl false) H1) : wE X (.BoolOp .And (a :: b :: rest) pos) σ H Q := ⟨_, pe_and pE pE, h⟩
theorem eOr (h : wE X a σ H fun x H1 => ∃ c, x = .bl c ∧ if c = true then Q (.bl true) H1 else wE X (.BoolOp .Or (b :: rest) pos) σ H1 Q) : wE X (.BoolOp .Or (a :: b :: rest) pos) σ H Q := ⟨_, pe_or pE pE, h⟩
theorem eIf (h : wT X c σ H fun k H1 => if k = true then wE X a σ H1 Q else wE X b σ H1 Q) : wE X (.IfExp c a b pos) σ H Q := ⟨_, pe_ifExp pT pE pE, h⟩
theorem eTup {x1} (h : wA X es σ H fun xs H1 => xs.length ≤ sizeLine ∧ ∀ p, H1 p = none → Q (.ref p) (upd H1 p (.tup xs))) : wE X (.Tuple es x1 pos) σ H Q := ⟨_, pe_tup pA, h⟩
theorem eLst (h : wA X es σ H fun xs H1 => xs.length ≤ sizeLine ∧ ∀ p, H1 p = none → Q (.ref p) (upd H1 p (.lst xs))) : wE X (.List es pos) σ H Q := ⟨_, pe_lst pA, h⟩
theorem aNil (h : QA [] H) : wA X [] σ H QA := ⟨_, pa_nil, h⟩
theorem aCons (h : wE X e σ H fun x H1 => wA X es σ H1 fun xs H2 => QA (x :: xs) H2) (hs : starEach (e :: es) X.env = (false, eval e X.env) :: starEach es X.env := by rfl) : wA X (e :: es) σ H QA := ⟨_, pa_cons pE pA hs, h⟩
theorem eIx (h : wE X a σ H fun x H1 => wE X b σ H1 fun y H2 => wX X x y H2 Q) (hs : PlainIx b := by exact fun _ _ => rfl) : wE X (.Subscript a b pos) σ H Q := ⟨_, pe_ix pX pE pE hs, h⟩
theorem eSl {lo hi : Option Expr} {p2 : Pos} (h : wE X e σ H fun x H1 => wO X lo σ H1 fun l H2 => wO X hi σ H2 fun u H3 => wL X x l u H3 Q) : wE X (.Subscript e (.Slice lo hi none p2) pos) σ H Q := ⟨_, pe_slice pL pE pO pO, h⟩
theorem oNone {Q : Option Int → Hp → Prop} (h : Q none H) : wO X none σ H Q := ⟨_, po_none, h⟩
theorem oSome {Q : Option Int → Hp → Prop} (h : wE X e σ H fun x H1 => ∃ i, x = .int i ∧ Q (some i) H1) : wO X (some e) σ H Q := ⟨_, po_some pE, h⟩
theorem eCallB {x : Str} {p : Pos} {id : String} (hm : X.mg x = none) (hv : bootBuiltins x = some (.builtin id)) (h : wA X (e :: es) σ H fun vs H1 => wF X (.builtin id) vs H1 Q) (hg : Gl X x := by rfl) (hn : x ≠ "__name__" := by decide) (hdb : (x == ("__debug__" : Str)) = false := by decide)
    (he : starEach (e :: es) X.env = (false, eval e X.env) :: starEach es X.env := by rfl) (hpl : (backTo pos (starEach es X.env)).any (·.1) = false := by rfl) : wE X (.Call (.Name x p) (e :: es) [] pos) σ H Q := ⟨_, pe_callB pF hg hm hv pA hn hdb he hpl, h⟩
theorem eCallT {x : Str} {p : Pos} {T : String} (hm : X.mg x = none) (hv : bootBuiltins x = some (.type T)) (h : wA X (e :: es) σ H fun vs H1 => wF X (.type T) vs H1 Q) (hg : Gl X x := by rfl) (hn : x ≠ "__name__" := by decide) (hdb : (x == ("__debug__" : Str)) = false := by decide)
    (he : starEach (e :: es) X.env = (false, eval e X.env) :: starEach es X.env := by rfl) (hpl : (backTo pos (starEach es X.env)).any (·.1) = false := by rfl) : wE X (.Call (.Name x p) (e :: es) [] pos) σ H Q := ⟨_, pe_callTy pF hg hm hv pA hn hdb he hpl, h⟩
/-- a def that may be called by its name -/
structure Cl (P : Program) (w : World) (K : PySem.W.Frag) (mg : Str → Option Value) (base : Heap) (k : Nat) (x : Str) (sp : Sp) : Prop where
  ex : ∃ (f : Addr) (fd : FuncData) (ps : List Str), FnOk P w K mg base CX0 k f fd ps sp ∧ mg x = some (.ref f) ∧ PySem.W.keepIn K (.ref f) = true ∧ Binds K fd ps []
theorem eCall {x : Str} {p : Pos} {k j : Nat} {sp : Sp} (c : Cl X.prog X.w X.K X.mg X.base k x sp) (hr : Room j X.A) (hk : k ≤ j) (h : wA X (e :: es) σ H fun vs H1 => sp vs H1 Q E0) (hg : Gl X x := by rfl) (hdb : (x == ("__debug__" : Str)) = false := by decide)
    (he : starEach (e :: es) X.env = (false, eval e X.env) :: starEach es X.env := by rfl) (hpl : (backTo pos (starEach es X.env)).any (·.1) = false := by rfl) : wE X (.Call (.Name x p) (e :: es) [] pos) σ H Q := by
  obtain ⟨f, fd, ps, F, hm, kp, bd⟩ := c.ex
  refine ⟨_, pe_call F (hr.mono hk) hg hm kp bd .nil pass0 pA hdb he hpl, ?_⟩
  obtain ⟨t, pt, q⟩ := h
  refine ⟨t, pt, ?_⟩
  have hh : ∀ (f1 f2 : List V → Hp → Prop), f1 = f2 → t σ H f1 → t σ H f2 := fun f1 f2 e z => e ▸ z
  exact hh _ _ (by funext vs H1; rw [List.append_nil]) q
/-- a method of a built-in type, without and with arguments -/
theorem eM0 {T id : String} {name : Str} {apos : Pos} (pa : PlainAttrs T) (slot : Slot T name id) (hty : typeOf (.builtin id) = pure (.type "method_descriptor")) (h : wE X o σ H fun x H1 => tyV X.K T x H1 ∧ wM X id x [] H1 Q)
    (hbase : attributeBase o name X.env (eval o X.env) = eval o X.env := by rfl) (hline : (apos.endLine == pos.line) = true := by rfl) : wE X (.Call (.Attribute o name apos) [] [] pos) σ H Q := ⟨_, pe_bm0 pa slot hty pM pE hbase hline, h⟩
theorem eM {T id : String} {name : Str} {apos : Pos} (pa : PlainAttrs T) (slot : Slot T name id) (hty : typeOf (.builtin id) = pure (.type "method_descriptor")) (h : wE X o σ H fun x H1 => tyV X.K T x H1 ∧ wA X (e :: es) σ H1 fun xs H2 => wM X id x xs H2 Q)
    (hbase : attributeBase o name X.env (eval o X.env) = eval o X.env := by rfl)
    (hfew : ((backTo pos (starEach (e :: es) X.env)).all (fun x => !x.1) && (backToKw pos (keywordEach [] X.env)).all (fun x => x.1.isSome)
      && decide ((e :: es).length + ([] : List Keyword).length + (if ([] : List Keyword).isEmpty then 0 else 1) < 30)) = true := by rfl)
    (hline : (apos.endLine == pos.line) = true := by rfl) (hs : starEach (e :: es) X.env = (false, eval e X.env) :: starEach es X.env := by rfl) (hplain : (backTo pos (starEach es X.env)).any (·.1) = false := by rfl) :
    wE X (.Call (.Attribute o name apos) (e :: es) [] pos) σ H Q := ⟨_, pe_bm pa slot hty pM pE pA hbase hfew hline hs hplain, h⟩

/-! ### tests -/
theorem tCmp {op : CmpOp} (h : wE X a σ H fun x H1 => wE X b σ H1 fun y H2 => wC X op x y H2 fun z H3 => ∃ k, z = .bl k ∧ QT k H3) (hm : behindInMarks op b = false := by first | exact nomark _ | rfl) : wT X (.Compare a [op] [b] pos) σ H QT := ⟨_, pt_cmpR pC pE pE hm, h⟩
theorem tChain {op op' : CmpOp} (h : wE X a σ H fun x H1 => wE X b σ H1 fun y H2 => wC X op x y H2 fun z H3 => ∃ k, z = .bl k ∧ (if k = true then wE X c σ H3 fun w' H4 => wC X op' y w' H4 (fun z H3 => ∃ k, z = .bl k ∧ QT k H3) else ∃ k, V.bl false = .bl k ∧ QT k H3))
    (hm : lastMarks [op, op'] [b, c] = false := by with_unfolding_all rfl) : wT X (.Compare a [op, op'] [b, c] pos) σ H QT := ⟨_, pt_chain pC pC pE pE pE hm, h⟩
theorem tNot (h : wT X a σ H fun k H1 => QT (!k) H1) : wT X (.UnaryOp .Not a pos) σ H QT := ⟨_, pt_not pT, h⟩
theorem tP (h : wP X e σ H QT) : wT X e σ H QT := ⟨_, pP.pt, h⟩
theorem tPb {op} {es : List Expr} (h : wP X (.BoolOp op es pos) σ H QT) : wT X (.BoolOp op es pos) σ H QT := tP h
theorem pAnd1 (h : wT X a σ H QT) : wP X (.BoolOp .And [a] pos) σ H QT := ⟨_, pw_and1 pT, h⟩
theorem pOr1 (h : wT X a σ H QT) : wP X (.BoolOp .Or [a] pos) σ H QT := ⟨_, pw_or1 pT, h⟩
theorem pAnd (h : wT X a σ H fun k H1 => if k = true then wP X (.BoolOp .And (b :: rest) pos) σ H1 QT else QT false H1) : wP X (.BoolOp .And (a :: b :: rest) pos) σ H QT := ⟨_, pw_and pT pP, h⟩
theorem pOr (h : wT X a σ H fun k H1 => if k = true then QT true H1 else wP X (.BoolOp .Or (b :: rest) pos) σ H1 QT) : wP X (.BoolOp .Or (a :: b :: rest) pos) σ H QT := ⟨_, pw_or pT pP, h⟩
theorem tVal (h : wE X e σ H fun x H1 => ∃ k, x = .bl k ∧ QT k H1) (he : ∀ whole, isTrue e X.env whole = (do let v ← whole; standAt e.pos; holding [v] (truthy v)) := by intro _; rfl) : wT X e σ H QT := ⟨_, pt_val pE he, h⟩
theorem tTru (h : wE X e σ H fun x H1 => ∃ k, TruV X.K x H1 k ∧ QT k H1) (he : ∀ whole, isTrue e X.env whole = (do let v ← whole; standAt e.pos; holding [v] (truthy v)) := by intro _; rfl) : wT X e σ H QT := ⟨_, pt_truth pE he, h⟩

/-! ### statements -/
variable {st : Stmt} {sts : List Stmt}
theorem sNil (h : D.nx σ H) : wSs X [] D σ H := ⟨_, pss_nil, h⟩
theorem sCons (h : wS X st { D with nx := wSs X sts D } σ H) : wSs X (st :: sts) D σ H := ⟨_, pss_cons pS pSs, h⟩
theorem sSet (i : Nat) {x : Str} (hi : X.N[i]? = some x) (h : wE X e σ H fun v H1 => D.nx (σ.set i (some v)) H1) (hN : X.N.Nodup) (hx : Loc X.env.scope x) (hs : swapsWith e (some (.Name x pos')) pos.line X.env = pure false) (hf : X.fn x = true ∨ X.env.scope.names.lookup x = some .local) :
    wS X (.Assign [.Name x pos'] e pos) D σ H := ⟨_, ps_set (i := i) hN hi hx pE hs hf, h⟩
structure wSet (X : Cx) (x : Str) (e : Expr) (pos pos' : Pos) (D : Ends) (σ : L2.St) (H : Hp) : Prop where
  ex : ∃ i : Nat, X.N[i]? = some x ∧ wE X e σ H (fun v H1 => D.nx (σ.set i (some v)) H1) ∧ X.N.Nodup ∧ Loc X.env.scope x ∧ swapsWith e (some (.Name x pos')) pos.line X.env = pure false ∧ (X.fn x = true ∨ X.env.scope.names.lookup x = some .local)
theorem sStore {x : Str} (h : wSet X x e pos pos' D σ H) : wS X (.Assign [.Name x pos'] e pos) D σ H := by
  obtain ⟨i, hi, q, hN, hx, hs, hf⟩ := h
  exact sSet i hi q hN hx hs hf
theorem stAt (i : Nat) {x : Str} (hi : X.N[i]? = some x) (h : wE X e σ H fun v H1 => D.nx (σ.set i (some v)) H1) (hN : X.N.Nodup) (hx : Loc X.env.scope x) (hs : swapsWith e (some (.Name x pos')) pos.line X.env = pure false) (hf : X.fn x = true ∨ X.env.scope.names.lookup x = some .local) : wSet X x e pos pos' D σ H := ⟨i, hi, h, hN, hx, hs, hf⟩
theorem sAsg {tg : Expr} (h : wE X e σ H fun v H1 => wG X tg v σ H1 D.nx) (hs : swapsWithSole [tg] e pos.line X.env = pure false := by rfl) (hw : swappedStores [tg] e X.env = pure none := by rfl)
    (h1 : (assignEach [tg] X.env).map (·.2) = [assign tg X.env] := by rfl) : wS X (.Assign [tg] e pos) D σ H := ⟨_, ps_asg pE pG hs hw h1, h⟩
theorem sExpr (h : wE X e σ H fun _ H1 => D.nx σ H1) (hs : swapsWith e none pos.line X.env = pure false := by rfl) : wS X (.Expr e pos) D σ H := ⟨_, ps_expr pE hs, h⟩
theorem sRet (h : wE X e σ H D.rt) : wS X (.Return (some e) pos) D σ H := ⟨_, ps_ret pE, h⟩
theorem sRetN (h : D.rt .non H) : wS X (.Return none pos) D σ H := ⟨_, ps_retN, h⟩
theorem sIf {sa sb : List Stmt} (h : wT X c σ H fun k H1 => if k = true then wSs X sa D σ H1 else wSs X sb D σ H1) : wS X (.If c sa sb pos) D σ H := ⟨_, ps_if pT pSs pSs, h⟩
theorem sAug (i : Nat) {x : Str} {op : Operator} {v : V} (hi : X.N[i]? = some x) (hv : σ[i]? = some (some v)) (h : wE X e σ H fun y H1 => wIp X op v y H1 fun z H2 => D.nx (σ.set i (some z)) H2) (hN : X.N.Nodup) (hx : Loc X.env.scope x) (hf : X.fn x = true ∨ X.env.scope.names.lookup x = some .local) :
    wS X (.AugAssign (.Name x pos') op e pos) D σ H := ⟨_, ps_aug (i := i) hN hi hx pE pIp hf, v, hv, h⟩
theorem sWhile {body : List Stmt} (h : L2.tWhile (wT X c) (wSs X body) D σ H) (hp : PassesOwn (model X.prog X.w) X.A X.env X.xe := by exact PassesOwn.never) : wS X (.While c body [] pos) D σ H := ⟨_, ps_while hp pT pSs, h⟩
theorem sFor {tg iter : Expr} {body : List Stmt} (h : L2.tFor (wI X tg iter) (wG X tg) (wSs X body) D σ H) (hp : PassesOwn (model X.prog X.w) X.A X.env X.xe := by exact PassesOwn.never) (hc : X.calm = true := by rfl)
    (hs : ∀ x, foldedSetIterable iter X.env x = pure x := by intro _; rfl) : wS X (.For tg iter body [] pos) D σ H := ⟨_, ps_for hp hc pI pG pSs hs, h⟩
theorem sBreak (h : D.bk σ H) : wS X (.Break pos) D σ H := ⟨_, ps_break, h⟩
theorem sCont (h : D.ct σ H) : wS X (.Continue pos) D σ H := ⟨_, ps_continue, h⟩
theorem sPass (h : D.nx σ H) : wS X (.Pass pos) D σ H := ⟨_, ps_pass, h⟩

/-! ### targets -/
variable {v : V} {QG : L2.St → Hp → Prop}
theorem gNm (i : Nat) {x : Str} (hi : X.N[i]? = some x) (h : QG (σ.set i (some v)) H) (hN : X.N.Nodup) (hx : Loc X.env.scope x) (hf : X.fn x = true ∨ X.env.scope.names.lookup x = some .local) : wG X (.Name x pos) v σ H QG := ⟨_, pg_name (i := i) hN hi hx hf, h⟩
theorem gSub (h : wE X o σ H fun x H1 => wE X i σ H1 fun y H2 => wPt X x y v H2 fun H3 => QG σ H3) (ha : ∀ v, assign (.Subscript o i pos) X.env v = (do
      let ov ← holding [v] (eval o X.env)
      let iv ← holding [v, ov] (eval i X.env)
      standAt pos
      holding [v, ov, iv] (setItem ov iv v)
      release [v, ov, iv] []) := by intro _; rfl) : wG X (.Subscript o i pos) v σ H QG := ⟨_, pg_sub pE pE pPt ha, h⟩
theorem gTup {k : Nat} {n : Nat} (h : ∃ a xs, v = .ref a ∧ SqT X.K H a xs ∧ xs.length = n ∧ wGs X es xs σ H QG) (hc : X.calm = true := by rfl) (hn : (assignEach es X.env).length = n := by rfl) (hst : (assignEach es X.env).findIdx? (·.1) = none := by rfl) : wG X (.Tuple es k pos) v σ H QG := ⟨_, pg_tup hc pGs hn hst, h⟩
theorem gsNil (h : QG σ H) : wGs X [] [] σ H QG := ⟨_, pgs_nil, rfl, h⟩
theorem gsCons {vs : List V} (h : wG X e v σ H fun σ' H' => wGs X es vs σ' H' QG) (hs : (assignEach (e :: es) X.env).map (·.2) = assign e X.env :: (assignEach es X.env).map (·.2) := by rfl) : wGs X (e :: es) (v :: vs) σ H QG := ⟨_, pgs_cons pG pGs hs, v, vs, rfl, h⟩

/-! ### what is walked -/
variable {R : It → Hp → Prop} {tg : Expr}
theorem iLst (h : wE X e σ H fun x H1 => ∃ a, x = .ref a ∧ (∃ xs, SqL X.K H1 a xs) ∧ R (Itl X.K a) H1) : wI X tg e σ H R := ⟨_, pi_list pE, h⟩
theorem iTpl (h : wE X e σ H fun x H1 => ∃ a, x = .ref a ∧ (∃ xs, SqT X.K H1 a xs) ∧ R (Itt X.K a) H1) : wI X tg e σ H R := ⟨_, pi_tup pE, h⟩
theorem iRng1 {p : Pos} (hm : X.mg "range" = none) (h : wA X [a] σ H fun vs H1 => ∃ j : Int, vs = [.int j] ∧ -(2 ^ 62) ≤ j ∧ j < 2 ^ 62 ∧ R (Itr 0 j.toNat) H1) (hg : Gl X "range" := by rfl) (hs : starEach [a] X.env = [(false, eval a X.env)] := by rfl) :
    wI X tg (.Call (.Name "range" p) [a] [] pos) σ H R := ⟨_, pi_range1 hg hm pA hs, h⟩

/-! ### comprehensions -/
def bE (X : Cx) (scope : Scope) (e : Expr) : TE := fun σ H' Q => ∀ (s : Shared) (H : Hp) (C : Addr) (cl : List (Str × Addr)) (fp : List Addr), wE (X.blk s H scope (compEnvC scope cl C X.env) fp) e σ H' Q
def bG (X : Cx) (scope : Scope) (e : Expr) : TG := fun v σ H' Q => ∀ (s : Shared) (H : Hp) (C : Addr) (cl : List (Str × Addr)) (fp : List Addr), wG (X.blk s H scope (compEnvC scope cl C X.env) fp) e v σ H' Q
theorem pbE {scope : Scope} {e : Expr} (s : Shared) (H : Hp) (C : Addr) (cl : List (Str × Addr)) (fp : List Addr) : PE (X.blk s H scope (compEnvC scope cl C X.env) fp) e (bE X scope e) :=
  ⟨fun pins s' σ H' Q I h => pE.run pins s' σ H' Q I (h s H C cl fp)⟩
theorem pbG {scope : Scope} {e : Expr} (s : Shared) (H : Hp) (C : Addr) (cl : List (Str × Addr)) (fp : List Addr) : PG (X.blk s H scope (compEnvC scope cl C X.env) fp) e (bG X scope e) :=
  ⟨fun pins s' σ H' v u Q I r h => pG.run pins s' σ H' v u Q I r (h s H C cl fp)⟩
theorem eLc (own : List (Str × Nat)) {elt iter : Expr} {scope : Scope} (h : L2.tLc (wI X tg iter) (bG X scope tg) tYes (bE X scope elt) (own.map (·.2)) σ H Q) (hN : X.N.Nodup) (ok : BlkOk X.N X.env.scope scope own)
    (hc : X.calm = true := by rfl) (hs : ∀ x, foldedSetIterable iter X.env x = pure x := by intro _; rfl) : wE X (.ListComp elt [⟨tg, iter, [], 0⟩] scope pos) σ H Q :=
  ⟨_, pe_lc hc hN pI ok pbG (fun _ _ _ _ _ => pts_nil) pbE hs, h⟩
theorem sSetLc (i : Nat) (own : List (Str × Nat)) {y : Str} {py spos : Pos} {elt iter : Expr} {scope : Scope} (hy : X.N[i]? = some y) (h : L2.tLc (wI X tg iter) (bG X scope tg) tYes (bE X scope elt) (own.map (·.2)) σ H (fun v H1 => D.nx (σ.set i (some v)) H1)) (hN : X.N.Nodup) (ok : BlkOk X.N X.env.scope scope own)
    (hyl : X.env.scope.names.lookup y = some .local) (hsw : swapsWith (.ListComp elt [⟨tg, iter, [], 0⟩] scope pos) (some (.Name y py)) spos.line X.env = pure true)
    (hc : X.calm = true := by rfl) (hs : ∀ x, foldedSetIterable iter X.env x = pure x := by intro _; rfl) : wS X (.Assign [.Name y py] (.ListComp elt [⟨tg, iter, [], 0⟩] scope pos) spos) D σ H :=
  ⟨_, ps_setLc (i := i) hc hN hy hyl hsw pI ok pbG (fun _ _ _ _ _ => pts_nil) pbE hs, h⟩

/-! ### by values -/
variable {x y z : V} {m n : Int} {p q : Addr} {xs ys : List V} {s t : Str}
theorem bAdd (h : Q (.int (m + n)) H) : wB X .Add (.int m) (.int n) H Q := ⟨_, op_add, m, n, rfl, rfl, h⟩
theorem bSub (h : Q (.int (m - n)) H) : wB X .Sub (.int m) (.int n) H Q := ⟨_, op_sub, m, n, rfl, rfl, h⟩
theorem bMul (hc : CMul m n) (h : Q (.int (m * n)) H) : wB X .Mult (.int m) (.int n) H Q := ⟨_, op_mul, m, n, rfl, rfl, hc, h⟩
theorem bMod (hc : 0 < n) (h : Q (.int (m % n)) H) : wB X .Mod (.int m) (.int n) H Q := ⟨_, op_mod, m, n, rfl, rfl, hc, h⟩
theorem bDiv (hc : CDiv m n) (h : Q (.int (m / n)) H) : wB X .FloorDiv (.int m) (.int n) H Q := ⟨_, op_fdiv, m, n, rfl, rfl, hc, h⟩
theorem bPow (hc : CPow m n) (h : Q (.int (m ^ n.toNat)) H) : wB X .Pow (.int m) (.int n) H Q := ⟨_, op_pow, m, n, rfl, rfl, hc, h⟩
theorem bAddS (hz : s.length + t.length ≤ sizeLine) (h : Q (.str (s ++ t)) H) : wB X .Add (.str s) (.str t) H Q := ⟨_, op_add_str, s, t, rfl, rfl, hz, h⟩
theorem bAddL (hx : H p = some (.lst xs)) (hy : H q = some (.lst ys)) (hz : xs.length + ys.length ≤ sizeLine) (h : ∀ l, H l = none → Q (.ref l) (upd H l (.lst (xs ++ ys)))) : wB X .Add (.ref p) (.ref q) H Q := ⟨_, op_cat, p, q, xs, ys, rfl, rfl, hx, hy, hz, h⟩
theorem uNeg (h : Q (.int (-m)) H) : wU X .USub (.int m) H Q := ⟨_, un_neg, m, rfl, h⟩
theorem cEq (hs : scal x y = true) (h : Q (.bl (decide (x = y))) H) : wC X .Eq x y H Q := ⟨_, op_eq, hs, h⟩
theorem cNe (hs : scal x y = true) (h : Q (.bl (!decide (x = y))) H) : wC X .NotEq x y H Q := ⟨_, op_ne, hs, h⟩
theorem cEqD (hu : X.A.units + 64 < cLine) {d e : PyData} (hd : Dp X.K H x d) (he : Dp X.K H y e) (sd : SeqAt.shaped d = true) (se : SeqAt.shaped e = true) (h : Q (.bl (PyData.eqv d e)) H) : wC X .Eq x y H Q := ⟨_, op_eqD hu, d, e, hd, he, sd, se, h⟩
theorem cNeD (hu : X.A.units + 64 < cLine) {d e : PyData} (hd : Dp X.K H x d) (he : Dp X.K H y e) (sd : SeqAt.shaped d = true) (se : SeqAt.shaped e = true) (h : Q (.bl (!PyData.eqv d e)) H) : wC X .NotEq x y H Q := ⟨_, op_neD hu, d, e, hd, he, sd, se, h⟩
theorem cLt (h : Q (.bl (decide (m < n))) H) : wC X .Lt (.int m) (.int n) H Q := ⟨_, op_lt, m, n, rfl, rfl, h⟩
theorem cLe (h : Q (.bl (decide (m ≤ n))) H) : wC X .LtE (.int m) (.int n) H Q := ⟨_, op_le, m, n, rfl, rfl, h⟩
theorem cGt (h : Q (.bl (decide (n < m))) H) : wC X .Gt (.int m) (.int n) H Q := ⟨_, op_gt, m, n, rfl, rfl, h⟩
theorem cGe (h : Q (.bl (decide (n ≤ m))) H) : wC X .GtE (.int m) (.int n) H Q := ⟨_, op_ge, m, n, rfl, rfl, h⟩
theorem xL (hl : SqL X.K H p xs) (ha : atI xs n = some v) (h : Q v H) : wX X (.ref p) (.int n) H Q := ⟨_, ix_list, p, xs, n, v, rfl, rfl, hl, ha, h⟩
theorem xT (hl : SqT X.K H p xs) (ha : atI xs n = some v) (h : Q v H) : wX X (.ref p) (.int n) H Q := ⟨_, ix_tup, p, xs, n, v, rfl, rfl, hl, ha, h⟩
theorem xS {cc : Nat} (hl : s.length ≤ sizeLine) (ha : atI s.cps.toList n = some cc) (h : Q (.str ⟨#[cc]⟩) H) : wX X (.str s) (.int n) H Q := ⟨_, ix_str, s, n, cc, rfl, rfl, hl, ha, h⟩
theorem ptL {j : Nat} {QH : Hp → Prop} (hl : H p = some (.lst xs)) (hj : ixN xs.length n = some j) (h : QH (upd H p (.lst (xs.set j v)))) : wPt X (.ref p) (.int n) v H QH := ⟨_, set_list, p, xs, n, j, rfl, rfl, hl, hj, h⟩
theorem ipAdd (h : Q (.int (m + n)) H) : wIp X .Add (.int m) (.int n) H Q := ⟨_, ip_add, m, n, rfl, rfl, h⟩
theorem fLenL (hl : SqL X.K H p xs) (h : Q (.int xs.length) H) : wF X (.builtin "len") [.ref p] H Q := ⟨_, call_len_seq, p, xs, rfl, .inl hl, h⟩
theorem fLenT (hl : SqT X.K H p xs) (h : Q (.int xs.length) H) : wF X (.builtin "len") [.ref p] H Q := ⟨_, call_len_seq, p, xs, rfl, .inr hl, h⟩
theorem fLenS (hl : s.length ≤ sizeLine) (h : Q (.int s.length) H) : wF X (.builtin "len") [.str s] H Q := ⟨_, call_len_str, s, rfl, hl, h⟩
theorem fAbs (h : Q (.int (if m < 0 then -m else m)) H) : wF X (.builtin "abs") [.int m] H Q := ⟨_, call_abs, m, rfl, h⟩
theorem fInt (h : Q (.int m) H) : wF X (.type "int") [.int m] H Q := ⟨_, call_int1, .inl ⟨m, rfl, h⟩⟩
theorem fIntB {k : Bool} (h : Q (.int (if k then 1 else 0)) H) : wF X (.type "int") [.bl k] H Q := ⟨_, call_int1, .inr ⟨k, rfl, h⟩⟩
theorem fListL (hl : SqL X.K H p xs) (h : ∀ l, H l = none → Q (.ref l) (upd H l (.lst xs))) : wF X (.type "list") [.ref p] H Q := ⟨_, call_list_of, p, xs, rfl, .inl hl, h⟩
theorem fListT (hl : SqT X.K H p xs) (h : ∀ l, H l = none → Q (.ref l) (upd H l (.lst xs))) : wF X (.type "list") [.ref p] H Q := ⟨_, call_list_of, p, xs, rfl, .inr hl, h⟩
theorem fTupL (hl : SqL X.K H p xs) (h : ∀ l, H l = none → Q (.ref l) (upd H l (.tup xs))) : wF X (.type "tuple") [.ref p] H Q := ⟨_, call_tuple_of, p, xs, rfl, .inl ⟨hl, h⟩⟩
theorem fAll {bs : List Bool} (hl : SqL X.K H p (bs.map V.bl)) (h : Q (.bl (bs.all id)) H) (hc : X.calm = true := by rfl) : wF X (.builtin "all") [.ref p] H Q := ⟨_, cr_all hc, p, bs, rfl, hl, h⟩
theorem fIsi {T : String} {ty : Value} {k : Bool} (ht : TyX X.K H x ty) (hk : PySem.W.kitOne X.K ty (.type T) = some k) (h : Q (.bl k) H) : wF X (.builtin "isinstance") [x, .ty T] H Q := ⟨_, call_isi, x, .ty T, ty, .type T, k, rfl, .ty T, ht, hk, h⟩
end
end
/-- a def by its body -/
theorem cl_mk {P : Program} {w : World} {K : PySem.W.Frag} {mg : Str → Option Value} {base : Heap} {x : Str} {st : Stmt} {f : Addr} {fd : FuncData} {N ps : List Str} {k : Nat} {sp : Sp} {sc : Scope} {body : List Stmt} (F : Fun K x x st f fd) (hm : mg x = some (.ref f)) (bd : Binds K fd ps []) (S : FnScope N ps (defScope st)) (hsc : defScope st = sc) (hb : defBody st = body) (len : ∀ vs H Q E, sp vs H Q E → vs.length = ps.length)
    (hbody : ∀ (cdv : Value) (A : Around) (outer : List Env) (s : Shared) (H : Hp) (vs : List V) (Q : VK) (E : XK), Room k (A.deeper (envOfC x sc s.heap.objs.size f cdv)) → N.Nodup → sp vs H Q E →
      wSs (cxOf CX0 P w K mg base N x sc f cdv A outer s H E).nox body { nx := fun _ H' => Q .non H', rt := Q } (start N vs) H) : Cl P w K mg base (k + 1) x sp := by
  subst hsc hb
  exact ⟨f, fd, ps, F.ok S len (fun cdv A outer s H vs Q E hr h => (hbody cdv A outer s H vs Q E hr S.nd h).ex), hm, F.kp, bd⟩
end Wk

namespace Wk
open PySem PySem.Spec PyProof.Rows L2
/-! ### built-in names, once -/
section
variable {X : Cx} {σ : L2.St} {H : Hp} {Q : VK} {e : Expr} {es : List Expr} {pos p : Pos}
theorem kLen (hm : X.mg "len" = none) (h : wA X (e :: es) σ H fun vs H1 => wF X (.builtin "len") vs H1 Q) (hg : Gl X "len" := by rfl) (he : starEach (e :: es) X.env = (false, eval e X.env) :: starEach es X.env := by rfl) (hpl : (backTo pos (starEach es X.env)).any (·.1) = false := by rfl) : wE X (.Call (.Name "len" p) (e :: es) [] pos) σ H Q := eCallB hm PySem.boot_len h hg (by decide) (by decide) he hpl
theorem boot_abs' : bootBuiltins "abs" = some (.builtin "abs") := by decide +kernel
theorem boot_int' : bootBuiltins "int" = some (.type "int") := by decide +kernel
theorem boot_list' : bootBuiltins "list" = some (.type "list") := by decide +kernel
theorem boot_tuple' : bootBuiltins "tuple" = some (.type "tuple") := by decide +kernel
theorem boot_str' : bootBuiltins "str" = some (.type "str") := by decide +kernel
theorem boot_bool' : bootBuiltins "bool" = some (.type "bool") := by decide +kernel
theorem boot_all' : bootBuiltins "all" = some (.builtin "all") := by decide +kernel
theorem boot_isi' : bootBuiltins "isinstance" = some (.builtin "isinstance") := by decide +kernel
theorem kAbs (hm : X.mg "abs" = none) (h : wA X (e :: es) σ H fun vs H1 => wF X (.builtin "abs") vs H1 Q) (hg : Gl X "abs" := by rfl) (he : starEach (e :: es) X.env = (false, eval e X.env) :: starEach es X.env := by rfl) (hpl : (backTo pos (starEach es X.env)).any (·.1) = false := by rfl) : wE X (.Call (.Name "abs" p) (e :: es) [] pos) σ H Q := eCallB hm boot_abs' h hg (by decide) (by decide) he hpl
theorem kAll (hm : X.mg "all" = none) (h : wA X (e :: es) σ H fun vs H1 => wF X (.builtin "all") vs H1 Q) (hg : Gl X "all" := by rfl) (he : starEach (e :: es) X.env = (false, eval e X.env) :: starEach es X.env := by rfl) (hpl : (backTo pos (starEach es X.env)).any (·.1) = false := by rfl) : wE X (.Call (.Name "all" p) (e :: es) [] pos) σ H Q := eCallB hm boot_all' h hg (by decide) (by decide) he hpl
theorem kIsi (hm : X.mg "isinstance" = none) (h : wA X (e :: es) σ H fun vs H1 => wF X (.builtin "isinstance") vs H1 Q) (hg : Gl X "isinstance" := by rfl) (he : starEach (e :: es) X.env = (false, eval e X.env) :: starEach es X.env := by rfl) (hpl : (backTo pos (starEach es X.env)).any (·.1) = false := by rfl) : wE X (.Call (.Name "isinstance" p) (e :: es) [] pos) σ H Q := eCallB hm boot_isi' h hg (by decide) (by decide) he hpl
theorem kInt (hm : X.mg "int" = none) (h : wA X (e :: es) σ H fun vs H1 => wF X (.type "int") vs H1 Q) (hg : Gl X "int" := by rfl) (he : starEach (e :: es) X.env = (false, eval e X.env) :: starEach es X.env := by rfl) (hpl : (backTo pos (starEach es X.env)).any (·.1) = false := by rfl) : wE X (.Call (.Name "int" p) (e :: es) [] pos) σ H Q := eCallT hm boot_int' h hg (by decide) (by decide) he hpl
theorem kList (hm : X.mg "list" = none) (h : wA X (e :: es) σ H fun vs H1 => wF X (.type "list") vs H1 Q) (hg : Gl X "list" := by rfl) (he : starEach (e :: es) X.env = (false, eval e X.env) :: starEach es X.env := by rfl) (hpl : (backTo pos (starEach es X.env)).any (·.1) = false := by rfl) : wE X (.Call (.Name "list" p) (e :: es) [] pos) σ H Q := eCallT hm boot_list' h hg (by decide) (by decide) he hpl
theorem kTuple (hm : X.mg "tuple" = none) (h : wA X (e :: es) σ H fun vs H1 => wF X (.type "tuple") vs H1 Q) (hg : Gl X "tuple" := by rfl) (he : starEach (e :: es) X.env = (false, eval e X.env) :: starEach es X.env := by rfl) (hpl : (backTo pos (starEach es X.env)).any (·.1) = false := by rfl) : wE X (.Call (.Name "tuple" p) (e :: es) [] pos) σ H Q := eCallT hm boot_tuple' h hg (by decide) (by decide) he hpl
theorem tyInt (hm : X.mg "int" = none) (h : Q (.ty "int") H) (hg : Gl X "int" := by rfl) : wE X (.Name "int" pos) σ H Q := eTy hm boot_int' h hg (by decide) (by decide)
theorem tyBool (hm : X.mg "bool" = none) (h : Q (.ty "bool") H) (hg : Gl X "bool" := by rfl) : wE X (.Name "bool" pos) σ H Q := eTy hm boot_bool' h hg (by decide) (by decide)
theorem tyStr (hm : X.mg "str" = none) (h : Q (.ty "str") H) (hg : Gl X "str" := by rfl) : wE X (.Name "str" pos) σ H Q := eTy hm boot_str' h hg (by decide) (by decide)
theorem tyTuple (hm : X.mg "tuple" = none) (h : Q (.ty "tuple") H) (hg : Gl X "tuple" := by rfl) : wE X (.Name "tuple" pos) σ H Q := eTy hm boot_tuple' h hg (by decide) (by decide)
theorem tyList (hm : X.mg "list" = none) (h : Q (.ty "list") H) (hg : Gl X "list" := by rfl) : wE X (.Name "list" pos) σ H Q := eTy hm boot_list' h hg (by decide) (by decide)
end
/-! ### weaker wishes, cuts -/
theorem sp_mono {X : Cx} {pins : List (Addr × Obj)} {D1 D2 : Ends} {f : Flow} {s : Shared} (hn : ∀ σ H, D1.nx σ H → D2.nx σ H) (hr : ∀ v H, D1.rt v H → D2.rt v H) (hb : ∀ σ H, D1.bk σ H → D2.bk σ H) (hc : ∀ σ H, D1.ct σ H → D2.ct σ H) (h : SP X pins D1 f s) : SP X pins D2 f s := by
  cases f with
  | next => obtain ⟨σ', H', I, q⟩ := h; exact ⟨σ', H', I, hn _ _ q⟩
  | brk => obtain ⟨σ', H', I, q⟩ := h; exact ⟨σ', H', I, hb _ _ q⟩
  | cont => obtain ⟨σ', H', I, q⟩ := h; exact ⟨σ', H', I, hc _ _ q⟩
  | ret u => obtain ⟨v, σ', H', I, r, q⟩ := h; exact ⟨v, σ', H', I, r, hr _ _ q⟩
theorem wS_mono {X : Cx} {st : Stmt} {D1 D2 : Ends} {σ : L2.St} {H : Hp} (h : wS X st D1 σ H) (hn : ∀ σ H, D1.nx σ H → D2.nx σ H) (hr : ∀ v H, D1.rt v H → D2.rt v H) (hb : ∀ σ H, D1.bk σ H → D2.bk σ H) (hc : ∀ σ H, D1.ct σ H → D2.ct σ H) : wS X st D2 σ H := by
  refine ⟨fun D σ H => wS X st D1 σ H ∧ (∀ σ H, D1.nx σ H → D.nx σ H) ∧ (∀ v H, D1.rt v H → D.rt v H) ∧ (∀ σ H, D1.bk σ H → D.bk σ H) ∧ (∀ σ H, D1.ct σ H → D.ct σ H), ⟨fun pins s σ H D I q => ?_⟩, h, hn, hr, hb, hc⟩
  obtain ⟨h1, hn, hr, hb, hc⟩ := q
  exact thn (pS.run pins s σ H D1 I h1) fun f s' z => sp_mono hn hr hb hc z
theorem wE_mono {X : Cx} {e : Expr} {Q1 Q2 : VK} {σ : L2.St} {H : Hp} (h : wE X e σ H Q1) (hq : ∀ v H, Q1 v H → Q2 v H) : wE X e σ H Q2 := by
  refine ⟨fun σ H Q => wE X e σ H Q1 ∧ ∀ v H, Q1 v H → Q v H, ⟨fun pins s σ H Q I q => ?_⟩, h, hq⟩
  obtain ⟨h1, hq⟩ := q
  exact thn (pE.run pins s σ H Q1 I h1) fun u s' ⟨v, H', I', r, z⟩ => ⟨v, H', I', r, hq v H' z⟩
theorem wT_mono {X : Cx} {e : Expr} {Q1 Q2 : Bool → Hp → Prop} {σ : L2.St} {H : Hp} (h : wT X e σ H Q1) (hq : ∀ v H, Q1 v H → Q2 v H) : wT X e σ H Q2 := by
  refine ⟨fun σ H Q => wT X e σ H Q1 ∧ ∀ v H, Q1 v H → Q v H, ⟨fun pins s σ H Q I q => ?_⟩, h, hq⟩
  obtain ⟨h1, hq⟩ := q
  exact thn (pT.run pins s σ H Q1 I h1) fun u s' ⟨H', I', z⟩ => ⟨H', I', hq u H' z⟩
/-- a statement by what holds behind it -/
theorem sCut {X : Cx} {st : Stmt} {sts : List Stmt} {D : Ends} {σ : L2.St} {H : Hp} (W : L2.St → Hp → Prop) (h1 : wS X st { D with nx := W } σ H) (h2 : ∀ σ' H', W σ' H' → wSs X sts D σ' H') : wSs X (st :: sts) D σ H :=
  sCons (wS_mono h1 h2 (fun _ _ z => z) (fun _ _ z => z) fun _ _ z => z)
/-! ### heaps, apart from some addresses -/
def cut (as : List Addr) (H : Hp) : Hp := fun b => if b ∈ as then none else H b
theorem cut_same (as : List Addr) (H : Hp) : Same (cut as H) H := fun b o h => by
  unfold cut at h
  split at h
  · cases h
  · exact h
theorem cut_mono {as bs : List Addr} {H H' : Hp} (hs : ∀ b ∈ as, b ∈ bs) (h : Same (cut as H) H') : Same (cut bs H) (cut as H) := fun b o e => by
  unfold cut at e ⊢
  split at e
  · cases e
  · rename_i hn
    rw [if_neg fun z => hn (hs b z)]
    exact e
theorem Same.cut {as : List Addr} {H H' : Hp} (h : Same H H') : Same (Wk.cut as H) (Wk.cut as H') := fun b o e => by
  unfold Wk.cut at e ⊢
  split at e
  · cases e
  · rename_i hn
    rw [if_neg hn]
    exact h b o e
theorem same_new {H : Hp} {p : Addr} {o : HO} (h : H p = none) : Same H (upd H p o) := fun b x e => by
  rw [upd_ne (ne_of_none e h)]
  exact e
theorem cut_upd {as : List Addr} {H : Hp} {p : Addr} {o : HO} (h : p ∈ as) : cut as (upd H p o) = cut as H := by
  funext b
  unfold cut
  split
  · rfl
  · rename_i hn
    rw [upd_ne fun z => hn (by rw [z]; exact h)]
theorem cut_get {as : List Addr} {H : Hp} {p : Addr} {o : HO} (hn : p ∉ as) (h : H p = some o) : cut as H p = some o := by
  unfold cut
  rw [if_neg hn]
  exact h
/-! ### the stream -/
structure Strm (K : PySem.W.Frag) (H : Hp) (sa la : Addr) (ns : List Int) : Prop where
  ex : ∃ (a : Int) (b : Nat) (c : Int), H sa = some (.lst [.ref la, .int a, .int (b : Int), .int c]) ∧ SqL K (cut [sa] H) la (ns.map V.int) ∧ 0 ≤ a ∧ 0 ≤ c ∧ c < 2147483647 ∧ ns.length ≤ 100
/-- from H to H' nothing but the stream has changed -/
def Ext (sa : Addr) (H H' : Hp) : Prop := Same (cut [sa] H) (cut [sa] H')
theorem Ext.refl (sa : Addr) (H : Hp) : Ext sa H H := Same.refl _
theorem Ext.trans {sa : Addr} {H H1 H2 : Hp} (a : Ext sa H H1) (b : Ext sa H1 H2) : Ext sa H H2 := Same.trans a b
theorem Ext.of {sa : Addr} {H H' : Hp} (h : Same H H') : Ext sa H H' := Same.cut h
theorem Ext.get {sa p : Addr} {H H' : Hp} {o : HO} (x : Ext sa H H') (hp : p ≠ sa) (h : H p = some o) : H' p = some o := by
  have e := x p o (cut_get (by simpa using hp) h)
  exact cut_same _ _ _ _ e
theorem Ext.new {sa p : Addr} {H H' : Hp} {o : HO} (x : Ext sa H H') (h : H p = none) : Ext sa H (upd H' p o) := fun b u e => by
  have e1 := x b u e
  have hb : b ≠ p := fun z => by
    have e2 := cut_same _ _ _ _ e
    rw [z, h] at e2
    cases e2
  unfold cut at e1 ⊢
  split at e1
  · cases e1
  · rename_i hn
    rw [if_neg hn, upd_ne hb]
    exact e1
theorem Strm.same {K : PySem.W.Frag} {H H' : Hp} {sa la : Addr} {ns : List Int} (S : Strm K H sa la ns) (h : Same H H') : Strm K H' sa la ns := by
  obtain ⟨a, b, c, e1, e2, r⟩ := S.ex
  exact ⟨a, b, c, h _ _ e1, Same.seq (Same.cut h) e2, r⟩
theorem Strm.ne {K : PySem.W.Frag} {H : Hp} {sa la p : Addr} {ns : List Int} (S : Strm K H sa la ns) (h : H p = none) : p ≠ sa := fun z => by
  obtain ⟨a, b, c, e1, _⟩ := S.ex
  rw [z, e1] at h
  cases h
/-- the stream stands as in H3, all else of H1 is kept -/
theorem Strm.of {K : PySem.W.Frag} {H1 H3 H' : Hp} {sa la : Addr} {ns : List Int} (S1 : Strm K H1 sa la ns) (x : Ext sa H1 H') (S3 : Strm K H3 sa la ns) (e : H' sa = H3 sa) : Strm K H' sa la ns := by
  obtain ⟨_, _, _, _, e2, _⟩ := S1.ex
  obtain ⟨a, b, c, e1, _, r⟩ := S3.ex
  exact ⟨a, b, c, e.trans e1, Same.seq x e2, r⟩
theorem seq_mono {K : PySem.W.Frag} {H H' : Hp} {p : Addr} {xs : List V} (h : Same H H') (s : SqL K H p xs) : SqL K H' p xs := Same.seq h s
theorem seqT_mono {K : PySem.W.Frag} {H H' : Hp} {p : Addr} {xs : List V} (e : Same H H') (h : SqT K H p xs) : SqT K H' p xs := by
  rcases h with (h | ⟨o, h⟩) | h
  · exact .inl (.inl (e _ _ h))
  · exact .inl (.inr ⟨o, e _ _ h⟩)
  · exact .inr h
mutual
theorem dp_mono {K : PySem.W.Frag} {H H' : Hp} (s : Same H H') : ∀ {d : PyData} {v : V}, Dp K H v d → Dp K H' v d
  | _, _, .non => .non
  | _, _, .bl b => .bl b
  | _, _, .int b => .int b
  | _, _, .str b => .str b
  | _, _, .lst h r => .lst (seq_mono s h) (dpAll_mono s r)
  | _, _, .tup h r => .tup (seqT_mono s h) (dpAll_mono s r)
theorem dpAll_mono {K : PySem.W.Frag} {H H' : Hp} (s : Same H H') : ∀ {d : List PyData} {v : List V}, DpAll K H v d → DpAll K H' v d
  | _, _, .nil => .nil
  | _, _, .cons h r => .cons (dp_mono s h) (dpAll_mono s r)
end
/-! ### loops -/
section
variable {X : Cx} {σ : L2.St} {H : Hp} {D : Ends} {iter tg a : Expr} {body : List Stmt} {pos p pos' : Pos}
theorem sForL (h : wE X iter σ H fun v H1 => ∃ (a : Addr) (xs : List V), v = .ref a ∧ SqL X.K H1 a xs ∧ ∃ Pv : Nat → L2.St → Hp → Prop, Pv 0 σ H1 ∧ (∀ (i : Nat) σ' H', i ≤ xs.length → Pv i σ' H' → SqL X.K H' a xs) ∧
      (∀ (i : Nat) (x : V) σ' H', xs[i]? = some x → Pv i σ' H' → wG X tg x σ' H' fun σ2 H2 => wSs X body { D with nx := Pv (i + 1), ct := Pv (i + 1), bk := D.nx } σ2 H2) ∧ ∀ σ' H', Pv xs.length σ' H' → D.nx σ' H')
    (hp : PassesOwn (model X.prog X.w) X.A X.env X.xe := by exact PassesOwn.never) (hc : X.calm = true := by rfl) (hs : ∀ x, foldedSetIterable iter X.env x = pure x := by intro _; rfl) : wS X (.For tg iter body [] pos) D σ H := by
  refine sFor (iLst (wE_mono h ?_)) hp hc hs
  rintro v H1 ⟨a, xs, rfl, hq, Pv, p0, pl, ps, pd⟩
  exact ⟨a, rfl, ⟨xs, hq⟩, for_list Pv p0 pl ps pd⟩
theorem sForR (hm : X.mg "range" = none) (h : wA X [a] σ H fun vs H1 => ∃ n : Int, vs = [.int n] ∧ 0 ≤ n ∧ n ≤ 100000 ∧ ∃ Pv : Nat → L2.St → Hp → Prop, Pv 0 σ H1 ∧
      (∀ (i : Nat) σ' H', (i : Int) < n → Pv i σ' H' → wG X tg (.int (i : Int)) σ' H' fun σ2 H2 => wSs X body { D with nx := Pv (i + 1), ct := Pv (i + 1), bk := D.nx } σ2 H2) ∧ ∀ σ' H', Pv n.toNat σ' H' → D.nx σ' H')
    (hp : PassesOwn (model X.prog X.w) X.A X.env X.xe := by exact PassesOwn.never) (hc : X.calm = true := by rfl) (hg : Gl X "range" := by rfl) (hst : starEach [a] X.env = [(false, eval a X.env)] := by rfl)
    (hs : ∀ x, foldedSetIterable (.Call (.Name "range" p) [a] [] pos') X.env x = pure x := by intro _; rfl) : wS X (.For tg (.Call (.Name "range" p) [a] [] pos') body [] pos) D σ H := by
  refine sFor (iRng1 hm ?_ hg hst) hp hc hs
  obtain ⟨t, pt, q⟩ := h
  refine ⟨fun σ H Q' => ∃ Q0, t σ H Q0 ∧ ∀ vs H, Q0 vs H → Q' vs H, ⟨fun pos pins s σ H Q' I q' => ?_⟩, _, q, ?_⟩
  · obtain ⟨Q0, q0, m⟩ := q'
    exact thn (pt.run pos pins s σ H Q0 I q0) fun us s' ⟨vs, H', I', r, z⟩ => ⟨vs, H', I', r, m vs H' z⟩
  · rintro vs H1 ⟨n, rfl, n0, n1, Pv, p0, ps, pd⟩
    refine ⟨n, rfl, by omega, by omega, for_range (lo := 0) (n := n.toNat) Pv p0 (fun i σ' H' hi q => ?_) pd⟩
    have e0 : (0 : Int) + (i : Int) = (i : Int) := by omega
    rw [e0]
    exact ps i σ' H' (by omega) q
end
/-! ### comprehensions with a plain name -/
section
variable {X : Cx} {σ : L2.St} {H : Hp} {Q : VK} {scope : Scope} {elt iter : Expr} {pos pos' p : Pos} {x : Str} {a : Expr}
theorem bgName (j : Nat) {v : V} {QG : L2.St → Hp → Prop} (hi : X.N[j]? = some x) (hN : X.N.Nodup) (hx : ∀ (cl : List (Str × Addr)) (C : Addr), (compEnvC scope cl C X.env).scope.names.lookup x = some .local) (h : QG (σ.set j (some v)) H) : bG X scope (.Name x pos) v σ H QG := fun s H0 C cl fp => gNm j hi h hN (.inl (hx cl C)) (.inr (hx cl C))
theorem wipe1 (σ : L2.St) (j : Nat) (u : V) : wipe ((wipe σ [j]).set j (some u)) [j] = wipe σ [j] := by
  show (((σ.set j none).set j (some u)).set j none) = σ.set j none
  rw [List.set_set, List.set_set]
theorem lt_line {n : Nat} (h : n < 100000) : n < sizeLine := Nat.lt_of_lt_of_le h (by rw [PySem.sizeLine_eq]; decide)
theorem le_line {n : Nat} (h : n ≤ 100000) : n ≤ sizeLine := Nat.le_trans h (by rw [PySem.sizeLine_eq]; decide)
/-- what a turn of a pure comprehension asks -/
theorem pure_turn {te : TE} {D : Addr} {H H2 : Hp} {gs : List V} {i : Nat} {y : V} {σ2 : L2.St} (hD : H D = none) (hz : gs.length ≤ 1000) (hy : gs[i]? = some y) (s : Same H H2) (hd : H2 D = some (.lst (gs.take i)))
    (h : ∀ Q : VK, (∀ H3, Same H2 H3 → Q y H3) → te σ2 H2 Q) :
    te σ2 H2 fun z H3 => ∃ acc, H3 D = some (.lst acc) ∧ acc.length < sizeLine ∧ (Same H (upd H3 D (.lst (acc ++ [z]))) ∧ upd H3 D (.lst (acc ++ [z])) D = some (.lst (gs.take (i + 1)))) := by
  refine h _ fun H3 s3 => ⟨gs.take i, s3 _ _ hd, lt_line (by rw [List.length_take]; omega), fun b o e => ?_, ?_⟩
  · rw [upd_ne (ne_of_none e hD)]
    exact s3 _ _ (s _ _ e)
  · rw [upd_same, List.take_add_one, hy]
    rfl
theorem eLcT (j : Nat) (h : wE X iter σ H fun v H1 => ∃ (a : Addr) (xs gs : List V), v = .ref a ∧ SqT X.K H1 a xs ∧ gs.length = xs.length ∧ xs.length ≤ 1000 ∧
      (∀ (i : Nat) (u y : V) (H2 : Hp), xs[i]? = some u → gs[i]? = some y → Same H1 H2 → ∀ Q : VK, (∀ H3, Same H2 H3 → Q y H3) → bE X scope elt ((wipe σ [j]).set j (some u)) H2 Q) ∧
      (∀ D H2, H1 D = none → Same H1 H2 → H2 D = some (.lst gs) → Q (.ref D) H2))
    (hi : X.N[j]? = some x) (hN : X.N.Nodup) (hx : ∀ (cl : List (Str × Addr)) (C : Addr), (compEnvC scope cl C X.env).scope.names.lookup x = some .local) (ok : BlkOk X.N X.env.scope scope [(x, j)]) (hc : X.calm = true := by rfl) (hs : ∀ z, foldedSetIterable iter X.env z = pure z := by intro _; rfl) :
    wE X (.ListComp elt [⟨.Name x pos', iter, [], 0⟩] scope pos) σ H Q := by
  refine eLc [(x, j)] ?_ hN ok hc hs
  refine iTpl (wE_mono h ?_)
  rintro v H1 ⟨a, xs, gs, rfl, hq, hl, hz, hturn, hend⟩
  refine ⟨a, rfl, ⟨xs, hq⟩, fun D hD => ?_⟩
  refine lc_tup (xs := xs) (fun i H2 => Same H1 H2 ∧ H2 D = some (.lst (gs.take i))) ⟨same_new hD, by rw [upd_same]; rfl⟩ (fun i H2 _ q => seqT_mono q.1 hq) (fun i u H2 hu q => ?_) (fun H2 q => hend D H2 hD q.1 (by rw [q.2, ← hl, List.take_length]))
  refine bgName j hi hN hx ⟨wipe1 σ j u, ?_⟩
  (unfold tYes; simp only [↓reduceIte])
  have hlt : i < gs.length := by rw [hl]; exact (List.getElem?_eq_some_iff.mp hu).1
  exact pure_turn hD (by omega) (List.getElem?_eq_getElem hlt) q.1 q.2 (hturn i u gs[i] H2 hu (List.getElem?_eq_getElem hlt) q.1)
/-- over a text -/
theorem iTxt {tg : Expr} {R : It → Hp → Prop} (h : wE X iter σ H fun v H1 => ∃ z, v = .str z ∧ R (Its z) H1) : wI X tg iter σ H R := ⟨_, pi_str pE, h⟩
theorem eLcS (j : Nat) (h : wE X iter σ H fun v H1 => ∃ (z : Str) (gs : List V), v = .str z ∧ gs.length = z.cps.size ∧ gs.length ≤ 1000 ∧
      (∀ (i c : Nat) (y : V) (H2 : Hp), z.cps[i]? = some c → gs[i]? = some y → Same H1 H2 → ∀ Q : VK, (∀ H3, Same H2 H3 → Q y H3) → bE X scope elt ((wipe σ [j]).set j (some (.str ⟨#[c]⟩))) H2 Q) ∧
      (∀ D H2, H1 D = none → Same H1 H2 → H2 D = some (.lst gs) → Q (.ref D) H2))
    (hi : X.N[j]? = some x) (hN : X.N.Nodup) (hx : ∀ (cl : List (Str × Addr)) (C : Addr), (compEnvC scope cl C X.env).scope.names.lookup x = some .local) (ok : BlkOk X.N X.env.scope scope [(x, j)]) (hc : X.calm = true := by rfl) (hs : ∀ z, foldedSetIterable iter X.env z = pure z := by intro _; rfl) :
    wE X (.ListComp elt [⟨.Name x pos', iter, [], 0⟩] scope pos) σ H Q := by
  refine eLc [(x, j)] ?_ hN ok hc hs
  refine iTxt (wE_mono h ?_)
  rintro v H1 ⟨z, gs, rfl, hl, hz, hturn, hend⟩
  refine ⟨z, rfl, fun D hD => ?_⟩
  refine ⟨fun i m H2 => m = z.cps.size - i ∧ i ≤ z.cps.size ∧ Same H1 H2 ∧ H2 D = some (.lst (gs.take i)), ⟨z.cps.size, by omega, by omega, same_new hD, by rw [upd_same]; rfl⟩, ?_⟩
  rintro i m H2 ⟨rfl, hi2, q1, q2⟩
  by_cases hlt : i < z.cps.size
  · refine .inr ⟨hlt, fun H3 => Same H1 H3 ∧ H3 D = some (.lst (gs.take (i + 1))), fun H3 q => ⟨z.cps.size - (i + 1), by omega, rfl, hlt, q.1, q.2⟩, ?_⟩
    rintro v H' ⟨rfl, c, hc2, rfl⟩
    refine bgName j hi hN hx ⟨wipe1 σ j _, ?_⟩
    (unfold tYes; simp only [↓reduceIte])
    have hlt' : i < gs.length := by omega
    exact pure_turn hD hz (List.getElem?_eq_getElem hlt') q1 q2 (hturn i c gs[i] H' hc2 (List.getElem?_eq_getElem hlt') q1)
  · have e : i = z.cps.size := by omega
    subst e
    exact .inl ⟨Nat.le_refl _, hend D H2 hD q1 (by rw [q2, ← hl, List.take_length])⟩
/-- over range(n), any invariant -/
theorem eLcR (j : Nat) (hm : X.mg "range" = none) (h : wA X [a] σ H fun vs H1 => ∃ n : Int, vs = [.int n] ∧ 0 ≤ n ∧ n ≤ 1000 ∧ ∀ D, H1 D = none → ∃ Pv : Nat → Hp → Prop, Pv 0 (upd H1 D (.lst [])) ∧
      (∀ (i : Nat) (H2 : Hp), (i : Int) < n → Pv i H2 → bE X scope elt ((wipe σ [j]).set j (some (.int (i : Int)))) H2 fun y H3 => ∃ acc, H3 D = some (.lst acc) ∧ acc.length < sizeLine ∧ Pv (i + 1) (upd H3 D (.lst (acc ++ [y])))) ∧ ∀ H2, Pv n.toNat H2 → Q (.ref D) H2)
    (hi : X.N[j]? = some x) (hN : X.N.Nodup) (hx : ∀ (cl : List (Str × Addr)) (C : Addr), (compEnvC scope cl C X.env).scope.names.lookup x = some .local) (ok : BlkOk X.N X.env.scope scope [(x, j)]) (hg : Gl X "range" := by rfl) (hc : X.calm = true := by rfl) (hst : starEach [a] X.env = [(false, eval a X.env)] := by rfl) (hs : ∀ z, foldedSetIterable (.Call (.Name "range" p) [a] [] pos') X.env z = pure z := by intro _; rfl) {pos2 : Pos} :
    wE X (.ListComp elt [⟨.Name x pos2, .Call (.Name "range" p) [a] [] pos', [], 0⟩] scope pos) σ H Q := by
  refine eLc [(x, j)] ?_ hN ok hc hs
  refine iRng1 hm ?_ hg hst
  obtain ⟨t, pt, q⟩ := h
  refine ⟨fun σ H Q' => ∃ Q0, t σ H Q0 ∧ ∀ vs H, Q0 vs H → Q' vs H, ⟨fun pos pins s σ H Q' I q' => ?_⟩, _, q, ?_⟩
  · obtain ⟨Q0, q0, m⟩ := q'
    exact thn (pt.run pos pins s σ H Q0 I q0) fun us s' ⟨vs, H', I', r, z⟩ => ⟨vs, H', I', r, m vs H' z⟩
  · rintro vs H1 ⟨n, rfl, n0, n1, hD⟩
    refine ⟨n, rfl, by omega, by omega, fun D hn => ?_⟩
    obtain ⟨Pv, p0, ps, pe⟩ := hD D hn
    refine lc_range (lo := 0) (n := n.toNat) Pv p0 (fun i H2 hi2 q => ?_) pe
    have e0 : (0 : Int) + (i : Int) = (i : Int) := by omega
    rw [e0]
    refine bgName j hi hN hx ⟨wipe1 σ j _, ?_⟩
    (unfold tYes; simp only [↓reduceIte])
    exact ps i H2 (by omega) q
/-- y = [.. for x in range(n)] -/
theorem sSetLcR (k j : Nat) {y : Str} {py pos2 spos : Pos} {D : Ends} (hm : X.mg "range" = none) (h : wA X [a] σ H fun vs H1 => ∃ n : Int, vs = [.int n] ∧ 0 ≤ n ∧ n ≤ 1000 ∧ ∀ L, H1 L = none → ∃ Pv : Nat → Hp → Prop, Pv 0 (upd H1 L (.lst [])) ∧
      (∀ (i : Nat) (H2 : Hp), (i : Int) < n → Pv i H2 → bE X scope elt ((wipe σ [j]).set j (some (.int (i : Int)))) H2 fun y H3 => ∃ acc, H3 L = some (.lst acc) ∧ acc.length < sizeLine ∧ Pv (i + 1) (upd H3 L (.lst (acc ++ [y])))) ∧ ∀ H2, Pv n.toNat H2 → D.nx (σ.set k (some (.ref L))) H2)
    (hy : X.N[k]? = some y) (hi : X.N[j]? = some x) (hN : X.N.Nodup) (hx : ∀ (cl : List (Str × Addr)) (C : Addr), (compEnvC scope cl C X.env).scope.names.lookup x = some .local) (ok : BlkOk X.N X.env.scope scope [(x, j)])
    (hyl : X.env.scope.names.lookup y = some .local) (hsw : swapsWith (.ListComp elt [⟨.Name x pos2, .Call (.Name "range" p) [a] [] pos', [], 0⟩] scope pos) (some (.Name y py)) spos.line X.env = pure true)
    (hg : Gl X "range" := by rfl) (hc : X.calm = true := by rfl) (hst : starEach [a] X.env = [(false, eval a X.env)] := by rfl) (hs : ∀ z, foldedSetIterable (.Call (.Name "range" p) [a] [] pos') X.env z = pure z := by intro _; rfl) :
    wS X (.Assign [.Name y py] (.ListComp elt [⟨.Name x pos2, .Call (.Name "range" p) [a] [] pos', [], 0⟩] scope pos) spos) D σ H := by
  refine sSetLc k [(x, j)] hy ?_ hN ok hyl hsw hc hs
  refine iRng1 hm ?_ hg hst
  obtain ⟨t, pt, q⟩ := h
  refine ⟨fun σ H Q' => ∃ Q0, t σ H Q0 ∧ ∀ vs H, Q0 vs H → Q' vs H, ⟨fun pos pins s σ H Q' I q' => ?_⟩, _, q, ?_⟩
  · obtain ⟨Q0, q0, m⟩ := q'
    exact thn (pt.run pos pins s σ H Q0 I q0) fun us s' ⟨vs, H', I', r, z⟩ => ⟨vs, H', I', r, m vs H' z⟩
  · rintro vs H1 ⟨n, rfl, n0, n1, hD⟩
    refine ⟨n, rfl, by omega, by omega, fun L hn => ?_⟩
    obtain ⟨Pv, p0, ps, pe⟩ := hD L hn
    refine lc_range (lo := 0) (n := n.toNat) Pv p0 (fun i H2 hi2 q => ?_) pe
    have e0 : (0 : Int) + (i : Int) = (i : Int) := by omega
    rw [e0]
    refine bgName j hi hN hx ⟨wipe1 σ j _, ?_⟩
    (unfold tYes; simp only [↓reduceIte])
    exact ps i H2 (by omega) q
end
theorem ptL' {X : Cx} {H : Hp} {p : Addr} {n : Int} {v : V} {xs : List V} {j : Nat} {QH : Hp → Prop} (hl : H p = some (.lst xs)) (hj : ixN xs.length n = some j) (h : ∀ H', H' p = some (.lst (xs.set j v)) → cut [p] H' = cut [p] H → QH H') : wPt X (.ref p) (.int n) v H QH :=
  ptL hl hj (h _ upd_same (cut_upd (by simp)))
section
variable {X : Cx} {H : Hp} {Q : VK} {z : Str}
theorem mIsascii (h : Q (.bl (Txt.isascii z)) H) : wM X "str.isascii" (.str z) [] H Q := ⟨_, mt_isascii, z, rfl, rfl, trivial, h⟩
theorem mIsalnum (h : Q (.bl (Txt.isalnum z)) H) : wM X "str.isalnum" (.str z) [] H Q := ⟨_, mt_isalnum, z, rfl, rfl, trivial, h⟩
theorem mIsalpha (h : Q (.bl (Txt.isalpha z)) H) : wM X "str.isalpha" (.str z) [] H Q := ⟨_, mt_isalpha, z, rfl, rfl, trivial, h⟩
theorem mIslower (h : Q (.bl (Txt.islower z)) H) : wM X "str.islower" (.str z) [] H Q := ⟨_, mt_islower, z, rfl, rfl, trivial, h⟩
variable {σ : L2.St} {o : Expr} {apos pos : Pos}
theorem kIsascii (h : wE X o σ H fun x H1 => tyV X.K "str" x H1 ∧ wM X "str.isascii" x [] H1 Q) (hbase : attributeBase o "isascii" X.env (eval o X.env) = eval o X.env := by rfl) (hline : (apos.endLine == pos.line) = true := by rfl) : wE X (.Call (.Attribute o "isascii" apos) [] [] pos) σ H Q := eM0 PySem.F.plainAttrs_str PySem.F.slot_str_isascii PySem.F.type_str_isascii h hbase hline
theorem kIsalnum (h : wE X o σ H fun x H1 => tyV X.K "str" x H1 ∧ wM X "str.isalnum" x [] H1 Q) (hbase : attributeBase o "isalnum" X.env (eval o X.env) = eval o X.env := by rfl) (hline : (apos.endLine == pos.line) = true := by rfl) : wE X (.Call (.Attribute o "isalnum" apos) [] [] pos) σ H Q := eM0 PySem.F.plainAttrs_str PySem.F.slot_str_isalnum PySem.F.type_str_isalnum h hbase hline
theorem kIsalpha (h : wE X o σ H fun x H1 => tyV X.K "str" x H1 ∧ wM X "str.isalpha" x [] H1 Q) (hbase : attributeBase o "isalpha" X.env (eval o X.env) = eval o X.env := by rfl) (hline : (apos.endLine == pos.line) = true := by rfl) : wE X (.Call (.Attribute o "isalpha" apos) [] [] pos) σ H Q := eM0 PySem.F.plainAttrs_str PySem.F.slot_str_isalpha PySem.F.type_str_isalpha h hbase hline
theorem kIslower (h : wE X o σ H fun x H1 => tyV X.K "str" x H1 ∧ wM X "str.islower" x [] H1 Q) (hbase : attributeBase o "islower" X.env (eval o X.env) = eval o X.env := by rfl) (hline : (apos.endLine == pos.line) = true := by rfl) : wE X (.Call (.Attribute o "islower" apos) [] [] pos) σ H Q := eM0 PySem.F.plainAttrs_str PySem.F.slot_str_islower PySem.F.type_str_islower h hbase hline
end
/-! ### data and isinstance -/
def tyOf : PyData → String
  | .none => "NoneType" | .bool _ => "bool" | .int _ => "int" | .str _ => "str" | .list _ => "list" | .tuple _ => "tuple" | .dict _ => "dict"
theorem dp_ty {K : PySem.W.Frag} {H : Hp} {v : V} {d : PyData} (h : Dp K H v d) : TyX K H v (.type (tyOf d)) := by
  cases h with
  | non => exact .base .non
  | bl b => exact .base (.bl b)
  | int i => exact .base (.int i)
  | str x => exact .base (.str x)
  | lst h r =>
    rcases h with (h | ⟨o, h⟩) | ⟨o, its, n, h1, h2, _⟩
    · exact .base (.lst h)
    · exact .base (.frz h)
    · exact .kList h1 h2
  | tup h r =>
    rcases h with (h | ⟨o, h⟩) | ⟨o, its, n, h1, h2, _⟩
    · exact .base (.tup h)
    · exact .fTuple h
    · exact .kTuple h1 h2
def isInt : PyData → Bool | .int _ => true | .bool _ => true | _ => false
def isBool : PyData → Bool | .bool _ => true | _ => false
def isStr : PyData → Bool | .str _ => true | _ => false
def isTup : PyData → Bool | .tuple _ => true | _ => false
theorem kit_int (d : PyData) : kitB (tyOf d) "int" = some (isInt d) := by cases d <;> first | rfl | decide +kernel
theorem kit_bool (d : PyData) : kitB (tyOf d) "bool" = some (isBool d) := by cases d <;> first | rfl | decide +kernel
theorem kit_str (d : PyData) : kitB (tyOf d) "str" = some (isStr d) := by cases d <;> first | rfl | decide +kernel
theorem kit_tup (d : PyData) : kitB (tyOf d) "tuple" = some (isTup d) := by cases d <;> first | rfl | decide +kernel
section
variable {X : Cx} {H : Hp} {Q : VK} {v : V} {d : PyData}
theorem fIsInt (hd : Dp X.K H v d) (h : Q (.bl (isInt d)) H) : wF X (.builtin "isinstance") [v, .ty "int"] H Q := fIsi (dp_ty hd) (kit_ty (kit_int d)) h
theorem fIsBool (hd : Dp X.K H v d) (h : Q (.bl (isBool d)) H) : wF X (.builtin "isinstance") [v, .ty "bool"] H Q := fIsi (dp_ty hd) (kit_ty (kit_bool d)) h
theorem fIsStr (hd : Dp X.K H v d) (h : Q (.bl (isStr d)) H) : wF X (.builtin "isinstance") [v, .ty "str"] H Q := fIsi (dp_ty hd) (kit_ty (kit_str d)) h
theorem fIsTup (hd : Dp X.K H v d) (h : Q (.bl (isTup d)) H) : wF X (.builtin "isinstance") [v, .ty "tuple"] H Q := fIsi (dp_ty hd) (kit_ty (kit_tup d)) h
end
theorem ite2' {c : Prop} [Decidable c] {A B : Prop} (h1 : c → A) (h2 : ¬ c → B) : if decide c = true then A else B := by
  by_cases h : c
  · rw [if_pos (decide_eq_true h)]
    exact h1 h
  · rw [if_neg (by rw [decide_eq_false h]; exact Bool.false_ne_true)]
    exact h2 h
end Wk

namespace Wk
open PySem PySem.Spec PyProof.Rows L2
/-! ### new objects, the heap behind them by what is known of it -/
section
variable {X : Cx} {σ : L2.St} {H : Hp} {Q : VK} {es : List Expr} {pos : Pos} {p q : Addr} {xs ys : List V} {k : Int}
theorem wA_mono {Q1 Q2 : List V → Hp → Prop} (h : wA X es σ H Q1) (m : ∀ vs H, Q1 vs H → Q2 vs H) : wA X es σ H Q2 := by
  obtain ⟨t, pt, q⟩ := h
  refine ⟨fun σ H Q' => ∃ Q0, t σ H Q0 ∧ ∀ vs H, Q0 vs H → Q' vs H, ⟨fun pos pins s σ H Q' I q' => ?_⟩, _, q, m⟩
  obtain ⟨Q0, q0, m⟩ := q'
  exact thn (pt.run pos pins s σ H Q0 I q0) fun us s' ⟨vs, H', I', r, z⟩ => ⟨vs, H', I', r, m vs H' z⟩
theorem eTupN {x1} (h : wA X es σ H fun xs H1 => xs.length ≤ 100000 ∧ ∀ p H', H1 p = none → Same H1 H' → H' p = some (.tup xs) → Q (.ref p) H') : wE X (.Tuple es x1 pos) σ H Q :=
  eTup (wA_mono h fun _ _ z => ⟨le_line z.1, fun p hp => z.2 p _ hp (same_new hp) upd_same⟩)
theorem eLstN (h : wA X es σ H fun xs H1 => xs.length ≤ 100000 ∧ ∀ p H', H1 p = none → Same H1 H' → H' p = some (.lst xs) → Q (.ref p) H') : wE X (.List es pos) σ H Q :=
  eLst (wA_mono h fun _ _ z => ⟨le_line z.1, fun p hp => z.2 p _ hp (same_new hp) upd_same⟩)
theorem bRepT (hs : SqT X.K H p xs) (hne : xs ≠ []) (h2 : 2 ≤ k) (h1 : k ≤ 1000) (hz : xs.length ≤ 1000) (h : ∀ l H', H l = none → Same H H' → H' l = some (.tup (List.replicate k.toNat xs).flatten) → Q (.ref l) H') : wB X .Mult (.ref p) (.int k) H Q := ⟨_, op_repT, p, k, xs, rfl, rfl, hs, hne, h2, h1, hz, fun l hl => h l _ hl (same_new hl) upd_same⟩
theorem bAddLN (hx : H p = some (.lst xs)) (hy : H q = some (.lst ys)) (hz : xs.length + ys.length ≤ 100000) (h : ∀ l H', H l = none → Same H H' → H' l = some (.lst (xs ++ ys)) → Q (.ref l) H') : wB X .Add (.ref p) (.ref q) H Q := bAddL hx hy (le_line hz) fun l hl => h l _ hl (same_new hl) upd_same
theorem fListTN (hl : SqT X.K H p xs) (h : ∀ l H', H l = none → Same H H' → H' l = some (.lst xs) → Q (.ref l) H') : wF X (.type "list") [.ref p] H Q := fListT hl fun l hl => h l _ hl (same_new hl) upd_same
theorem fTupLN (hl : SqL X.K H p xs) (h : ∀ l H', H l = none → Same H H' → H' l = some (.tup xs) → Q (.ref l) H') : wF X (.type "tuple") [.ref p] H Q := fTupL hl fun l hl => h l _ hl (same_new hl) upd_same
theorem seqT_cut {K : PySem.W.Frag} {H : Hp} {as : List Addr} {p : Addr} {xs : List V} (h : SqT K (cut as H) p xs) : SqT K H p xs := seqT_mono (cut_same _ _) h
/-- a slice of a tuple, a sum of two, apart from some addresses -/
theorem lT {as : List Addr} {lo hi : Option Int} (hn : ∀ p, H p = none → p ∉ as) (hs : SqT X.K (cut as H) p xs) (h : ∀ p' H', Same H H' → SqT X.K (cut as H') p' (cutV xs lo hi) → Q (.ref p') H') : wL X (.ref p) lo hi H Q := by
  refine ⟨_, sl_tupA, p, xs, rfl, seqT_cut hs, fun hw => h p H (Same.refl _) ?_, fun _ l hl => h l _ (same_new hl) (SqT.of (cut_get (hn l hl) upd_same))⟩
  have e : cutV xs lo hi = xs := by
    unfold cutV
    rw [hw.1, hw.2]
    simp
  rw [e]
  exact hs
theorem bCatT {as : List Addr} (hn : ∀ p, H p = none → p ∉ as) (ha : SqT X.K (cut as H) p xs) (hb : SqT X.K (cut as H) q ys) (hz : xs.length + ys.length ≤ 100000) (h : ∀ p' H', Same H H' → SqT X.K (cut as H') p' (xs ++ ys) → Q (.ref p') H') : wB X .Add (.ref p) (.ref q) H Q := by
  refine ⟨_, op_catA, p, q, xs, ys, rfl, rfl, seqT_cut ha, seqT_cut hb, le_line hz, fun e => ?_, fun _ e => ?_, fun _ _ l hl => h l _ (same_new hl) (SqT.of (cut_get (hn l hl) upd_same))⟩
  · subst e
    exact h q H (Same.refl _) hb
  · subst e
    exact h p H (Same.refl _) (by rw [List.append_nil]; exact ha)
theorem cNotB {a b : Bool} (h : Q (.bl (!decide (a = b))) H) : wC X .IsNot (.bl a) (.bl b) H Q := ⟨_, op_notBl, a, b, rfl, rfl, h⟩
theorem cIsB {a b : Bool} (h : Q (.bl (decide (a = b))) H) : wC X .Is (.bl a) (.bl b) H Q := ⟨_, op_isBl, a, b, rfl, rfl, h⟩
end
/-- a def by its body, its own promise -/
theorem fn_mk {P : Program} {w : World} {K : PySem.W.Frag} {mg : Str → Option Value} {base : Heap} {x : Str} {st : Stmt} {f : Addr} {fd : FuncData} {N ps : List Str} {k : Nat} {sp : Sp} {sc : Scope} {body : List Stmt} (F : Fun K x x st f fd) (S : FnScope N ps (defScope st)) (hsc : defScope st = sc) (hb : defBody st = body) (len : ∀ vs H Q E, sp vs H Q E → vs.length = ps.length)
    (hbody : ∀ (cdv : Value) (A : Around) (outer : List Env) (s : Shared) (H : Hp) (vs : List V) (Q : VK) (E : XK), Room k (A.deeper (envOfC x sc s.heap.objs.size f cdv)) → N.Nodup → sp vs H Q E →
      wSs (cxOf CX0 P w K mg base N x sc f cdv A outer s H E).nox body { nx := fun _ H' => Q .non H', rt := Q } (start N vs) H) : FnOk P w K mg base CX0 (k + 1) f fd ps sp := by
  subst hsc hb
  exact F.ok S len fun cdv A outer s H vs Q E hr h => (hbody cdv A outer s H vs Q E hr S.nd h).ex
end Wk

namespace K1
open PySem PySem.Spec PyProof.Rows L2 Wk
def topS (i : Nat) : Stmt := PySem.Challenge.pw_leatwork_k01_is_graph.main.body.getD i (.Pass ⟨0, 0, 0, 0⟩)
local macro_rules | `(tactic| none_booked) => `(tactic| first
  | refine eInt ?_ | refine eStr ?_ | (refine eNm ?_; first | refine nAt 0 (by rfl) (by rfl) (by first | exact Or.inl rfl | exact Or.inr (Or.inl rfl) | exact Or.inr (Or.inr rfl)) (by rfl) (by rfl) ?_ | refine nAt 1 (by rfl) (by rfl) (by first | exact Or.inl rfl | exact Or.inr (Or.inl rfl) | exact Or.inr (Or.inr rfl)) (by rfl) (by rfl) ?_ | refine nAt 2 (by rfl) (by rfl) (by first | exact Or.inl rfl | exact Or.inr (Or.inl rfl) | exact Or.inr (Or.inr rfl)) (by rfl) (by rfl) ?_ | refine nAt 3 (by rfl) (by rfl) (by first | exact Or.inl rfl | exact Or.inr (Or.inl rfl) | exact Or.inr (Or.inr rfl)) (by rfl) (by rfl) ?_ | refine nAt 4 (by rfl) (by rfl) (by first | exact Or.inl rfl | exact Or.inr (Or.inl rfl) | exact Or.inr (Or.inr rfl)) (by rfl) (by rfl) ?_ | refine nAt 5 (by rfl) (by rfl) (by first | exact Or.inl rfl | exact Or.inr (Or.inl rfl) | exact Or.inr (Or.inr rfl)) (by rfl) (by rfl) ?_ | refine nAt 6 (by rfl) (by rfl) (by first | exact Or.inl rfl | exact Or.inr (Or.inl rfl) | exact Or.inr (Or.inr rfl)) (by rfl) (by rfl) ?_ | refine nAt 7 (by rfl) (by rfl) (by first | exact Or.inl rfl | exact Or.inr (Or.inl rfl) | exact Or.inr (Or.inr rfl)) (by rfl) (by rfl) ?_ | refine nAt 8 (by rfl) (by rfl) (by first | exact Or.inl rfl | exact Or.inr (Or.inl rfl) | exact Or.inr (Or.inr rfl)) (by rfl) (by rfl) ?_) | refine sCons ?_ | refine sNil ?_ | refine sIf ?_ | refine sRet ?_ | (refine sStore ?_; first | refine stAt 0 (by rfl) ?_ (by assumption) (by first | exact Or.inl rfl | exact Or.inr rfl) (by rfl) (by first | exact Or.inl rfl | exact Or.inr rfl) | refine stAt 1 (by rfl) ?_ (by assumption) (by first | exact Or.inl rfl | exact Or.inr rfl) (by rfl) (by first | exact Or.inl rfl | exact Or.inr rfl) | refine stAt 2 (by rfl) ?_ (by assumption) (by first | exact Or.inl rfl | exact Or.inr rfl) (by rfl) (by first | exact Or.inl rfl | exact Or.inr rfl) | refine stAt 3 (by rfl) ?_ (by assumption) (by first | exact Or.inl rfl | exact Or.inr rfl) (by rfl) (by first | exact Or.inl rfl | exact Or.inr rfl) | refine stAt 4 (by rfl) ?_ (by assumption) (by first | exact Or.inl rfl | exact Or.inr rfl) (by rfl) (by first | exact Or.inl rfl | exact Or.inr rfl) | refine stAt 5 (by rfl) ?_ (by assumption) (by first | exact Or.inl rfl | exact Or.inr rfl) (by rfl) (by first | exact Or.inl rfl | exact Or.inr rfl) | refine stAt 6 (by rfl) ?_ (by assumption) (by first | exact Or.inl rfl | exact Or.inr rfl) (by rfl) (by first | exact Or.inl rfl | exact Or.inr rfl) | refine stAt 7 (by rfl) ?_ (by assumption) (by first | exact Or.inl rfl | exact Or.inr rfl) (by rfl) (by first | exact Or.inl rfl | exact Or.inr rfl) | refine stAt 8 (by rfl) ?_ (by assumption) (by first | exact Or.inl rfl | exact Or.inr rfl) (by rfl) (by first | exact Or.inl rfl | exact Or.inr rfl)) | refine sExpr ?_
  | refine aNil ?_ | refine aCons ?_ | refine eBl ?_ | refine eNon ?_ | refine eBin ?_ | refine eCmp ?_ | refine eIx ?_ | refine eTup ?_ | refine eLst ?_ | refine eChain ?_
  | refine eSl ?_ | refine oNone ?_ | refine oSome ?_ | refine eNot ?_ | refine eUn ?_ | refine eAnd ?_ | refine eOr ?_ | refine eOne ?_ | refine eIf ?_
  | refine tCmp ?_ | refine tChain ?_ | refine tNot ?_ | refine pAnd1 ?_ | refine pOr1 ?_ | refine pAnd ?_ | refine pOr ?_
  | refine kLen (by assumption) ?_ | refine kAbs (by assumption) ?_ | refine kInt (by assumption) ?_ | refine kList (by assumption) ?_ | refine kTuple (by assumption) ?_ | refine kAll (by assumption) ?_ | refine kIsi (by assumption) ?_
  | refine tyInt (by assumption) ?_ | refine tyBool (by assumption) ?_ | refine tyStr (by assumption) ?_ | refine tyTuple (by assumption) ?_ | refine tyList (by assumption) ?_
  | refine eCall (by assumption) (by assumption) (by decide) ?_ | refine eGlobI (by assumption) ?_
  | refine tPb ?_
  | refine bAdd ?_ | refine bSub ?_ | refine uNeg ?_ | refine cLt ?_ | refine cLe ?_ | refine cGt ?_ | refine cGe ?_ | refine cEq (by rfl) ?_ | refine cNe (by rfl) ?_
  | refine fInt ?_ | refine fAbs ?_
  | refine kIsascii ?_ | refine kIsalnum ?_ | refine kIsalpha ?_ | refine kIslower ?_
  | refine ⟨rfl, mIsascii ?_⟩ | refine ⟨rfl, mIsalnum ?_⟩ | refine ⟨rfl, mIsalpha ?_⟩ | refine ⟨rfl, mIslower ?_⟩
  | refine gsNil ?_ | refine gsCons ?_ | (first | refine gNm 0 (by rfl) ?_ (by assumption) (by first | exact Or.inl rfl | exact Or.inr rfl) (by first | exact Or.inl rfl | exact Or.inr rfl) | refine gNm 1 (by rfl) ?_ (by assumption) (by first | exact Or.inl rfl | exact Or.inr rfl) (by first | exact Or.inl rfl | exact Or.inr rfl) | refine gNm 2 (by rfl) ?_ (by assumption) (by first | exact Or.inl rfl | exact Or.inr rfl) (by first | exact Or.inl rfl | exact Or.inr rfl) | refine gNm 3 (by rfl) ?_ (by assumption) (by first | exact Or.inl rfl | exact Or.inr rfl) (by first | exact Or.inl rfl | exact Or.inr rfl) | refine gNm 4 (by rfl) ?_ (by assumption) (by first | exact Or.inl rfl | exact Or.inr rfl) (by first | exact Or.inl rfl | exact Or.inr rfl) | refine gNm 5 (by rfl) ?_ (by assumption) (by first | exact Or.inl rfl | exact Or.inr rfl) (by first | exact Or.inl rfl | exact Or.inr rfl) | refine gNm 6 (by rfl) ?_ (by assumption) (by first | exact Or.inl rfl | exact Or.inr rfl) (by first | exact Or.inl rfl | exact Or.inr rfl) | refine gNm 7 (by rfl) ?_ (by assumption) (by first | exact Or.inl rfl | exact Or.inr rfl) (by first | exact Or.inl rfl | exact Or.inr rfl) | refine gNm 8 (by rfl) ?_ (by assumption) (by first | exact Or.inl rfl | exact Or.inr rfl) (by first | exact Or.inl rfl | exact Or.inr rfl)))
/-! ### what is asked, over plain data -/
def isLet (c : Nat) : Bool := decide (97 ≤ c) && decide (c ≤ 122)
def isDig (c : Nat) : Bool := decide (48 ≤ c) && decide (c ≤ 57)
def strAtom (s : Str) : Bool := decide (1 ≤ s.length) && decide (s.length ≤ 12) && ((s.cps.toList.head?.map isLet).getD false && s.cps.toList.all fun c => isLet c || isDig c)
def numOk (lo hi : Int) : PyData → Bool
  | .int i => decide (lo ≤ i) && decide (i ≤ hi)
  | _ => false
def atomOk : PyData → Bool
  | .str s => strAtom s
  | _ => false
theorem let_up : ∀ c : Nat, c < 128 → (Unicode.isAlnum c = (isLet c || isDig c || (decide (65 ≤ c) && decide (c ≤ 90)))) ∧ (Unicode.isUpper c = (decide (65 ≤ c) && decide (c ≤ 90))) ∧ Unicode.isTitle c = false ∧ Unicode.isLower c = isLet c ∧ Unicode.isAlpha c = (isLet c || (decide (65 ≤ c) && decide (c ≤ 90))) := by decide +kernel
theorem atom_eq {s : Str} {c : Nat} {r : List Nat} (hs : s.cps.toList = c :: r) (h1 : 1 ≤ s.length) (h12 : s.length ≤ 12) : (Txt.isascii s && (Txt.isalnum s && (Txt.islower s && Unicode.isAlpha c))) = strAtom s := by
  have hl : s.length = r.length + 1 := by
    show s.cps.size = _
    rw [← Array.length_toList, hs]
    rfl
  have e1 : Txt.isascii s = (c :: r).all (fun c => decide (c < 128)) := by unfold Txt.isascii; rw [← Array.all_toList, hs]
  have e2 : Txt.isalnum s = (c :: r).all Unicode.isAlnum := by unfold Txt.isalnum; rw [← Array.all_toList, hs, decide_eq_true (show s.length > 0 by omega), Bool.true_and]
  have e3 : Txt.islower s = ((c :: r).any Unicode.isLower && !(c :: r).any fun c => Unicode.isUpper c || Unicode.isTitle c) := by unfold Txt.islower; rw [← Array.any_toList, ← Array.any_toList, hs]
  unfold strAtom
  rw [hs, e1, e2, e3, decide_eq_true h1, decide_eq_true h12]
  rw [Bool.eq_iff_iff]
  simp only [Bool.and_eq_true, List.all_eq_true, List.any_eq_true, decide_eq_true_eq, Bool.not_eq_true', List.any_eq_false, List.head?_cons, Option.map_some, Option.getD_some, true_and, Bool.or_eq_true, Bool.true_and]
  constructor
  · rintro ⟨a1, a2, ⟨_, a4⟩, a5⟩
    have all : ∀ x ∈ c :: r, isLet x = true ∨ isDig x = true := fun x hx => by
      have hlt := a1 x hx
      obtain ⟨f1, f2, f3, f4, f5⟩ := let_up x hlt
      have u := a4 x hx
      have v := a2 x hx
      rw [f1] at v
      rw [f2, f3] at u
      simp only [Bool.or_eq_true, Bool.or_false] at v u
      rcases v with (v | v) | v
      · exact .inl v
      · exact .inr v
      · exact absurd (.inl v) u
    refine ⟨?_, all⟩
    have hlt := a1 c (by simp)
    obtain ⟨f1, f2, f3, f4, f5⟩ := let_up c hlt
    have u := a4 c (by simp)
    rw [f2, f3] at u
    rw [f5] at a5
    simp only [Bool.or_eq_true, Bool.or_false] at a5 u
    rcases a5 with v | v
    · exact v
    · exact absurd (.inl v) u
  · rintro ⟨b1, b2⟩
    have lt : ∀ x ∈ c :: r, x < 128 := fun x hx => by
      rcases b2 x hx with v | v
      · unfold isLet at v; simp only [Bool.and_eq_true, decide_eq_true_eq] at v; omega
      · unfold isDig at v; simp only [Bool.and_eq_true, decide_eq_true_eq] at v; omega
    refine ⟨lt, fun x hx => ?_, ⟨⟨c, by simp, ?_⟩, fun x hx => ?_⟩, ?_⟩
    · rw [(let_up x (lt x hx)).1]
      rcases b2 x hx with v | v
      · rw [v]; rfl
      · rw [v]; simp
    · rw [(let_up c (lt c (by simp))).2.2.2.1]; exact b1
    · rw [(let_up x (lt x hx)).2.1, (let_up x (lt x hx)).2.2.1]
      have key : ¬ (65 ≤ x ∧ x ≤ 90) := by
        rcases b2 x hx with v | v
        · unfold isLet at v; simp only [Bool.and_eq_true, decide_eq_true_eq] at v; omega
        · unfold isDig at v; simp only [Bool.and_eq_true, decide_eq_true_eq] at v; omega
      simp only [Bool.or_false, Bool.and_eq_true, decide_eq_true_eq]
      exact fun z => key (z.elim id fun z => nomatch z)
    · rw [(let_up c (lt c (by simp))).2.2.2.2, b1]; rfl
/-! ### is_integer_in, is_atom -/
abbrev sInt : Stmt := topS 5
abbrev sAtom : Stmt := topS 6
theorem scInt : FnScope ["value", "low", "high"] ["value", "low", "high"] (defScope sInt) := ⟨rfl, rfl, rfl, by decide +kernel, rfl, by decide +kernel, by decide +kernel⟩
theorem scAtom : FnScope ["value"] ["value"] (defScope sAtom) := ⟨rfl, rfl, rfl, by decide +kernel, rfl, by decide +kernel, by decide +kernel⟩
section
variable {P : Program} {w : World} {K : PySem.W.Frag} {mg : Str → Option Value} {base : Heap}
def spInt (K : PySem.W.Frag) : Sp := fun vs H Q _ => ∃ (v : V) (lo hi : Int) (d : PyData), vs = [v, .int lo, .int hi] ∧ Dp K H v d ∧ ∀ H' : Hp, Same H H' → Q (.bl (numOk lo hi d)) H'
theorem ok_int {f : Addr} {fd : FuncData} (F : Fun K "is_integer_in" "is_integer_in" sInt f fd) (hm : mg "is_integer_in" = some (.ref f)) (bd : Binds K fd ["value", "low", "high"] []) (m1 : mg "isinstance" = none) (m2 : mg "int" = none) (m3 : mg "bool" = none) : Cl P w K mg base 1 "is_integer_in" (spInt K) := by
  refine cl_mk (sc := ?sc) (body := ?body) F hm bd scInt ?hsc ?hb (fun vs H Q E h => ?_) (fun cdv A outer s H vs Q E hr nd h => ?_)
  case hsc => conv => lhs; whnf
  case hb => conv => lhs; whnf
  · obtain ⟨v, lo, hi, d, rfl, _⟩ := h
    rfl
  · obtain ⟨v, lo, hi, d, rfl, hd, q⟩ := h
    repeat none_booked
    refine fIsInt hd ?_
    refine ⟨_, rfl, ?_⟩
    cases hi1 : isInt d with
    | false =>
      rw [if_neg Bool.false_ne_true]
      have e : numOk lo hi d = false := by cases d <;> first | rfl | cases hi1
      have q' := q H (Same.refl _)
      rw [e] at q'
      exact q'
    | true =>
      rw [if_pos rfl]
      repeat none_booked
      refine fIsBool hd ?_
      refine ⟨_, rfl, ?_⟩
      refine ⟨_, rfl, ?_⟩
      cases hd with
      | bl b =>
        rw [if_neg (by show ¬ (!true) = true; decide)]
        exact q H (Same.refl _)
      | int i =>
        rw [if_pos (by rfl)]
        repeat none_booked
        refine ⟨_, rfl, ?_⟩
        have q' := q H (Same.refl _)
        refine ite2' (fun h1 => ?_) (fun h1 => ?_)
        · repeat none_booked
          rw [show numOk lo hi (.int i) = (decide (lo ≤ i) && decide (i ≤ hi)) from rfl, decide_eq_true h1, Bool.true_and] at q'
          exact q'
        · rw [show numOk lo hi (.int i) = (decide (lo ≤ i) && decide (i ≤ hi)) from rfl, decide_eq_false h1, Bool.false_and] at q'
          exact q'
      | _ => cases hi1
def spAtom (K : PySem.W.Frag) : Sp := fun vs H Q _ => ∃ (v : V) (d : PyData), vs = [v] ∧ Dp K H v d ∧ (∀ z, d = .str z → z.length ≤ 1000) ∧ ∀ H' : Hp, Same H H' → Q (.bl (atomOk d)) H'
theorem ok_atom {f : Addr} {fd : FuncData} (F : Fun K "is_atom" "is_atom" sAtom f fd) (hm : mg "is_atom" = some (.ref f)) (bd : Binds K fd ["value"] []) (m1 : mg "isinstance" = none) (m2 : mg "str" = none) (m3 : mg "len" = none) (m4 : ∃ t, mg "MOST_SIGNS" = some (.int 12 t)) : Cl P w K mg base 1 "is_atom" (spAtom K) := by
  refine cl_mk (sc := ?sc) (body := ?body) F hm bd scAtom ?hsc ?hb (fun vs H Q E h => ?_) (fun cdv A outer s H vs Q E hr nd h => ?_)
  case hsc => conv => lhs; whnf
  case hb => conv => lhs; whnf
  · obtain ⟨v, d, rfl, _⟩ := h
    rfl
  · obtain ⟨v, d, rfl, hd, hz, q⟩ := h
    have q' := q H (Same.refl _)
    repeat none_booked
    refine tVal ?_
    repeat none_booked
    refine fIsStr hd ?_
    refine ⟨_, rfl, ?_⟩
    cases hd with
    | str z =>
      have hz' := hz z rfl
      rw [if_neg (by show ¬ (!true) = true; decide)]
      repeat none_booked
      refine fLenS (le_line (by omega)) ?_
      repeat none_booked
      refine ⟨_, rfl, ?_⟩
      refine ite2' (fun h1 => ?_) (fun h1 => ?_)
      · repeat none_booked
        refine ⟨_, rfl, ?_⟩
        by_cases h2 : ((z.length : Nat) : Int) ≤ 12
        · rw [decide_eq_true h2, if_neg (by show ¬ (!true) = true; decide)]
          obtain ⟨c, r, hs⟩ : ∃ c r, z.cps.toList = c :: r := by
            cases e : z.cps.toList with
            | nil =>
              have : z.length = 0 := by show z.cps.size = 0; rw [← Array.length_toList, e]; rfl
              omega
            | cons c r => exact ⟨c, r, rfl⟩
          have ae := atom_eq hs (by omega) (by omega)
          have hat : atomOk (.str z) = strAtom z := rfl
          rw [hat, ← ae] at q'
          repeat none_booked
          refine ⟨_, rfl, ?_⟩
          cases e1 : Txt.isascii z with
          | false => rw [e1] at q'; exact q'
          | true =>
            rw [e1] at q'
            rw [if_pos rfl]
            repeat none_booked
            refine ⟨_, rfl, ?_⟩
            cases e2 : Txt.isalnum z with
            | false => rw [e2] at q'; exact q'
            | true =>
              rw [e2] at q'
              rw [if_pos rfl]
              repeat none_booked
              refine ⟨_, rfl, ?_⟩
              cases e3 : Txt.islower z with
              | false => rw [e3] at q'; exact q'
              | true =>
                rw [e3] at q'
                rw [if_pos rfl]
                repeat none_booked
                refine xS (cc := c) (le_line (by omega)) (by rw [hs]; exact atI_nat (j := 0) rfl) ?_
                repeat none_booked
                have ea : Txt.isalpha ⟨#[c]⟩ = Unicode.isAlpha c := by simp [Txt.isalpha, Str.length]
                rw [ea]
                exact q'
        · rw [decide_eq_false h2, if_pos (by rfl)]
          repeat none_booked
          have e : atomOk (.str z) = false := by
            show strAtom z = false
            unfold strAtom
            rw [decide_eq_false (show ¬ z.length ≤ 12 by omega)]
            simp
          rw [e] at q'
          exact q'
      · refine ⟨_, rfl, ?_⟩
        rw [if_pos (by rfl)]
        repeat none_booked
        have e : atomOk (.str z) = false := by
          show strAtom z = false
          unfold strAtom
          rw [decide_eq_false (show ¬ 1 ≤ z.length by omega)]
          simp
        rw [e] at q'
        exact q'
    | _ =>
      rw [if_pos (by rfl)]
      repeat none_booked
end
end K1

namespace K1
open PySem PySem.Spec PyProof.Rows L2 Wk
local macro_rules | `(tactic| none_booked) => `(tactic| first
  | refine eInt ?_ | refine eStr ?_ | (refine eNm ?_; first | refine nAt 0 (by rfl) (by rfl) (by first | exact Or.inl rfl | exact Or.inr (Or.inl rfl) | exact Or.inr (Or.inr rfl)) (by rfl) (by rfl) ?_ | refine nAt 1 (by rfl) (by rfl) (by first | exact Or.inl rfl | exact Or.inr (Or.inl rfl) | exact Or.inr (Or.inr rfl)) (by rfl) (by rfl) ?_ | refine nAt 2 (by rfl) (by rfl) (by first | exact Or.inl rfl | exact Or.inr (Or.inl rfl) | exact Or.inr (Or.inr rfl)) (by rfl) (by rfl) ?_ | refine nAt 3 (by rfl) (by rfl) (by first | exact Or.inl rfl | exact Or.inr (Or.inl rfl) | exact Or.inr (Or.inr rfl)) (by rfl) (by rfl) ?_ | refine nAt 4 (by rfl) (by rfl) (by first | exact Or.inl rfl | exact Or.inr (Or.inl rfl) | exact Or.inr (Or.inr rfl)) (by rfl) (by rfl) ?_ | refine nAt 5 (by rfl) (by rfl) (by first | exact Or.inl rfl | exact Or.inr (Or.inl rfl) | exact Or.inr (Or.inr rfl)) (by rfl) (by rfl) ?_ | refine nAt 6 (by rfl) (by rfl) (by first | exact Or.inl rfl | exact Or.inr (Or.inl rfl) | exact Or.inr (Or.inr rfl)) (by rfl) (by rfl) ?_ | refine nAt 7 (by rfl) (by rfl) (by first | exact Or.inl rfl | exact Or.inr (Or.inl rfl) | exact Or.inr (Or.inr rfl)) (by rfl) (by rfl) ?_ | refine nAt 8 (by rfl) (by rfl) (by first | exact Or.inl rfl | exact Or.inr (Or.inl rfl) | exact Or.inr (Or.inr rfl)) (by rfl) (by rfl) ?_) | refine sCons ?_ | refine sNil ?_ | refine sIf ?_ | refine sRet ?_ | (refine sStore ?_; first | refine stAt 0 (by rfl) ?_ (by assumption) (by first | exact Or.inl rfl | exact Or.inr rfl) (by rfl) (by first | exact Or.inl rfl | exact Or.inr rfl) | refine stAt 1 (by rfl) ?_ (by assumption) (by first | exact Or.inl rfl | exact Or.inr rfl) (by rfl) (by first | exact Or.inl rfl | exact Or.inr rfl) | refine stAt 2 (by rfl) ?_ (by assumption) (by first | exact Or.inl rfl | exact Or.inr rfl) (by rfl) (by first | exact Or.inl rfl | exact Or.inr rfl) | refine stAt 3 (by rfl) ?_ (by assumption) (by first | exact Or.inl rfl | exact Or.inr rfl) (by rfl) (by first | exact Or.inl rfl | exact Or.inr rfl) | refine stAt 4 (by rfl) ?_ (by assumption) (by first | exact Or.inl rfl | exact Or.inr rfl) (by rfl) (by first | exact Or.inl rfl | exact Or.inr rfl) | refine stAt 5 (by rfl) ?_ (by assumption) (by first | exact Or.inl rfl | exact Or.inr rfl) (by rfl) (by first | exact Or.inl rfl | exact Or.inr rfl) | refine stAt 6 (by rfl) ?_ (by assumption) (by first | exact Or.inl rfl | exact Or.inr rfl) (by rfl) (by first | exact Or.inl rfl | exact Or.inr rfl) | refine stAt 7 (by rfl) ?_ (by assumption) (by first | exact Or.inl rfl | exact Or.inr rfl) (by rfl) (by first | exact Or.inl rfl | exact Or.inr rfl) | refine stAt 8 (by rfl) ?_ (by assumption) (by first | exact Or.inl rfl | exact Or.inr rfl) (by rfl) (by first | exact Or.inl rfl | exact Or.inr rfl)) | refine sExpr ?_
  | refine aNil ?_ | refine aCons ?_ | refine eBl ?_ | refine eNon ?_ | refine eBin ?_ | refine eCmp ?_ | refine eIx ?_ | refine eTup ?_ | refine eLst ?_ | refine eChain ?_
  | refine eSl ?_ | refine oNone ?_ | refine oSome ?_ | refine eNot ?_ | refine eUn ?_ | refine eAnd ?_ | refine eOr ?_ | refine eOne ?_ | refine eIf ?_
  | refine tCmp ?_ | refine tChain ?_ | refine tNot ?_ | refine pAnd1 ?_ | refine pOr1 ?_ | refine pAnd ?_ | refine pOr ?_
  | refine kLen (by assumption) ?_ | refine kAbs (by assumption) ?_ | refine kInt (by assumption) ?_ | refine kList (by assumption) ?_ | refine kTuple (by assumption) ?_ | refine kAll (by assumption) ?_ | refine kIsi (by assumption) ?_
  | refine tyInt (by assumption) ?_ | refine tyBool (by assumption) ?_ | refine tyStr (by assumption) ?_ | refine tyTuple (by assumption) ?_ | refine tyList (by assumption) ?_
  | refine eCall (by assumption) (by assumption) (by decide) ?_ | refine eGlobI (by assumption) ?_
  | refine tPb ?_
  | refine bAdd ?_ | refine bSub ?_ | refine uNeg ?_ | refine cLt ?_ | refine cLe ?_ | refine cGt ?_ | refine cGe ?_ | refine cEq (by rfl) ?_ | refine cNe (by rfl) ?_
  | refine fInt ?_ | refine fAbs ?_
  | refine kIsascii ?_ | refine kIsalnum ?_ | refine kIsalpha ?_ | refine kIslower ?_
  | refine ⟨rfl, mIsascii ?_⟩ | refine ⟨rfl, mIsalnum ?_⟩ | refine ⟨rfl, mIsalpha ?_⟩ | refine ⟨rfl, mIslower ?_⟩
  | refine gsNil ?_ | refine gsCons ?_ | (first | refine gNm 0 (by rfl) ?_ (by assumption) (by first | exact Or.inl rfl | exact Or.inr rfl) (by first | exact Or.inl rfl | exact Or.inr rfl) | refine gNm 1 (by rfl) ?_ (by assumption) (by first | exact Or.inl rfl | exact Or.inr rfl) (by first | exact Or.inl rfl | exact Or.inr rfl) | refine gNm 2 (by rfl) ?_ (by assumption) (by first | exact Or.inl rfl | exact Or.inr rfl) (by first | exact Or.inl rfl | exact Or.inr rfl) | refine gNm 3 (by rfl) ?_ (by assumption) (by first | exact Or.inl rfl | exact Or.inr rfl) (by first | exact Or.inl rfl | exact Or.inr rfl) | refine gNm 4 (by rfl) ?_ (by assumption) (by first | exact Or.inl rfl | exact Or.inr rfl) (by first | exact Or.inl rfl | exact Or.inr rfl) | refine gNm 5 (by rfl) ?_ (by assumption) (by first | exact Or.inl rfl | exact Or.inr rfl) (by first | exact Or.inl rfl | exact Or.inr rfl) | refine gNm 6 (by rfl) ?_ (by assumption) (by first | exact Or.inl rfl | exact Or.inr rfl) (by first | exact Or.inl rfl | exact Or.inr rfl) | refine gNm 7 (by rfl) ?_ (by assumption) (by first | exact Or.inl rfl | exact Or.inr rfl) (by first | exact Or.inl rfl | exact Or.inr rfl) | refine gNm 8 (by rfl) ?_ (by assumption) (by first | exact Or.inl rfl | exact Or.inr rfl) (by first | exact Or.inl rfl | exact Or.inr rfl)))
/-! ### data of small depth -/
def fineN : Nat → PyData → Bool
  | _, .none => true
  | _, .bool _ => true
  | _, .int _ => true
  | _, .str z => decide (z.length ≤ 1000) && PySem.PyData.strOk z
  | n + 1, .list ds => decide (ds.length ≤ 1000) && ds.all (fineN n)
  | n + 1, .tuple ds => decide (ds.length ≤ 1000) && ds.all (fineN n)
  | _, _ => false
theorem fineN_up : ∀ (n : Nat) (d : PyData), fineN n d = true → fineN (n + 1) d = true
  | 0, .none, _ => rfl
  | 0, .bool _, _ => rfl
  | 0, .int _, _ => rfl
  | 0, .str _, h => h
  | _ + 1, .none, _ => rfl
  | _ + 1, .bool _, _ => rfl
  | _ + 1, .int _, _ => rfl
  | _ + 1, .str _, h => h
  | n + 1, .list ds, h => by
    have h' : (decide (ds.length ≤ 1000) && ds.all (fineN n)) = true := h
    show (decide (ds.length ≤ 1000) && ds.all (fineN (n + 1))) = true
    rw [Bool.and_eq_true, List.all_eq_true] at h' ⊢
    exact ⟨h'.1, fun x hx => fineN_up n x (h'.2 x hx)⟩
  | n + 1, .tuple ds, h => by
    have h' : (decide (ds.length ≤ 1000) && ds.all (fineN n)) = true := h
    show (decide (ds.length ≤ 1000) && ds.all (fineN (n + 1))) = true
    rw [Bool.and_eq_true, List.all_eq_true] at h' ⊢
    exact ⟨h'.1, fun x hx => fineN_up n x (h'.2 x hx)⟩
theorem fineN_le {n m : Nat} {d : PyData} (h : fineN n d = true) (hm : n ≤ m) : fineN m d = true := by
  induction hm with
  | refl => exact h
  | step _ ih => exact fineN_up _ _ ih
theorem fine_lay : ∀ (n : Nat) (d : PyData), fineN n d = true → d.canLay0 = true ∧ d.depth ≤ n
  | _, .none, _ => ⟨rfl, Nat.zero_le _⟩
  | _, .bool _, _ => ⟨rfl, Nat.zero_le _⟩
  | _, .int _, _ => ⟨rfl, Nat.zero_le _⟩
  | 0, .str z, h => ⟨(Bool.and_eq_true_iff.mp h).2, Nat.zero_le _⟩
  | n + 1, .str z, h => ⟨(Bool.and_eq_true_iff.mp h).2, Nat.zero_le _⟩
  | 0, .list _, h => nomatch h
  | 0, .tuple _, h => nomatch h
  | 0, .dict _, h => nomatch h
  | _ + 1, .dict _, h => nomatch h
  | n + 1, .list ds, h => by
    have h' : (decide (ds.length ≤ 1000) && ds.all (fineN n)) = true := h
    rw [Bool.and_eq_true, List.all_eq_true] at h'
    have key : ∀ l : List PyData, (∀ x ∈ l, fineN n x = true) → PyData.canLayAll0 l = true ∧ PyData.depthAll l ≤ n := by
      intro l
      induction l with
      | nil => intro _; exact ⟨rfl, Nat.zero_le _⟩
      | cons a r ih =>
        intro hl
        have i1 := fine_lay n a (hl a (by simp))
        have i2 := ih fun x hx => hl x (by simp [hx])
        exact ⟨by show (a.canLay0 && PyData.canLayAll0 r) = true; rw [i1.1, i2.1]; rfl, by show max a.depth (PyData.depthAll r) ≤ n; exact Nat.max_le.mpr ⟨i1.2, i2.2⟩⟩
    have k := key ds h'.2
    exact ⟨k.1, by show PyData.depthAll ds + 1 ≤ n + 1; exact Nat.succ_le_succ k.2⟩
  | n + 1, .tuple ds, h => by
    have h' : (decide (ds.length ≤ 1000) && ds.all (fineN n)) = true := h
    rw [Bool.and_eq_true, List.all_eq_true] at h'
    have key : ∀ l : List PyData, (∀ x ∈ l, fineN n x = true) → PyData.canLayAll0 l = true ∧ PyData.depthAll l ≤ n := by
      intro l
      induction l with
      | nil => intro _; exact ⟨rfl, Nat.zero_le _⟩
      | cons a r ih =>
        intro hl
        have i1 := fine_lay n a (hl a (by simp))
        have i2 := ih fun x hx => hl x (by simp [hx])
        exact ⟨by show (a.canLay0 && PyData.canLayAll0 r) = true; rw [i1.1, i2.1]; rfl, by show max a.depth (PyData.depthAll r) ≤ n; exact Nat.max_le.mpr ⟨i1.2, i2.2⟩⟩
    have k := key ds h'.2
    exact ⟨k.1, by show PyData.depthAll ds + 1 ≤ n + 1; exact Nat.succ_le_succ k.2⟩
def Fine (d : PyData) : Prop := fineN 20 d = true
theorem Fine.shaped {d : PyData} (h : Fine d) : SeqAt.shaped d = true := by
  have k := fine_lay 20 d h
  unfold SeqAt.shaped
  rw [k.1, decide_eq_true (show d.depth ≤ 64 by have := k.2; omega)]
  rfl
theorem Fine.tup {ds : List PyData} (h : Fine (.tuple ds)) : ds.length ≤ 1000 ∧ ∀ x ∈ ds, Fine x := by
  have h' : (decide (ds.length ≤ 1000) && ds.all (fineN 19)) = true := h
  rw [Bool.and_eq_true, List.all_eq_true] at h'
  exact ⟨of_decide_eq_true h'.1, fun x hx => fineN_up 19 x (h'.2 x hx)⟩
theorem Fine.str {z : Str} (h : Fine (.str z)) : z.length ≤ 1000 := of_decide_eq_true (Bool.and_eq_true_iff.mp h).1
theorem dpAll_len {K : PySem.W.Frag} {H : Hp} : ∀ {vs : List V} {ds : List PyData}, DpAll K H vs ds → vs.length = ds.length
  | _, _, .nil => rfl
  | _, _, .cons _ r => by rw [List.length_cons, List.length_cons, dpAll_len r]
theorem dpAll_get {K : PySem.W.Frag} {H : Hp} : ∀ {vs : List V} {ds : List PyData} {i : Nat} {v : V}, DpAll K H vs ds → vs[i]? = some v → ∃ d, ds[i]? = some d ∧ Dp K H v d
  | _, _, _, _, .nil, e => by simp at e
  | _, _, 0, _, .cons h _, e => by simp at e; subst e; exact ⟨_, rfl, h⟩
  | _, _, i + 1, _, .cons _ r, e => by
    obtain ⟨d, e1, e2⟩ := dpAll_get (i := i) r (by simpa using e)
    exact ⟨d, by simpa using e1, e2⟩
/-! ### what is asked of nodes and graphs -/
def isW (k : PyData) (w : Str) : Bool := PyData.eqv k (.str w)
def partsOk (n : Int) : PyData → Bool
  | .tuple ps => decide (1 ≤ ps.length) && (decide (ps.length ≤ 6) && ps.all (numOk 0 (n - 1)))
  | _ => false
def shortOk (k x : PyData) : Bool := if isW k "var" = true then numOk 0 1000000000 x else if isW k "int" = true then numOk (-1000000000) 1000000000 x else isW k "atom" && atomOk x
def longOk (n : Int) (k a r : PyData) : Bool := atomOk a && (if isW k "name" = true then numOk 0 1000000000 r else isW k "tuple" && partsOk n r)
def nodeOk (n : Int) : PyData → Bool
  | .tuple [k, x] => shortOk k x
  | .tuple [k, a, r] => longOk n k a r
  | _ => false
def graphOk : PyData → Bool
  | .tuple ns => decide (1 ≤ ns.length) && (decide (ns.length ≤ 400) && ns.all (nodeOk ns.length))
  | _ => false
abbrev sShort : Stmt := topS 9
abbrev sLong : Stmt := topS 10
abbrev sParts : Stmt := topS 11
abbrev sNode : Stmt := topS 8
abbrev sGraph : Stmt := topS 7
theorem scShort : FnScope ["node", "kind", "value"] ["node"] (defScope sShort) := ⟨rfl, rfl, rfl, by decide +kernel, rfl, by decide +kernel, by decide +kernel⟩
theorem scLong : FnScope ["node", "many", "kind", "atom", "rest"] ["node", "many"] (defScope sLong) := ⟨rfl, rfl, rfl, by decide +kernel, rfl, by decide +kernel, by decide +kernel⟩
theorem scParts : FnScope ["value", "many", "part"] ["value", "many"] (defScope sParts) := ⟨rfl, rfl, rfl, by decide +kernel, rfl, by decide +kernel, by decide +kernel⟩
theorem scNode : FnScope ["node", "many"] ["node", "many"] (defScope sNode) := ⟨rfl, rfl, rfl, by decide +kernel, rfl, by decide +kernel, by decide +kernel⟩
theorem scGraph : FnScope ["value", "node"] ["value"] (defScope sGraph) := ⟨rfl, rfl, rfl, by decide +kernel, rfl, by decide +kernel, by decide +kernel⟩
section
variable {P : Program} {w : World} {K : PySem.W.Frag} {mg : Str → Option Value} {base : Heap}
def spShort (K : PySem.W.Frag) : Sp := fun vs H Q _ => ∃ (v : V) (k x : PyData), vs = [v] ∧ Dp K H v (.tuple [k, x]) ∧ Fine (.tuple [k, x]) ∧ ∀ H' : Hp, Same H H' → Q (.bl (shortOk k x)) H'
theorem ok_short {f : Addr} {fd : FuncData} (F : Fun K "_is_short_node" "_is_short_node" sShort f fd) (hm : mg "_is_short_node" = some (.ref f)) (bd : Binds K fd ["node"] []) (c1 : Cl P w K mg base 1 "is_integer_in" (spInt K)) (c2 : Cl P w K mg base 1 "is_atom" (spAtom K)) (m4 : ∃ t, mg "MOST_NUMBER" = some (.int 1000000000 t)) : Cl P w K mg base 2 "_is_short_node" (spShort K) := by
  refine cl_mk (sc := ?sc) (body := ?body) F hm bd scShort ?hsc ?hb (fun vs H Q E h => ?_) (fun cdv A outer s H vs Q E hr nd h => ?_)
  case hsc => conv => lhs; whnf
  case hb => conv => lhs; whnf
  · obtain ⟨v, k, x, rfl, _⟩ := h
    rfl
  · obtain ⟨v, k, x, rfl, hd, hf, q⟩ := h
    cases hd with
    | tup hs ha =>
      cases ha with
      | cons d1 r1 =>
        cases r1 with
        | cons d2 r2 =>
          cases r2 with
          | nil =>
            have fk : Fine k := hf.tup.2 k (by simp)
            have fx : Fine x := hf.tup.2 x (by simp)
            repeat none_booked
            refine sAsg ?_
            repeat none_booked
            refine gTup (n := 2) ⟨_, _, rfl, hs, rfl, ?_⟩
            repeat none_booked
            refine cEqD hr.units d1 (.str _) fk.shaped (by decide +kernel) ?_
            refine ⟨_, rfl, ?_⟩
            unfold shortOk isW at q
            by_cases h1 : k.eqv (.str "var") = true
            · rw [if_pos h1]
              repeat none_booked
              refine ⟨_, _, _, _, rfl, d2, fun H1 s1 => ?_⟩
              have q' := q H1 s1
              rw [if_pos h1] at q'
              exact q'
            · rw [if_neg h1]
              simp only [if_neg h1] at q
              repeat none_booked
              refine cEqD hr.units d1 (.str _) fk.shaped (by decide +kernel) ?_
              refine ⟨_, rfl, ?_⟩
              by_cases h2 : k.eqv (.str "int") = true
              · rw [if_pos h2]
                repeat none_booked
                refine ⟨_, _, _, _, rfl, d2, fun H1 s1 => ?_⟩
                have q' := q H1 s1
                rw [if_pos h2] at q'
                exact q'
              · rw [if_neg h2]
                simp only [if_neg h2] at q
                repeat none_booked
                refine cEqD hr.units d1 (.str _) fk.shaped (by decide +kernel) ?_
                refine ⟨_, rfl, ?_⟩
                cases h3 : k.eqv (.str "atom") with
                | false =>
                  have q' := q H (Same.refl _)
                  rw [h3] at q'
                  exact q'
                | true =>
                  rw [if_pos rfl]
                  repeat none_booked
                  refine ⟨_, x, rfl, d2, fun z hz => ?_, fun H1 s1 => ?_⟩
                  · rw [hz] at fx; exact fx.str
                  · have q' := q H1 s1
                    rw [h3] at q'
                    exact q'
def spParts (K : PySem.W.Frag) : Sp := fun vs H Q _ => ∃ (v : V) (n : Int) (x : PyData), vs = [v, .int n] ∧ Dp K H v x ∧ Fine x ∧ ∀ H' : Hp, Same H H' → Q (.bl (partsOk n x)) H'
theorem ok_parts {f : Addr} {fd : FuncData} (F : Fun K "_are_parts" "_are_parts" sParts f fd) (hm : mg "_are_parts" = some (.ref f)) (bd : Binds K fd ["value", "many"] []) (c1 : Cl P w K mg base 1 "is_integer_in" (spInt K)) (m1 : mg "isinstance" = none) (m2 : mg "tuple" = none) (m3 : mg "len" = none) (m5 : mg "all" = none) (m4 : ∃ t, mg "MOST_PARTS" = some (.int 6 t)) : Cl P w K mg base 2 "_are_parts" (spParts K) := by
  refine cl_mk (sc := ?sc) (body := ?body) F hm bd scParts ?hsc ?hb (fun vs H Q E h => ?_) (fun cdv A outer s H vs Q E hr nd h => ?_)
  case hsc => conv => lhs; whnf
  case hb => conv => lhs; whnf
  · obtain ⟨v, n, x, rfl, _⟩ := h
    rfl
  · obtain ⟨v, n, x, rfl, hd, hf, q⟩ := h
    repeat none_booked
    refine tVal ?_
    repeat none_booked
    refine fIsTup hd ?_
    refine ⟨_, rfl, ?_⟩
    cases hx : isTup x with
    | false =>
      rw [if_pos (by rfl)]
      repeat none_booked
      have e : partsOk n x = false := by cases x <;> first | rfl | cases hx
      have q' := q H (Same.refl _)
      rw [e] at q'
      exact q'
    | true =>
      rw [if_neg (by show ¬ (!true) = true; decide)]
      cases hd with
      | tup hs ha =>
        rename_i a xs ds
        have hl := dpAll_len ha
        have q1 : ∀ H', Same H H' → Q (.bl (decide (1 ≤ ds.length) && (decide (ds.length ≤ 6) && ds.all (numOk 0 (n - 1))))) H' := q
        repeat none_booked
        refine fLenT hs ?_
        repeat none_booked
        refine ⟨_, rfl, ?_⟩
        have q2 := q1 H (Same.refl _)
        refine ite2' (fun h1 => ?_) (fun h1 => ?_)
        · repeat none_booked
          refine ⟨_, rfl, ?_⟩
          by_cases h2 : ((xs.length : Nat) : Int) ≤ 6
          · rw [decide_eq_true h2, if_neg (by show ¬ (!true) = true; decide)]
            repeat none_booked
            refine eLcT 2 ?_ (by rfl) (by assumption) (by intros; rfl) (blkOk_by (by rfl))
            repeat none_booked
            refine ⟨a, xs, (ds.map (numOk 0 (n - 1))).map V.bl, rfl, hs, by simp [hl], by have := hf.tup.1; omega, fun i u y H2 hu hy s2 Q2 q2 => ?_, fun D H2 hD s2 hD2 => ?_⟩
            · intro s0 H0 C cl fp
              obtain ⟨d, g1, g2⟩ := dpAll_get ha hu
              repeat none_booked
              refine ⟨_, _, _, d, rfl, dp_mono s2 g2, fun H3 s3 => ?_⟩
              have e : y = V.bl (numOk 0 (n - 1) d) := by
                rw [List.getElem?_map, List.getElem?_map, g1] at hy
                exact (Option.some.inj hy).symm
              rw [← e]
              exact q2 H3 s3
            · repeat none_booked
              refine fAll (SqL.of hD2) ?_
              have q3 := q1 H2 s2
              rw [decide_eq_true (show 1 ≤ ds.length by omega), decide_eq_true (show ds.length ≤ 6 by omega), Bool.true_and, Bool.true_and] at q3
              rw [List.all_map]
              exact q3
          · rw [decide_eq_false h2, if_pos (by rfl)]
            repeat none_booked
            rw [decide_eq_false (show ¬ ds.length ≤ 6 by omega), Bool.false_and, Bool.and_false] at q2
            exact q2
        · refine ⟨_, rfl, ?_⟩
          rw [if_pos (by rfl)]
          repeat none_booked
          rw [decide_eq_false (show ¬ 1 ≤ ds.length by omega), Bool.false_and] at q2
          exact q2
      | _ => cases hx
def spLong (K : PySem.W.Frag) : Sp := fun vs H Q _ => ∃ (v : V) (n : Int) (k a r : PyData), vs = [v, .int n] ∧ Dp K H v (.tuple [k, a, r]) ∧ Fine (.tuple [k, a, r]) ∧ ∀ H' : Hp, Same H H' → Q (.bl (longOk n k a r)) H'
theorem ok_long {f : Addr} {fd : FuncData} (F : Fun K "_is_long_node" "_is_long_node" sLong f fd) (hm : mg "_is_long_node" = some (.ref f)) (bd : Binds K fd ["node", "many"] []) (c1 : Cl P w K mg base 1 "is_integer_in" (spInt K)) (c2 : Cl P w K mg base 1 "is_atom" (spAtom K)) (c3 : Cl P w K mg base 2 "_are_parts" (spParts K)) (m4 : ∃ t, mg "MOST_NUMBER" = some (.int 1000000000 t)) : Cl P w K mg base 3 "_is_long_node" (spLong K) := by
  refine cl_mk (sc := ?sc) (body := ?body) F hm bd scLong ?hsc ?hb (fun vs H Q E h => ?_) (fun cdv A outer s H vs Q E hr nd h => ?_)
  case hsc => conv => lhs; whnf
  case hb => conv => lhs; whnf
  · obtain ⟨v, n, k, a, r, rfl, _⟩ := h
    rfl
  · obtain ⟨v, n, k, a, r, rfl, hd, hf, q⟩ := h
    obtain ⟨p, v1, v2, v3, rfl, hs, d1, d2, d3⟩ : ∃ p v1 v2 v3, v = .ref p ∧ SqT K H p [v1, v2, v3] ∧ Dp K H v1 k ∧ Dp K H v2 a ∧ Dp K H v3 r := by
      cases hd with
      | tup hs ha =>
        cases ha with
        | cons d1 r1 =>
          cases r1 with
          | cons d2 r2 =>
            cases r2 with
            | cons d3 r3 =>
              cases r3 with
              | nil => exact ⟨_, _, _, _, rfl, hs, d1, d2, d3⟩
    have fk : Fine k := hf.tup.2 k (by simp)
    have fa : Fine a := hf.tup.2 a (by simp)
    have fr : Fine r := hf.tup.2 r (by simp)
    repeat none_booked
    refine sAsg ?_
    repeat none_booked
    refine gTup (n := 3) ⟨_, _, rfl, hs, rfl, ?_⟩
    repeat none_booked
    refine tVal ?_
    repeat none_booked
    refine ⟨_, a, rfl, d2, fun z hz => ?_, fun H1 s1 => ?_⟩
    · rw [hz] at fa; exact fa.str
    · have q1 : ∀ H', Same H1 H' → Q (.bl (longOk n k a r)) H' := fun H' s' => q H' (s1.trans s')
      unfold longOk isW at q1
      refine ⟨_, rfl, ?_⟩
      cases ha : atomOk a with
      | false =>
        rw [if_pos (by rfl)]
        repeat none_booked
        have q2 := q1 H1 (Same.refl _)
        rw [ha] at q2
        exact q2
      | true =>
        rw [if_neg (by show ¬ (!true) = true; decide)]
        rw [ha] at q1
        simp only [Bool.true_and] at q1
        repeat none_booked
        refine cEqD hr.units (dp_mono s1 d1) (.str _) fk.shaped (by decide +kernel) ?_
        refine ⟨_, rfl, ?_⟩
        by_cases h1 : k.eqv (.str "name") = true
        · rw [if_pos h1]
          repeat none_booked
          refine ⟨_, _, _, _, rfl, dp_mono s1 d3, fun H2 s2 => ?_⟩
          have q2 := q1 H2 s2
          rw [if_pos h1] at q2
          exact q2
        · rw [if_neg h1]
          simp only [if_neg h1] at q1
          repeat none_booked
          refine cEqD hr.units (dp_mono s1 d1) (.str _) fk.shaped (by decide +kernel) ?_
          refine ⟨_, rfl, ?_⟩
          cases h3 : k.eqv (.str "tuple") with
          | false =>
            have q2 := q1 H1 (Same.refl _)
            rw [h3] at q2
            exact q2
          | true =>
            rw [if_pos rfl]
            repeat none_booked
            refine ⟨_, _, r, rfl, dp_mono s1 d3, fr, fun H2 s2 => ?_⟩
            have q2 := q1 H2 s2
            rw [h3] at q2
            exact q2
def spNode (K : PySem.W.Frag) : Sp := fun vs H Q _ => ∃ (v : V) (n : Int) (x : PyData), vs = [v, .int n] ∧ Dp K H v x ∧ Fine x ∧ ∀ H' : Hp, Same H H' → Q (.bl (nodeOk n x)) H'
theorem nodeOk_long {n : Int} {ds : List PyData} (h2 : ds.length ≠ 2) (h3 : ds.length ≠ 3) : nodeOk n (.tuple ds) = false := by
  match ds, h2, h3 with
  | [], _, _ => rfl
  | [_], _, _ => rfl
  | [_, _], h2, _ => exact absurd rfl h2
  | [_, _, _], _, h3 => exact absurd rfl h3
  | _ :: _ :: _ :: _ :: _, _, _ => rfl
theorem ok_node {f : Addr} {fd : FuncData} (F : Fun K "_is_node" "_is_node" sNode f fd) (hm : mg "_is_node" = some (.ref f)) (bd : Binds K fd ["node", "many"] []) (c1 : Cl P w K mg base 2 "_is_short_node" (spShort K)) (c2 : Cl P w K mg base 3 "_is_long_node" (spLong K)) (m1 : mg "isinstance" = none) (m2 : mg "tuple" = none) (m3 : mg "len" = none) : Cl P w K mg base 4 "_is_node" (spNode K) := by
  refine cl_mk (sc := ?sc) (body := ?body) F hm bd scNode ?hsc ?hb (fun vs H Q E h => ?_) (fun cdv A outer s H vs Q E hr nd h => ?_)
  case hsc => conv => lhs; whnf
  case hb => conv => lhs; whnf
  · obtain ⟨v, n, x, rfl, _⟩ := h
    rfl
  · obtain ⟨v, n, x, rfl, hd, hf, q⟩ := h
    repeat none_booked
    refine tVal ?_
    repeat none_booked
    refine fIsTup hd ?_
    refine ⟨_, rfl, ?_⟩
    cases hx : isTup x with
    | false =>
      rw [if_pos (by rfl)]
      repeat none_booked
      have e : nodeOk n x = false := by cases x <;> first | rfl | cases hx
      have q' := q H (Same.refl _)
      rw [e] at q'
      exact q'
    | true =>
      rw [if_neg (by show ¬ (!true) = true; decide)]
      cases hd with
      | tup hs ha =>
        rename_i a xs ds
        have hl := dpAll_len ha
        repeat none_booked
        refine fLenT hs ?_
        repeat none_booked
        refine ⟨_, rfl, ?_⟩
        refine ite2' (fun h1 => ?_) (fun h1 => ?_)
        · have h1' : ds.length = 2 := by have := V.int.inj h1; omega
          obtain ⟨k, x, rfl⟩ : ∃ k x, ds = [k, x] := by
            match ds, h1' with
            | [k, x], _ => exact ⟨k, x, rfl⟩
          repeat none_booked
          exact ⟨_, k, x, rfl, .tup hs ha, hf, q⟩
        · have h1' : ds.length ≠ 2 := fun z => h1 (congrArg V.int (by omega))
          repeat none_booked
          refine fLenT hs ?_
          repeat none_booked
          refine ⟨_, rfl, ?_⟩
          refine ite2' (fun h2 => ?_) (fun h2 => ?_)
          · have h2' : ds.length = 3 := by have := V.int.inj h2; omega
            obtain ⟨k, x, r, rfl⟩ : ∃ k x r, ds = [k, x, r] := by
              match ds, h2' with
              | [k, x, r], _ => exact ⟨k, x, r, rfl⟩
            repeat none_booked
            exact ⟨_, n, k, x, r, rfl, .tup hs ha, hf, q⟩
          · have h2' : ds.length ≠ 3 := fun z => h2 (congrArg V.int (by omega))
            have q' := q H (Same.refl _)
            rw [nodeOk_long h1' h2'] at q'
            exact q'
      | _ => cases hx
def spGraph (K : PySem.W.Frag) : Sp := fun vs H Q _ => ∃ (v : V) (x : PyData), vs = [v] ∧ Dp K H v x ∧ Fine x ∧ ∀ H' : Hp, Same H H' → Q (.bl (graphOk x)) H'
theorem ok_graph {f : Addr} {fd : FuncData} (F : Fun K "is_graph" "is_graph" sGraph f fd) (hm : mg "is_graph" = some (.ref f)) (bd : Binds K fd ["value"] []) (c1 : Cl P w K mg base 4 "_is_node" (spNode K)) (m1 : mg "isinstance" = none) (m2 : mg "tuple" = none) (m3 : mg "len" = none) (m5 : mg "all" = none) (m4 : ∃ t, mg "MOST_NODES" = some (.int 400 t)) : Cl P w K mg base 5 "is_graph" (spGraph K) := by
  refine cl_mk (sc := ?sc) (body := ?body) F hm bd scGraph ?hsc ?hb (fun vs H Q E h => ?_) (fun cdv A outer s H vs Q E hr nd h => ?_)
  case hsc => conv => lhs; whnf
  case hb => conv => lhs; whnf
  · obtain ⟨v, x, rfl, _⟩ := h
    rfl
  · obtain ⟨v, x, rfl, hd, hf, q⟩ := h
    repeat none_booked
    refine tVal ?_
    repeat none_booked
    refine fIsTup hd ?_
    refine ⟨_, rfl, ?_⟩
    cases hx : isTup x with
    | false =>
      rw [if_pos (by rfl)]
      repeat none_booked
      have e : graphOk x = false := by cases x <;> first | rfl | cases hx
      have q' := q H (Same.refl _)
      rw [e] at q'
      exact q'
    | true =>
      rw [if_neg (by show ¬ (!true) = true; decide)]
      cases hd with
      | tup hs ha =>
        rename_i a xs ds
        have hl := dpAll_len ha
        have q1 : ∀ H', Same H H' → Q (.bl (decide (1 ≤ ds.length) && (decide (ds.length ≤ 400) && ds.all (nodeOk ds.length)))) H' := q
        repeat none_booked
        refine fLenT hs ?_
        repeat none_booked
        refine ⟨_, rfl, ?_⟩
        have q2 := q1 H (Same.refl _)
        refine ite2' (fun h1 => ?_) (fun h1 => ?_)
        · repeat none_booked
          refine ⟨_, rfl, ?_⟩
          by_cases h2 : ((xs.length : Nat) : Int) ≤ 400
          · rw [decide_eq_true h2, if_neg (by show ¬ (!true) = true; decide)]
            repeat none_booked
            refine eLcT 1 ?_ (by rfl) (by assumption) (by intros; rfl) (blkOk_by (by rfl))
            repeat none_booked
            refine ⟨a, xs, (ds.map (nodeOk ds.length)).map V.bl, rfl, hs, by simp [hl], by have := hf.tup.1; omega, fun i u y H2 hu hy s2 Q2 q2 => ?_, fun D H2 hD s2 hD2 => ?_⟩
            · intro s0 H0 C cl fp
              obtain ⟨d, g1, g2⟩ := dpAll_get ha hu
              repeat none_booked
              refine fLenT (seqT_mono s2 hs) ?_
              repeat none_booked
              refine ⟨_, _, d, rfl, dp_mono s2 g2, hf.tup.2 d (List.mem_of_getElem? g1), fun H3 s3 => ?_⟩
              have e : y = V.bl (nodeOk xs.length d) := by
                rw [List.getElem?_map, List.getElem?_map, g1] at hy
                rw [hl]
                exact (Option.some.inj hy).symm
              rw [← e]
              exact q2 H3 s3
            · repeat none_booked
              refine fAll (SqL.of hD2) ?_
              have q3 := q1 H2 s2
              rw [decide_eq_true (show 1 ≤ ds.length by omega), decide_eq_true (show ds.length ≤ 400 by omega), Bool.true_and, Bool.true_and] at q3
              rw [List.all_map]
              exact q3
          · rw [decide_eq_false h2, if_pos (by rfl)]
            repeat none_booked
            rw [decide_eq_false (show ¬ ds.length ≤ 400 by omega), Bool.false_and, Bool.and_false] at q2
            exact q2
        · refine ⟨_, rfl, ?_⟩
          rw [if_pos (by rfl)]
          repeat none_booked
          rw [decide_eq_false (show ¬ 1 ≤ ds.length by omega), Bool.false_and] at q2
          exact q2
      | _ => cases hx
end
end K1

namespace K1
open PySem PySem.Spec PyProof.Rows L2 Wk
local macro_rules | `(tactic| none_booked) => `(tactic| first
  | refine eInt ?_ | refine eStr ?_ | (refine eNm ?_; first | refine nAt 0 (by rfl) (by rfl) (by first | exact Or.inl rfl | exact Or.inr (Or.inl rfl) | exact Or.inr (Or.inr rfl)) (by rfl) (by rfl) ?_ | refine nAt 1 (by rfl) (by rfl) (by first | exact Or.inl rfl | exact Or.inr (Or.inl rfl) | exact Or.inr (Or.inr rfl)) (by rfl) (by rfl) ?_ | refine nAt 2 (by rfl) (by rfl) (by first | exact Or.inl rfl | exact Or.inr (Or.inl rfl) | exact Or.inr (Or.inr rfl)) (by rfl) (by rfl) ?_ | refine nAt 3 (by rfl) (by rfl) (by first | exact Or.inl rfl | exact Or.inr (Or.inl rfl) | exact Or.inr (Or.inr rfl)) (by rfl) (by rfl) ?_ | refine nAt 4 (by rfl) (by rfl) (by first | exact Or.inl rfl | exact Or.inr (Or.inl rfl) | exact Or.inr (Or.inr rfl)) (by rfl) (by rfl) ?_ | refine nAt 5 (by rfl) (by rfl) (by first | exact Or.inl rfl | exact Or.inr (Or.inl rfl) | exact Or.inr (Or.inr rfl)) (by rfl) (by rfl) ?_ | refine nAt 6 (by rfl) (by rfl) (by first | exact Or.inl rfl | exact Or.inr (Or.inl rfl) | exact Or.inr (Or.inr rfl)) (by rfl) (by rfl) ?_ | refine nAt 7 (by rfl) (by rfl) (by first | exact Or.inl rfl | exact Or.inr (Or.inl rfl) | exact Or.inr (Or.inr rfl)) (by rfl) (by rfl) ?_ | refine nAt 8 (by rfl) (by rfl) (by first | exact Or.inl rfl | exact Or.inr (Or.inl rfl) | exact Or.inr (Or.inr rfl)) (by rfl) (by rfl) ?_) | refine sCons ?_ | refine sNil ?_ | refine sIf ?_ | refine sRet ?_ | (refine sStore ?_; first | refine stAt 0 (by rfl) ?_ (by assumption) (by first | exact Or.inl rfl | exact Or.inr rfl) (by rfl) (by first | exact Or.inl rfl | exact Or.inr rfl) | refine stAt 1 (by rfl) ?_ (by assumption) (by first | exact Or.inl rfl | exact Or.inr rfl) (by rfl) (by first | exact Or.inl rfl | exact Or.inr rfl) | refine stAt 2 (by rfl) ?_ (by assumption) (by first | exact Or.inl rfl | exact Or.inr rfl) (by rfl) (by first | exact Or.inl rfl | exact Or.inr rfl) | refine stAt 3 (by rfl) ?_ (by assumption) (by first | exact Or.inl rfl | exact Or.inr rfl) (by rfl) (by first | exact Or.inl rfl | exact Or.inr rfl) | refine stAt 4 (by rfl) ?_ (by assumption) (by first | exact Or.inl rfl | exact Or.inr rfl) (by rfl) (by first | exact Or.inl rfl | exact Or.inr rfl) | refine stAt 5 (by rfl) ?_ (by assumption) (by first | exact Or.inl rfl | exact Or.inr rfl) (by rfl) (by first | exact Or.inl rfl | exact Or.inr rfl) | refine stAt 6 (by rfl) ?_ (by assumption) (by first | exact Or.inl rfl | exact Or.inr rfl) (by rfl) (by first | exact Or.inl rfl | exact Or.inr rfl) | refine stAt 7 (by rfl) ?_ (by assumption) (by first | exact Or.inl rfl | exact Or.inr rfl) (by rfl) (by first | exact Or.inl rfl | exact Or.inr rfl) | refine stAt 8 (by rfl) ?_ (by assumption) (by first | exact Or.inl rfl | exact Or.inr rfl) (by rfl) (by first | exact Or.inl rfl | exact Or.inr rfl)) | refine sExpr ?_
  | refine aNil ?_ | refine aCons ?_ | refine eBl ?_ | refine eNon ?_ | refine eBin ?_ | refine eCmp ?_ | refine eIx ?_ | refine eTup ?_ | refine eLst ?_ | refine eChain ?_
  | refine eSl ?_ | refine oNone ?_ | refine oSome ?_ | refine eNot ?_ | refine eUn ?_ | refine eAnd ?_ | refine eOr ?_ | refine eOne ?_ | refine eIf ?_
  | refine tCmp ?_ | refine tChain ?_ | refine tNot ?_ | refine pAnd1 ?_ | refine pOr1 ?_ | refine pAnd ?_ | refine pOr ?_
  | refine kLen (by assumption) ?_ | refine kAbs (by assumption) ?_ | refine kInt (by assumption) ?_ | refine kList (by assumption) ?_ | refine kTuple (by assumption) ?_ | refine kAll (by assumption) ?_ | refine kIsi (by assumption) ?_
  | refine tyInt (by assumption) ?_ | refine tyBool (by assumption) ?_ | refine tyStr (by assumption) ?_ | refine tyTuple (by assumption) ?_ | refine tyList (by assumption) ?_
  | refine eCall (by assumption) (by assumption) (by decide) ?_ | refine eGlobI (by assumption) ?_
  | refine tPb ?_
  | refine bAdd ?_ | refine bSub ?_ | refine uNeg ?_ | refine cLt ?_ | refine cLe ?_ | refine cGt ?_ | refine cGe ?_ | refine cEq (by rfl) ?_ | refine cNe (by rfl) ?_
  | refine fInt ?_ | refine fAbs ?_
  | refine kIsascii ?_ | refine kIsalnum ?_ | refine kIsalpha ?_ | refine kIslower ?_
  | refine ⟨rfl, mIsascii ?_⟩ | refine ⟨rfl, mIsalnum ?_⟩ | refine ⟨rfl, mIsalpha ?_⟩ | refine ⟨rfl, mIslower ?_⟩
  | refine gsNil ?_ | refine gsCons ?_ | (first | refine gNm 0 (by rfl) ?_ (by assumption) (by first | exact Or.inl rfl | exact Or.inr rfl) (by first | exact Or.inl rfl | exact Or.inr rfl) | refine gNm 1 (by rfl) ?_ (by assumption) (by first | exact Or.inl rfl | exact Or.inr rfl) (by first | exact Or.inl rfl | exact Or.inr rfl) | refine gNm 2 (by rfl) ?_ (by assumption) (by first | exact Or.inl rfl | exact Or.inr rfl) (by first | exact Or.inl rfl | exact Or.inr rfl) | refine gNm 3 (by rfl) ?_ (by assumption) (by first | exact Or.inl rfl | exact Or.inr rfl) (by first | exact Or.inl rfl | exact Or.inr rfl) | refine gNm 4 (by rfl) ?_ (by assumption) (by first | exact Or.inl rfl | exact Or.inr rfl) (by first | exact Or.inl rfl | exact Or.inr rfl) | refine gNm 5 (by rfl) ?_ (by assumption) (by first | exact Or.inl rfl | exact Or.inr rfl) (by first | exact Or.inl rfl | exact Or.inr rfl) | refine gNm 6 (by rfl) ?_ (by assumption) (by first | exact Or.inl rfl | exact Or.inr rfl) (by first | exact Or.inl rfl | exact Or.inr rfl) | refine gNm 7 (by rfl) ?_ (by assumption) (by first | exact Or.inl rfl | exact Or.inr rfl) (by first | exact Or.inl rfl | exact Or.inr rfl) | refine gNm 8 (by rfl) ?_ (by assumption) (by first | exact Or.inl rfl | exact Or.inr rfl) (by first | exact Or.inl rfl | exact Or.inr rfl)))
theorem cNotInS {X : Cx} {H : Hp} {Q : VK} {c : Nat} {z : Str} (h : Q (.bl (!decide (c ∈ z.cps.toList))) H) : wC X .NotIn (.str ⟨#[c]⟩) (.str z) H Q := ⟨_, op_notIn_sign, c, z, rfl, rfl, h⟩
theorem cInS {X : Cx} {H : Hp} {Q : VK} {c : Nat} {z : Str} (h : Q (.bl (decide (c ∈ z.cps.toList))) H) : wC X .In (.str ⟨#[c]⟩) (.str z) H Q := ⟨_, op_in_sign, c, z, rfl, rfl, h⟩
theorem mem_let (c : Nat) : decide (c ∈ (Str.ofString "abcdefghijklmnopqrstuvwxyz").cps.toList) = isLet c := by
  have e : (Str.ofString "abcdefghijklmnopqrstuvwxyz").cps.toList = [97, 98, 99, 100, 101, 102, 103, 104, 105, 106, 107, 108, 109, 110, 111, 112, 113, 114, 115, 116, 117, 118, 119, 120, 121, 122] := by decide +kernel
  rw [e]
  unfold isLet
  rw [← Bool.decide_and]
  refine decide_eq_decide.mpr ?_
  simp only [List.mem_cons, List.not_mem_nil, or_false]
  omega
theorem mem_both (c : Nat) : decide (c ∈ ((Str.ofString "abcdefghijklmnopqrstuvwxyz" ++ Str.ofString "0123456789" : Str)).cps.toList) = (isLet c || isDig c) := by
  have e : ((Str.ofString "abcdefghijklmnopqrstuvwxyz" ++ Str.ofString "0123456789" : Str)).cps.toList = [97, 98, 99, 100, 101, 102, 103, 104, 105, 106, 107, 108, 109, 110, 111, 112, 113, 114, 115, 116, 117, 118, 119, 120, 121, 122, 48, 49, 50, 51, 52, 53, 54, 55, 56, 57] := by decide +kernel
  rw [e]
  unfold isLet isDig
  rw [← Bool.decide_and, ← Bool.decide_and, ← Bool.decide_or]
  refine decide_eq_decide.mpr ?_
  simp only [List.mem_cons, List.not_mem_nil, or_false]
  omega
abbrev sLNum : Stmt := topS 19
abbrev sLAtom : Stmt := topS 20
abbrev sLNode : Stmt := topS 21
abbrev sLDue : Stmt := topS 22
theorem scLNum : FnScope ["value", "low", "high"] ["value", "low", "high"] (defScope sLNum) := ⟨rfl, rfl, rfl, by decide +kernel, rfl, by decide +kernel, by decide +kernel⟩
theorem scLAtom : FnScope ["value", "letters", "sign"] ["value"] (defScope sLAtom) := ⟨rfl, rfl, rfl, by decide +kernel, rfl, by decide +kernel, by decide +kernel⟩
theorem scLNode : FnScope ["node", "many", "part"] ["node", "many"] (defScope sLNode) := ⟨rfl, rfl, rfl, by decide +kernel, rfl, by decide +kernel, by decide +kernel⟩
theorem scLDue : FnScope ["value", "node"] ["value"] (defScope sLDue) := ⟨rfl, rfl, rfl, by decide +kernel, rfl, by decide +kernel, by decide +kernel⟩
section
variable {P : Program} {w : World} {K : PySem.W.Frag} {mg : Str → Option Value} {base : Heap}
theorem ok_lnum {f : Addr} {fd : FuncData} (F : Fun K "_law_is_number" "_law_is_number" sLNum f fd) (hm : mg "_law_is_number" = some (.ref f)) (bd : Binds K fd ["value", "low", "high"] []) (m1 : mg "isinstance" = none) (m2 : mg "int" = none) (m3 : mg "bool" = none) : Cl P w K mg base 1 "_law_is_number" (spInt K) := by
  refine cl_mk (sc := ?sc) (body := ?body) F hm bd scLNum ?hsc ?hb (fun vs H Q E h => ?_) (fun cdv A outer s H vs Q E hr nd h => ?_)
  case hsc => conv => lhs; whnf
  case hb => conv => lhs; whnf
  · obtain ⟨v, lo, hi, d, rfl, _⟩ := h
    rfl
  · obtain ⟨v, lo, hi, d, rfl, hd, q⟩ := h
    repeat none_booked
    refine fIsInt hd ?_
    refine ⟨_, rfl, ?_⟩
    cases hi1 : isInt d with
    | false =>
      rw [if_neg Bool.false_ne_true]
      have e : numOk lo hi d = false := by cases d <;> first | rfl | cases hi1
      have q' := q H (Same.refl _)
      rw [e] at q'
      exact q'
    | true =>
      rw [if_pos rfl]
      repeat none_booked
      refine fIsBool hd ?_
      refine ⟨_, rfl, ?_⟩
      refine ⟨_, rfl, ?_⟩
      cases hd with
      | bl b =>
        rw [if_neg (by show ¬ (!true) = true; decide)]
        exact q H (Same.refl _)
      | int i =>
        rw [if_pos (by rfl)]
        repeat none_booked
        refine ⟨_, rfl, ?_⟩
        have q' := q H (Same.refl _)
        refine ite2' (fun h1 => ?_) (fun h1 => ?_)
        · repeat none_booked
          rw [show numOk lo hi (.int i) = (decide (lo ≤ i) && decide (i ≤ hi)) from rfl, decide_eq_true h1, Bool.true_and] at q'
          exact q'
        · rw [show numOk lo hi (.int i) = (decide (lo ≤ i) && decide (i ≤ hi)) from rfl, decide_eq_false h1, Bool.false_and] at q'
          exact q'
      | _ => cases hi1
theorem ok_latom {f : Addr} {fd : FuncData} (F : Fun K "_law_is_atom" "_law_is_atom" sLAtom f fd) (hm : mg "_law_is_atom" = some (.ref f)) (bd : Binds K fd ["value"] []) (m1 : mg "isinstance" = none) (m2 : mg "str" = none) (m3 : mg "len" = none) (m5 : mg "all" = none) : Cl P w K mg base 1 "_law_is_atom" (spAtom K) := by
  refine cl_mk (sc := ?sc) (body := ?body) F hm bd scLAtom ?hsc ?hb (fun vs H Q E h => ?_) (fun cdv A outer s H vs Q E hr nd h => ?_)
  case hsc => conv => lhs; whnf
  case hb => conv => lhs; whnf
  · obtain ⟨v, d, rfl, _⟩ := h
    rfl
  · obtain ⟨v, d, rfl, hd, hz, q⟩ := h
    have q' := q H (Same.refl _)
    repeat none_booked
    refine tVal ?_
    repeat none_booked
    refine fIsStr hd ?_
    refine ⟨_, rfl, ?_⟩
    cases hd with
    | str z =>
      have hz' := hz z rfl
      rw [if_neg (by show ¬ (!true) = true; decide)]
      repeat none_booked
      refine fLenS (le_line (by omega)) ?_
      repeat none_booked
      refine ⟨_, rfl, ?_⟩
      refine ite2' (fun h1 => ?_) (fun h1 => ?_)
      · repeat none_booked
        refine ⟨_, rfl, ?_⟩
        by_cases h2 : ((z.length : Nat) : Int) ≤ 12
        · rw [decide_eq_true h2, if_neg (by show ¬ (!true) = true; decide)]
          obtain ⟨c, r, hs⟩ : ∃ c r, z.cps.toList = c :: r := by
            cases e : z.cps.toList with
            | nil =>
              have : z.length = 0 := by show z.cps.size = 0; rw [← Array.length_toList, e]; rfl
              omega
            | cons c r => exact ⟨c, r, rfl⟩
          repeat none_booked
          refine xS (cc := c) (le_line (by omega)) (by rw [hs]; exact atI_nat (j := 0) rfl) ?_
          repeat none_booked
          refine cNotInS ?_
          refine ⟨_, rfl, ?_⟩
          rw [mem_let]
          have ae : ∀ H', Same H H' → Q (.bl (isLet c && (c :: r).all fun c => isLet c || isDig c)) H' := fun H' s' => by
            have q3 := q H' s'
            have e : atomOk (.str z) = (isLet c && (c :: r).all fun c => isLet c || isDig c) := by
              show strAtom z = _
              unfold strAtom
              rw [decide_eq_true (show 1 ≤ z.length by omega), decide_eq_true (show z.length ≤ 12 by omega), hs]
              rfl
            rw [e] at q3
            exact q3
          cases hlet : isLet c with
          | false =>
            rw [if_pos (by rfl)]
            have q2 := ae H (Same.refl _)
            rw [hlet] at q2
            repeat none_booked
          | true =>
            rw [if_neg (by show ¬ (!true) = true; decide)]
            repeat none_booked
            refine eLcS 2 ?_ (by rfl) (by assumption) (by intros; rfl) (blkOk_by (by rfl))
            repeat none_booked
            refine ⟨z, ((c :: r).map fun c => isLet c || isDig c).map V.bl, rfl, by rw [List.length_map, List.length_map, ← hs, Array.length_toList], by rw [List.length_map, List.length_map, ← hs, Array.length_toList]; exact hz', fun i c2 y H2 hc2 hy s2 Q2 q2 => ?_, fun D H2 hD s2 hD2 => ?_⟩
            · intro s0 H0 C cl fp
              repeat none_booked
              refine bAddS (le_line (by decide +kernel)) ?_
              refine cInS ?_
              rw [mem_both]
              have e : y = V.bl (isLet c2 || isDig c2) := by
                have g : (c :: r)[i]? = some c2 := by
                  rw [← hs, Array.getElem?_toList]
                  exact hc2
                rw [List.getElem?_map, List.getElem?_map, g] at hy
                exact (Option.some.inj hy).symm
              rw [← e]
              exact q2 H2 (Same.refl _)
            · repeat none_booked
              refine fAll (SqL.of hD2) ?_
              have q3 := ae H2 s2
              rw [hlet, Bool.true_and] at q3
              rw [List.all_map]
              exact q3
        · rw [decide_eq_false h2, if_pos (by rfl)]
          have e : atomOk (.str z) = false := by
            show strAtom z = false
            unfold strAtom
            rw [decide_eq_false (show ¬ z.length ≤ 12 by omega)]
            simp
          rw [e] at q'
          repeat none_booked
      · refine ⟨_, rfl, ?_⟩
        rw [if_pos (by rfl)]
        have e : atomOk (.str z) = false := by
          show strAtom z = false
          unfold strAtom
          rw [decide_eq_false (show ¬ 1 ≤ z.length by omega)]
          simp
        rw [e] at q'
        repeat none_booked
    | _ =>
      rw [if_pos (by rfl)]
      repeat none_booked
end
end K1

namespace K1
open PySem PySem.Spec PyProof.Rows L2 Wk
local macro_rules | `(tactic| none_booked) => `(tactic| first
  | refine eInt ?_ | refine eStr ?_ | (refine eNm ?_; first | refine nAt 0 (by rfl) (by rfl) (by first | exact Or.inl rfl | exact Or.inr (Or.inl rfl) | exact Or.inr (Or.inr rfl)) (by rfl) (by rfl) ?_ | refine nAt 1 (by rfl) (by rfl) (by first | exact Or.inl rfl | exact Or.inr (Or.inl rfl) | exact Or.inr (Or.inr rfl)) (by rfl) (by rfl) ?_ | refine nAt 2 (by rfl) (by rfl) (by first | exact Or.inl rfl | exact Or.inr (Or.inl rfl) | exact Or.inr (Or.inr rfl)) (by rfl) (by rfl) ?_ | refine nAt 3 (by rfl) (by rfl) (by first | exact Or.inl rfl | exact Or.inr (Or.inl rfl) | exact Or.inr (Or.inr rfl)) (by rfl) (by rfl) ?_ | refine nAt 4 (by rfl) (by rfl) (by first | exact Or.inl rfl | exact Or.inr (Or.inl rfl) | exact Or.inr (Or.inr rfl)) (by rfl) (by rfl) ?_ | refine nAt 5 (by rfl) (by rfl) (by first | exact Or.inl rfl | exact Or.inr (Or.inl rfl) | exact Or.inr (Or.inr rfl)) (by rfl) (by rfl) ?_ | refine nAt 6 (by rfl) (by rfl) (by first | exact Or.inl rfl | exact Or.inr (Or.inl rfl) | exact Or.inr (Or.inr rfl)) (by rfl) (by rfl) ?_ | refine nAt 7 (by rfl) (by rfl) (by first | exact Or.inl rfl | exact Or.inr (Or.inl rfl) | exact Or.inr (Or.inr rfl)) (by rfl) (by rfl) ?_ | refine nAt 8 (by rfl) (by rfl) (by first | exact Or.inl rfl | exact Or.inr (Or.inl rfl) | exact Or.inr (Or.inr rfl)) (by rfl) (by rfl) ?_) | refine sCons ?_ | refine sNil ?_ | refine sIf ?_ | refine sRet ?_ | (refine sStore ?_; first | refine stAt 0 (by rfl) ?_ (by assumption) (by first | exact Or.inl rfl | exact Or.inr rfl) (by rfl) (by first | exact Or.inl rfl | exact Or.inr rfl) | refine stAt 1 (by rfl) ?_ (by assumption) (by first | exact Or.inl rfl | exact Or.inr rfl) (by rfl) (by first | exact Or.inl rfl | exact Or.inr rfl) | refine stAt 2 (by rfl) ?_ (by assumption) (by first | exact Or.inl rfl | exact Or.inr rfl) (by rfl) (by first | exact Or.inl rfl | exact Or.inr rfl) | refine stAt 3 (by rfl) ?_ (by assumption) (by first | exact Or.inl rfl | exact Or.inr rfl) (by rfl) (by first | exact Or.inl rfl | exact Or.inr rfl) | refine stAt 4 (by rfl) ?_ (by assumption) (by first | exact Or.inl rfl | exact Or.inr rfl) (by rfl) (by first | exact Or.inl rfl | exact Or.inr rfl) | refine stAt 5 (by rfl) ?_ (by assumption) (by first | exact Or.inl rfl | exact Or.inr rfl) (by rfl) (by first | exact Or.inl rfl | exact Or.inr rfl) | refine stAt 6 (by rfl) ?_ (by assumption) (by first | exact Or.inl rfl | exact Or.inr rfl) (by rfl) (by first | exact Or.inl rfl | exact Or.inr rfl) | refine stAt 7 (by rfl) ?_ (by assumption) (by first | exact Or.inl rfl | exact Or.inr rfl) (by rfl) (by first | exact Or.inl rfl | exact Or.inr rfl) | refine stAt 8 (by rfl) ?_ (by assumption) (by first | exact Or.inl rfl | exact Or.inr rfl) (by rfl) (by first | exact Or.inl rfl | exact Or.inr rfl)) | refine sExpr ?_
  | refine aNil ?_ | refine aCons ?_ | refine eBl ?_ | refine eNon ?_ | refine eBin ?_ | refine eCmp ?_ | refine eIx ?_ | refine eTup ?_ | refine eLst ?_ | refine eChain ?_
  | refine eSl ?_ | refine oNone ?_ | refine oSome ?_ | refine eNot ?_ | refine eUn ?_ | refine eAnd ?_ | refine eOr ?_ | refine eOne ?_ | refine eIf ?_
  | refine tCmp ?_ | refine tChain ?_ | refine tNot ?_ | refine pAnd1 ?_ | refine pOr1 ?_ | refine pAnd ?_ | refine pOr ?_
  | refine kLen (by assumption) ?_ | refine kAbs (by assumption) ?_ | refine kInt (by assumption) ?_ | refine kList (by assumption) ?_ | refine kTuple (by assumption) ?_ | refine kAll (by assumption) ?_ | refine kIsi (by assumption) ?_
  | refine tyInt (by assumption) ?_ | refine tyBool (by assumption) ?_ | refine tyStr (by assumption) ?_ | refine tyTuple (by assumption) ?_ | refine tyList (by assumption) ?_
  | refine eCall (by assumption) (by assumption) (by decide) ?_ | refine eGlobI (by assumption) ?_
  | refine tPb ?_
  | refine bAdd ?_ | refine bSub ?_ | refine uNeg ?_ | refine cLt ?_ | refine cLe ?_ | refine cGt ?_ | refine cGe ?_ | refine cEq (by rfl) ?_ | refine cNe (by rfl) ?_
  | refine fInt ?_ | refine fAbs ?_
  | refine kIsascii ?_ | refine kIsalnum ?_ | refine kIsalpha ?_ | refine kIslower ?_
  | refine ⟨rfl, mIsascii ?_⟩ | refine ⟨rfl, mIsalnum ?_⟩ | refine ⟨rfl, mIsalpha ?_⟩ | refine ⟨rfl, mIslower ?_⟩
  | refine gsNil ?_ | refine gsCons ?_ | (first | refine gNm 0 (by rfl) ?_ (by assumption) (by first | exact Or.inl rfl | exact Or.inr rfl) (by first | exact Or.inl rfl | exact Or.inr rfl) | refine gNm 1 (by rfl) ?_ (by assumption) (by first | exact Or.inl rfl | exact Or.inr rfl) (by first | exact Or.inl rfl | exact Or.inr rfl) | refine gNm 2 (by rfl) ?_ (by assumption) (by first | exact Or.inl rfl | exact Or.inr rfl) (by first | exact Or.inl rfl | exact Or.inr rfl) | refine gNm 3 (by rfl) ?_ (by assumption) (by first | exact Or.inl rfl | exact Or.inr rfl) (by first | exact Or.inl rfl | exact Or.inr rfl) | refine gNm 4 (by rfl) ?_ (by assumption) (by first | exact Or.inl rfl | exact Or.inr rfl) (by first | exact Or.inl rfl | exact Or.inr rfl) | refine gNm 5 (by rfl) ?_ (by assumption) (by first | exact Or.inl rfl | exact Or.inr rfl) (by first | exact Or.inl rfl | exact Or.inr rfl) | refine gNm 6 (by rfl) ?_ (by assumption) (by first | exact Or.inl rfl | exact Or.inr rfl) (by first | exact Or.inl rfl | exact Or.inr rfl) | refine gNm 7 (by rfl) ?_ (by assumption) (by first | exact Or.inl rfl | exact Or.inr rfl) (by first | exact Or.inl rfl | exact Or.inr rfl) | refine gNm 8 (by rfl) ?_ (by assumption) (by first | exact Or.inl rfl | exact Or.inr rfl) (by first | exact Or.inl rfl | exact Or.inr rfl)))
theorem isW_str (z x : Str) : isW (.str z) x = decide (V.str z = V.str x) := by
  show (z == x) = _
  by_cases h : z = x
  · rw [h, decide_eq_true rfl]; simp
  · rw [decide_eq_false fun q => h (V.str.inj q)]; exact beq_eq_false_iff_ne.mpr h
theorem isW_no {k : PyData} (h : isStr k = false) (x : Str) : isW k x = false := by cases k <;> first | rfl | cases h
theorem nodeOk_no {n : Int} {k x : PyData} {r : List PyData} (h : ∀ y, isW k y = false) : nodeOk n (.tuple (k :: x :: r)) = false := by
  match r with
  | [] =>
    show (if isW k "var" = true then numOk 0 1000000000 x else if isW k "int" = true then numOk (-1000000000) 1000000000 x else isW k "atom" && atomOk x) = false
    rw [h, h, h]; rfl
  | [a] =>
    show (atomOk x && (if isW k "name" = true then numOk 0 1000000000 a else isW k "tuple" && partsOk n a)) = false
    rw [h, h]; simp
  | _ :: _ :: _ => rfl
theorem nodeOk_var {n : Int} {x : PyData} {r : List PyData} : nodeOk n (.tuple (.str "var" :: x :: r)) = (decide (r.length = 0) && numOk 0 1000000000 x) := by
  match r with
  | [] =>
    show (if isW (.str "var") "var" = true then numOk 0 1000000000 x else if isW (.str "var") "int" = true then numOk (-1000000000) 1000000000 x else isW (.str "var") "atom" && atomOk x) = _
    rw [if_pos (by decide +kernel)]; rfl
  | [a] =>
    show (atomOk x && (if isW (.str "var") "name" = true then numOk 0 1000000000 a else isW (.str "var") "tuple" && partsOk n a)) = _
    rw [if_neg (by decide +kernel), show isW (.str "var") "tuple" = false by decide +kernel]; simp
  | _ :: _ :: _ => simp [nodeOk]
theorem nodeOk_int {n : Int} {x : PyData} {r : List PyData} : nodeOk n (.tuple (.str "int" :: x :: r)) = (decide (r.length = 0) && numOk (-1000000000) 1000000000 x) := by
  match r with
  | [] =>
    show (if isW (.str "int") "var" = true then numOk 0 1000000000 x else if isW (.str "int") "int" = true then numOk (-1000000000) 1000000000 x else isW (.str "int") "atom" && atomOk x) = _
    rw [if_neg (by decide +kernel), if_pos (by decide +kernel)]; rfl
  | [a] =>
    show (atomOk x && (if isW (.str "int") "name" = true then numOk 0 1000000000 a else isW (.str "int") "tuple" && partsOk n a)) = _
    rw [if_neg (by decide +kernel), show isW (.str "int") "tuple" = false by decide +kernel]; simp
  | _ :: _ :: _ => simp [nodeOk]
theorem nodeOk_atom {n : Int} {x : PyData} {r : List PyData} : nodeOk n (.tuple (.str "atom" :: x :: r)) = (decide (r.length = 0) && atomOk x) := by
  match r with
  | [] =>
    show (if isW (.str "atom") "var" = true then numOk 0 1000000000 x else if isW (.str "atom") "int" = true then numOk (-1000000000) 1000000000 x else isW (.str "atom") "atom" && atomOk x) = _
    rw [if_neg (by decide +kernel), if_neg (by decide +kernel), show isW (.str "atom") "atom" = true by decide +kernel]; rfl
  | [a] =>
    show (atomOk x && (if isW (.str "atom") "name" = true then numOk 0 1000000000 a else isW (.str "atom") "tuple" && partsOk n a)) = _
    rw [if_neg (by decide +kernel), show isW (.str "atom") "tuple" = false by decide +kernel]; simp
  | _ :: _ :: _ => simp [nodeOk]
theorem nodeOk_else {n : Int} {z : Str} {x : PyData} {r : List PyData} (h1 : z ≠ "var") (h2 : z ≠ "int") (h3 : z ≠ "atom") (hr : r.length ≠ 1) : nodeOk n (.tuple (.str z :: x :: r)) = false := by
  match r, hr with
  | [], _ =>
    show (if isW (.str z) "var" = true then numOk 0 1000000000 x else if isW (.str z) "int" = true then numOk (-1000000000) 1000000000 x else isW (.str z) "atom" && atomOk x) = _
    rw [isW_str, isW_str, isW_str, decide_eq_false fun q => h1 (V.str.inj q), decide_eq_false fun q => h2 (V.str.inj q), decide_eq_false fun q => h3 (V.str.inj q)]; rfl
  | [a], hr => exact absurd rfl hr
  | _ :: _ :: _, _ => rfl
theorem nodeOk_3 {n : Int} {z : Str} {x a : PyData} : nodeOk n (.tuple [.str z, x, a]) = (atomOk x && (if decide (V.str z = V.str "name") = true then numOk 0 1000000000 a else decide (V.str z = V.str "tuple") && partsOk n a)) := by
  show (atomOk x && (if isW (.str z) "name" = true then numOk 0 1000000000 a else isW (.str z) "tuple" && partsOk n a)) = _
  rw [isW_str, isW_str]
section
variable {P : Program} {w : World} {K : PySem.W.Frag} {mg : Str → Option Value} {base : Heap}
theorem ok_lnode {f : Addr} {fd : FuncData} (F : Fun K "_law_is_node" "_law_is_node" sLNode f fd) (hm : mg "_law_is_node" = some (.ref f)) (bd : Binds K fd ["node", "many"] []) (c1 : Cl P w K mg base 1 "_law_is_number" (spInt K)) (c2 : Cl P w K mg base 1 "_law_is_atom" (spAtom K)) (m1 : mg "isinstance" = none) (m2 : mg "tuple" = none) (m3 : mg "len" = none) (m4 : mg "str" = none) (m5 : mg "all" = none) : Cl P w K mg base 2 "_law_is_node" (spNode K) := by
  refine cl_mk (sc := ?sc) (body := ?body) F hm bd scLNode ?hsc ?hb (fun vs H Q E h => ?_) (fun cdv A outer s H vs Q E hr nd h => ?_)
  case hsc => conv => lhs; whnf
  case hb => conv => lhs; whnf
  · obtain ⟨v, n, x, rfl, _⟩ := h
    rfl
  · obtain ⟨v, n, x, rfl, hd, hf, q⟩ := h
    repeat none_booked
    refine tVal ?_
    repeat none_booked
    refine fIsTup hd ?_
    refine ⟨_, rfl, ?_⟩
    cases hx : isTup x with
    | false =>
      rw [if_pos (by rfl)]
      have e : nodeOk n x = false := by cases x <;> first | rfl | cases hx
      have q' := q H (Same.refl _)
      rw [e] at q'
      repeat none_booked
    | true =>
      rw [if_neg (by show ¬ (!true) = true; decide)]
      cases hd with
      | tup hs ha =>
        rename_i a xs ds
        have hl := dpAll_len ha
        repeat none_booked
        refine fLenT hs ?_
        repeat none_booked
        refine ⟨_, rfl, ?_⟩
        refine ite2' (fun h1 => ?_) (fun h1 => ?_)
        · have q' := q H (Same.refl _)
          rw [nodeOk_long (by omega) (by omega)] at q'
          repeat none_booked
        · obtain ⟨k, x, r, rfl⟩ : ∃ k x r, ds = k :: x :: r := by
            match ds, h1, hl with
            | [], h1, hl => rw [hl] at h1; simp at h1
            | [_], h1, hl => rw [hl] at h1; simp at h1
            | k :: x :: r, _, _ => exact ⟨k, x, r, rfl⟩
          have fk : Fine k := hf.tup.2 k (by simp)
          have fx : Fine x := hf.tup.2 x (by simp)
          obtain ⟨v1, v2, vr, rfl, d1, d2, dr⟩ : ∃ v1 v2 vr, xs = v1 :: v2 :: vr ∧ Dp K H v1 k ∧ Dp K H v2 x ∧ DpAll K H vr r := by
            cases ha with
            | cons d1 r1 =>
              cases r1 with
              | cons d2 r2 => exact ⟨_, _, _, rfl, d1, d2, r2⟩
          have hlr := dpAll_len dr
          repeat none_booked
          refine tVal ?_
          repeat none_booked
          refine xT hs (atI_nat (j := 0) rfl) ?_
          repeat none_booked
          refine fIsStr d1 ?_
          refine ⟨_, rfl, ?_⟩
          cases hk : isStr k with
          | false =>
            rw [show (!false) = true from rfl]
            have q' := q H (Same.refl _)
            rw [nodeOk_no (isW_no hk)] at q'
            repeat none_booked
          | true =>
            rw [if_neg (by show ¬ (!true) = true; decide)]
            cases d1 with
            | str z =>
              repeat none_booked
              refine xT hs (atI_nat (j := 0) rfl) ?_
              repeat none_booked
              refine ⟨_, rfl, ?_⟩
              refine ite2' (fun hv => ?_) (fun hv => ?_)
              · have ez := V.str.inj hv
                subst ez
                rw [nodeOk_var] at q
                repeat none_booked
                refine fLenT hs ?_
                repeat none_booked
                refine ⟨_, rfl, ?_⟩
                refine ite2' (fun h2 => ?_) (fun h2 => ?_)
                · have e2 : r.length = 0 := by have := V.int.inj h2; simp only [List.length_cons] at this; omega
                  rw [decide_eq_true e2, Bool.true_and] at q
                  repeat none_booked
                  refine xT hs (atI_nat (j := 1) rfl) ?_
                  repeat none_booked
                  refine bPow ⟨by decide, by decide, by decide⟩ ?_
                  repeat none_booked
                  exact ⟨_, _, _, x, rfl, d2, q⟩
                · have e2 : r.length ≠ 0 := fun z => h2 (congrArg V.int (by simp only [List.length_cons]; omega))
                  have q' := q H (Same.refl _)
                  rw [decide_eq_false e2] at q'
                  exact q'
              · repeat none_booked
                refine xT hs (atI_nat (j := 0) rfl) ?_
                repeat none_booked
                refine ⟨_, rfl, ?_⟩
                refine ite2' (fun hi => ?_) (fun hi => ?_)
                · have ez := V.str.inj hi
                  subst ez
                  rw [nodeOk_int] at q
                  repeat none_booked
                  refine fLenT hs ?_
                  repeat none_booked
                  refine ⟨_, rfl, ?_⟩
                  refine ite2' (fun h2 => ?_) (fun h2 => ?_)
                  · have e2 : r.length = 0 := by have := V.int.inj h2; simp only [List.length_cons] at this; omega
                    rw [decide_eq_true e2, Bool.true_and] at q
                    repeat none_booked
                    refine xT hs (atI_nat (j := 1) rfl) ?_
                    repeat none_booked
                    refine bPow ⟨by decide, by decide, by decide⟩ ?_
                    repeat none_booked
                    refine bPow ⟨by decide, by decide, by decide⟩ ?_
                    repeat none_booked
                    exact ⟨_, _, _, x, rfl, d2, q⟩
                  · have e2 : r.length ≠ 0 := fun z => h2 (congrArg V.int (by simp only [List.length_cons]; omega))
                    have q' := q H (Same.refl _)
                    rw [decide_eq_false e2] at q'
                    exact q'
                · repeat none_booked
                  refine xT hs (atI_nat (j := 0) rfl) ?_
                  repeat none_booked
                  refine ⟨_, rfl, ?_⟩
                  refine ite2' (fun hat => ?_) (fun hat => ?_)
                  · have ez := V.str.inj hat
                    subst ez
                    rw [nodeOk_atom] at q
                    repeat none_booked
                    refine fLenT hs ?_
                    repeat none_booked
                    refine ⟨_, rfl, ?_⟩
                    refine ite2' (fun h2 => ?_) (fun h2 => ?_)
                    · have e2 : r.length = 0 := by have := V.int.inj h2; simp only [List.length_cons] at this; omega
                      rw [decide_eq_true e2, Bool.true_and] at q
                      repeat none_booked
                      refine xT hs (atI_nat (j := 1) rfl) ?_
                      repeat none_booked
                      exact ⟨_, x, rfl, d2, fun z hz => by rw [hz] at fx; exact fx.str, q⟩
                    · have e2 : r.length ≠ 0 := fun z => h2 (congrArg V.int (by simp only [List.length_cons]; omega))
                      have q' := q H (Same.refl _)
                      rw [decide_eq_false e2] at q'
                      exact q'
                  · repeat none_booked
                    refine fLenT hs ?_
                    repeat none_booked
                    refine ⟨_, rfl, ?_⟩
                    by_cases h3 : r.length = 1
                    · obtain ⟨y, rfl⟩ : ∃ y, r = [y] := by
                        match r, h3 with
                        | [y], _ => exact ⟨y, rfl⟩
                      obtain ⟨v3, rfl, d3⟩ : ∃ v3, vr = [v3] ∧ Dp K H v3 y := by
                        cases dr with
                        | cons d3 r3 =>
                          cases r3 with
                          | nil => exact ⟨_, rfl, d3⟩
                      have fy : Fine y := hf.tup.2 y (by simp)
                      rw [nodeOk_3] at q
                      rw [decide_eq_true (by rfl), if_neg (by show ¬ (!true) = true; decide)]
                      repeat none_booked
                      refine tVal ?_
                      repeat none_booked
                      refine xT hs (atI_nat (j := 1) rfl) ?_
                      repeat none_booked
                      refine ⟨_, x, rfl, d2, fun z hz => by rw [hz] at fx; exact fx.str, fun H1 s1 => ?_⟩
                      refine ⟨_, rfl, ?_⟩
                      have q1 : ∀ H', Same H1 H' → _ := fun H' s' => q H' (s1.trans s')
                      have hs1 := seqT_mono s1 hs
                      have d31 := dp_mono s1 d3
                      cases ha : atomOk x with
                      | false =>
                        rw [if_pos (by rfl)]
                        have q2 := q1 H1 (Same.refl _)
                        rw [ha] at q2
                        repeat none_booked
                      | true =>
                        rw [if_neg (by show ¬ (!true) = true; decide)]
                        rw [ha] at q1
                        simp only [Bool.true_and] at q1
                        repeat none_booked
                        refine xT hs1 (atI_nat (j := 0) rfl) ?_
                        repeat none_booked
                        refine ⟨_, rfl, ?_⟩
                        refine ite2' (fun hn => ?_) (fun hn => ?_)
                        · rw [decide_eq_true hn] at q1
                          repeat none_booked
                          refine xT hs1 (atI_nat (j := 2) rfl) ?_
                          repeat none_booked
                          refine bPow ⟨by decide, by decide, by decide⟩ ?_
                          repeat none_booked
                          exact ⟨_, _, _, y, rfl, d31, q1⟩
                        · rw [decide_eq_false hn] at q1
                          repeat none_booked
                          refine xT hs1 (atI_nat (j := 0) rfl) ?_
                          repeat none_booked
                          refine ⟨_, rfl, ?_⟩
                          by_cases ht : V.str z = V.str "tuple"
                          · rw [decide_eq_true ht, if_neg (by show ¬ (!true) = true; decide)]
                            rw [decide_eq_true ht] at q1
                            have q1' : ∀ H', Same H1 H' → Q (.bl (partsOk n y)) H' := q1
                            repeat none_booked
                            refine tVal ?_
                            repeat none_booked
                            refine xT hs1 (atI_nat (j := 2) rfl) ?_
                            repeat none_booked
                            refine fIsTup d31 ?_
                            refine ⟨_, rfl, ?_⟩
                            cases hty : isTup y with
                            | false =>
                              rw [if_pos (by rfl)]
                              have e : partsOk n y = false := by cases y <;> first | rfl | cases hty
                              have q2 := q1' H1 (Same.refl _)
                              rw [e] at q2
                              repeat none_booked
                            | true =>
                              rw [if_neg (by show ¬ (!true) = true; decide)]
                              cases d31 with
                              | tup hy1 hy2 =>
                                rename_i ay xsy ps
                                have hly := dpAll_len hy2
                                have q3 : ∀ H', Same H1 H' → Q (.bl (decide (1 ≤ ps.length) && (decide (ps.length ≤ 6) && ps.all (numOk 0 (n - 1))))) H' := q1'
                                repeat none_booked
                                refine xT hs1 (atI_nat (j := 2) rfl) ?_
                                repeat none_booked
                                refine fLenT hy1 ?_
                                repeat none_booked
                                refine ⟨_, rfl, ?_⟩
                                have q4 := q3 H1 (Same.refl _)
                                refine ite2' (fun h1 => ?_) (fun h1 => ?_)
                                · repeat none_booked
                                  refine ⟨_, rfl, ?_⟩
                                  by_cases h2 : ((xsy.length : Nat) : Int) ≤ 6
                                  · rw [decide_eq_true h2, if_neg (by show ¬ (!true) = true; decide)]
                                    repeat none_booked
                                    refine eLcT 2 ?_ (by rfl) (by assumption) (by intros; rfl) (blkOk_by (by rfl))
                                    repeat none_booked
                                    refine xT hs1 (atI_nat (j := 2) rfl) ?_
                                    refine ⟨ay, xsy, (ps.map (numOk 0 (n - 1))).map V.bl, rfl, hy1, by simp [hly], by omega, fun i u y2 H2 hu hy s2 Q2 q2 => ?_, fun D H2 hD s2 hD2 => ?_⟩
                                    · intro s0 H0 C cl fp
                                      obtain ⟨d, g1, g2⟩ := dpAll_get hy2 hu
                                      repeat none_booked
                                      refine ⟨_, _, _, d, rfl, dp_mono s2 g2, fun H3 s3 => ?_⟩
                                      have e : y2 = V.bl (numOk 0 (n - 1) d) := by
                                        rw [List.getElem?_map, List.getElem?_map, g1] at hy
                                        exact (Option.some.inj hy).symm
                                      rw [← e]
                                      exact q2 H3 s3
                                    · repeat none_booked
                                      refine fAll (SqL.of hD2) ?_
                                      have q5 := q3 H2 s2
                                      rw [decide_eq_true (show 1 ≤ ps.length by omega), decide_eq_true (show ps.length ≤ 6 by omega), Bool.true_and, Bool.true_and] at q5
                                      rw [List.all_map]
                                      exact q5
                                  · rw [decide_eq_false h2, if_pos (by rfl)]
                                    rw [decide_eq_false (show ¬ ps.length ≤ 6 by omega), Bool.false_and, Bool.and_false] at q4
                                    repeat none_booked
                                · refine ⟨_, rfl, ?_⟩
                                  rw [if_pos (by rfl)]
                                  rw [decide_eq_false (show ¬ 1 ≤ ps.length by omega), Bool.false_and] at q4
                                  repeat none_booked
                              | _ => cases hty
                          · rw [decide_eq_false ht, if_pos (by rfl)]
                            have q2 := q1 H1 (Same.refl _)
                            rw [decide_eq_false ht] at q2
                            have q3 : Q (.bl false) H1 := q2
                            repeat none_booked
                    · have e3 : ¬ V.int (((V.str z :: v2 :: vr).length : Nat) : Int) = V.int 3 := fun q => h3 (by have := V.int.inj q; simp only [List.length_cons] at this; omega)
                      rw [decide_eq_false e3, if_pos (by rfl)]
                      have q' := q H (Same.refl _)
                      rw [nodeOk_else (fun e => hv (congrArg V.str e)) (fun e => hi (congrArg V.str e)) (fun e => hat (congrArg V.str e)) h3] at q'
                      repeat none_booked
            | _ => cases hk
      | _ => cases hx
end
end K1

namespace K1
open PySem PySem.Spec PyProof.Rows L2 Wk
local macro_rules | `(tactic| none_booked) => `(tactic| first
  | refine eInt ?_ | refine eStr ?_ | (refine eNm ?_; first | refine nAt 0 (by rfl) (by rfl) (by first | exact Or.inl rfl | exact Or.inr (Or.inl rfl) | exact Or.inr (Or.inr rfl)) (by rfl) (by rfl) ?_ | refine nAt 1 (by rfl) (by rfl) (by first | exact Or.inl rfl | exact Or.inr (Or.inl rfl) | exact Or.inr (Or.inr rfl)) (by rfl) (by rfl) ?_ | refine nAt 2 (by rfl) (by rfl) (by first | exact Or.inl rfl | exact Or.inr (Or.inl rfl) | exact Or.inr (Or.inr rfl)) (by rfl) (by rfl) ?_ | refine nAt 3 (by rfl) (by rfl) (by first | exact Or.inl rfl | exact Or.inr (Or.inl rfl) | exact Or.inr (Or.inr rfl)) (by rfl) (by rfl) ?_ | refine nAt 4 (by rfl) (by rfl) (by first | exact Or.inl rfl | exact Or.inr (Or.inl rfl) | exact Or.inr (Or.inr rfl)) (by rfl) (by rfl) ?_ | refine nAt 5 (by rfl) (by rfl) (by first | exact Or.inl rfl | exact Or.inr (Or.inl rfl) | exact Or.inr (Or.inr rfl)) (by rfl) (by rfl) ?_ | refine nAt 6 (by rfl) (by rfl) (by first | exact Or.inl rfl | exact Or.inr (Or.inl rfl) | exact Or.inr (Or.inr rfl)) (by rfl) (by rfl) ?_ | refine nAt 7 (by rfl) (by rfl) (by first | exact Or.inl rfl | exact Or.inr (Or.inl rfl) | exact Or.inr (Or.inr rfl)) (by rfl) (by rfl) ?_ | refine nAt 8 (by rfl) (by rfl) (by first | exact Or.inl rfl | exact Or.inr (Or.inl rfl) | exact Or.inr (Or.inr rfl)) (by rfl) (by rfl) ?_) | refine sCons ?_ | refine sNil ?_ | refine sIf ?_ | refine sRet ?_ | (refine sStore ?_; first | refine stAt 0 (by rfl) ?_ (by assumption) (by first | exact Or.inl rfl | exact Or.inr rfl) (by rfl) (by first | exact Or.inl rfl | exact Or.inr rfl) | refine stAt 1 (by rfl) ?_ (by assumption) (by first | exact Or.inl rfl | exact Or.inr rfl) (by rfl) (by first | exact Or.inl rfl | exact Or.inr rfl) | refine stAt 2 (by rfl) ?_ (by assumption) (by first | exact Or.inl rfl | exact Or.inr rfl) (by rfl) (by first | exact Or.inl rfl | exact Or.inr rfl) | refine stAt 3 (by rfl) ?_ (by assumption) (by first | exact Or.inl rfl | exact Or.inr rfl) (by rfl) (by first | exact Or.inl rfl | exact Or.inr rfl) | refine stAt 4 (by rfl) ?_ (by assumption) (by first | exact Or.inl rfl | exact Or.inr rfl) (by rfl) (by first | exact Or.inl rfl | exact Or.inr rfl) | refine stAt 5 (by rfl) ?_ (by assumption) (by first | exact Or.inl rfl | exact Or.inr rfl) (by rfl) (by first | exact Or.inl rfl | exact Or.inr rfl) | refine stAt 6 (by rfl) ?_ (by assumption) (by first | exact Or.inl rfl | exact Or.inr rfl) (by rfl) (by first | exact Or.inl rfl | exact Or.inr rfl) | refine stAt 7 (by rfl) ?_ (by assumption) (by first | exact Or.inl rfl | exact Or.inr rfl) (by rfl) (by first | exact Or.inl rfl | exact Or.inr rfl) | refine stAt 8 (by rfl) ?_ (by assumption) (by first | exact Or.inl rfl | exact Or.inr rfl) (by rfl) (by first | exact Or.inl rfl | exact Or.inr rfl)) | refine sExpr ?_
  | refine aNil ?_ | refine aCons ?_ | refine eBl ?_ | refine eNon ?_ | refine eBin ?_ | refine eCmp ?_ | refine eIx ?_ | refine eTup ?_ | refine eLst ?_ | refine eChain ?_
  | refine eSl ?_ | refine oNone ?_ | refine oSome ?_ | refine eNot ?_ | refine eUn ?_ | refine eAnd ?_ | refine eOr ?_ | refine eOne ?_ | refine eIf ?_
  | refine tCmp ?_ | refine tChain ?_ | refine tNot ?_ | refine pAnd1 ?_ | refine pOr1 ?_ | refine pAnd ?_ | refine pOr ?_
  | refine kLen (by assumption) ?_ | refine kAbs (by assumption) ?_ | refine kInt (by assumption) ?_ | refine kList (by assumption) ?_ | refine kTuple (by assumption) ?_ | refine kAll (by assumption) ?_ | refine kIsi (by assumption) ?_
  | refine tyInt (by assumption) ?_ | refine tyBool (by assumption) ?_ | refine tyStr (by assumption) ?_ | refine tyTuple (by assumption) ?_ | refine tyList (by assumption) ?_
  | refine eCall (by assumption) (by assumption) (by decide) ?_ | refine eGlobI (by assumption) ?_
  | refine tPb ?_
  | refine bAdd ?_ | refine bSub ?_ | refine uNeg ?_ | refine cLt ?_ | refine cLe ?_ | refine cGt ?_ | refine cGe ?_ | refine cEq (by rfl) ?_ | refine cNe (by rfl) ?_
  | refine fInt ?_ | refine fAbs ?_
  | refine kIsascii ?_ | refine kIsalnum ?_ | refine kIsalpha ?_ | refine kIslower ?_
  | refine ⟨rfl, mIsascii ?_⟩ | refine ⟨rfl, mIsalnum ?_⟩ | refine ⟨rfl, mIsalpha ?_⟩ | refine ⟨rfl, mIslower ?_⟩
  | refine gsNil ?_ | refine gsCons ?_ | (first | refine gNm 0 (by rfl) ?_ (by assumption) (by first | exact Or.inl rfl | exact Or.inr rfl) (by first | exact Or.inl rfl | exact Or.inr rfl) | refine gNm 1 (by rfl) ?_ (by assumption) (by first | exact Or.inl rfl | exact Or.inr rfl) (by first | exact Or.inl rfl | exact Or.inr rfl) | refine gNm 2 (by rfl) ?_ (by assumption) (by first | exact Or.inl rfl | exact Or.inr rfl) (by first | exact Or.inl rfl | exact Or.inr rfl) | refine gNm 3 (by rfl) ?_ (by assumption) (by first | exact Or.inl rfl | exact Or.inr rfl) (by first | exact Or.inl rfl | exact Or.inr rfl) | refine gNm 4 (by rfl) ?_ (by assumption) (by first | exact Or.inl rfl | exact Or.inr rfl) (by first | exact Or.inl rfl | exact Or.inr rfl) | refine gNm 5 (by rfl) ?_ (by assumption) (by first | exact Or.inl rfl | exact Or.inr rfl) (by first | exact Or.inl rfl | exact Or.inr rfl) | refine gNm 6 (by rfl) ?_ (by assumption) (by first | exact Or.inl rfl | exact Or.inr rfl) (by first | exact Or.inl rfl | exact Or.inr rfl) | refine gNm 7 (by rfl) ?_ (by assumption) (by first | exact Or.inl rfl | exact Or.inr rfl) (by first | exact Or.inl rfl | exact Or.inr rfl) | refine gNm 8 (by rfl) ?_ (by assumption) (by first | exact Or.inl rfl | exact Or.inr rfl) (by first | exact Or.inl rfl | exact Or.inr rfl)))
abbrev sDraw : Stmt := topS 14
theorem scDraw : FnScope ["stream", "many", "value"] ["stream", "many"] (defScope sDraw) := ⟨rfl, rfl, rfl, by decide +kernel, rfl, by decide +kernel, by decide +kernel⟩
section
variable {P : Program} {w : World} {K : PySem.W.Frag} {mg : Str → Option Value} {base : Heap}
def spDraw (K : PySem.W.Frag) : Sp := fun vs H Q _ => ∃ (sa la : Addr) (ns : List Int) (many : Int), vs = [.ref sa, .int many] ∧ Strm K H sa la ns ∧ 0 < many ∧ many < 1073741824 ∧ ∀ (H' : Hp) (r : Int), Ext sa H H' → Strm K H' sa la ns → 0 ≤ r → r < many → Q (.int r) H'
theorem ok_draw {f : Addr} {fd : FuncData} (F : Fun K "_law_draw" "_law_draw" sDraw f fd) (hm : mg "_law_draw" = some (.ref f)) (bd : Binds K fd ["stream", "many"] []) (mabs : mg "abs" = none) (mint : mg "int" = none) (mlen : mg "len" = none) : Cl P w K mg base 1 "_law_draw" (spDraw K) := by
  refine cl_mk (sc := ?sc) (body := ?body) F hm bd scDraw ?hsc ?hb (fun vs H Q E h => ?_) (fun cdv A outer s H vs Q E hr nd h => ?_)
  case hsc =>
    conv => lhs; whnf
  case hb =>
    conv => lhs; whnf
  · obtain ⟨sa, la, ns, many, rfl, _⟩ := h
    rfl
  · obtain ⟨sa, la, ns, many, rfl, S, m0, m1, q⟩ := h
    obtain ⟨a, b, c, e1, e2, a0, c0, c1, nl⟩ := S.ex
    refine sCut (fun σ' H' => σ' = start ["stream", "many", "value"] [V.ref sa, V.int many] ∧ Ext sa H H' ∧ Strm K H' sa la ns) ?_ ?_
    · have e2' : SqL K H la (ns.map V.int) := seq_mono (cut_same _ _) e2
      repeat none_booked
      refine xL (SqL.of e1) (by rfl) ?_
      repeat none_booked
      refine ⟨_, rfl, ?_⟩
      refine ite2' (fun h => ?_) (fun h => ?_)
      · repeat none_booked
        refine xL (SqL.of e1) (by rfl) ?_
        repeat none_booked
        refine xL (SqL.of e1) (by rfl) ?_
        repeat none_booked
        refine fLenL e2' ?_
        repeat none_booked
        refine ⟨_, rfl, ?_⟩
        refine ite2' (fun h => ?_) (fun h => ?_)
        · repeat none_booked
          refine sAsg ?_
          repeat none_booked
          refine xL (SqL.of e1) (by rfl) ?_
          repeat none_booked
          refine xL (SqL.of e1) (by rfl) ?_
          have hb : b < ns.length := by
            rw [List.length_map] at h
            omega
          refine xL e2' (atI_nat (j := b) (by rw [List.getElem?_map, List.getElem?_eq_getElem hb]; rfl)) ?_
          repeat none_booked
          refine gSub ?_
          repeat none_booked
          refine ptL' e1 (by rfl) (fun H1 g1 k1 => ?_)
          repeat none_booked
          refine sAsg ?_
          repeat none_booked
          refine xL (SqL.of g1) (by rfl) ?_
          repeat none_booked
          refine gSub ?_
          repeat none_booked
          refine ptL' g1 (by rfl) (fun H2 g2 k2 => ?_)
          repeat none_booked
          have k3 : cut [sa] H2 = cut [sa] H := k2.trans k1
          refine ⟨rfl, by unfold Ext; rw [k3]; exact Same.refl _, _, b + 1, c, g2, by rw [k3]; exact e2, ?_, c0, c1, nl⟩
          split <;> omega
        · repeat none_booked
          exact ⟨rfl, Ext.refl _ _, S⟩
      · rw [if_neg Bool.false_ne_true]
        repeat none_booked
        exact ⟨rfl, Ext.refl _ _, S⟩
    · rintro σ' H1 ⟨rfl, x1, S1⟩
      obtain ⟨a, b, c, e1, e2, a0, c0, c1, nl⟩ := S1.ex
      repeat none_booked
      refine xL (SqL.of e1) (by rfl) ?_
      repeat none_booked
      refine ⟨_, rfl, ?_⟩
      refine ite2' (fun h => ?_) (fun h => ?_)
      · repeat none_booked
        refine sAsg ?_
        repeat none_booked
        refine xL (SqL.of e1) (by rfl) ?_
        repeat none_booked
        refine bMul (.inl ⟨by omega, by omega⟩) ?_
        repeat none_booked
        refine bMod (by decide) ?_
        refine gSub ?_
        repeat none_booked
        refine ptL' e1 (by rfl) (fun H2 g2 k2 => ?_)
        repeat none_booked
        refine xL (SqL.of g2) (by rfl) ?_
        repeat none_booked
        refine bDiv ⟨by decide, by decide⟩ ?_
        repeat none_booked
        refine bMod m0 ?_
        refine q _ _ (x1.trans (by unfold Ext; rw [k2]; exact Same.refl _)) ⟨a, b, _, g2, by rw [k2]; exact e2, a0, by omega, by omega, nl⟩ (Int.emod_nonneg _ (by omega)) (Int.emod_lt_of_pos _ m0)
      · repeat none_booked
        repeat none_booked
        refine xL (SqL.of e1) (by rfl) ?_
        repeat none_booked
        refine bMod m0 ?_
        repeat none_booked
        refine sAsg ?_
        repeat none_booked
        refine xL (SqL.of e1) (by rfl) ?_
        repeat none_booked
        refine bDiv ⟨m0, m1⟩ ?_
        refine gSub ?_
        repeat none_booked
        refine ptL' e1 (by rfl) (fun H2 g2 k2 => ?_)
        repeat none_booked
        refine q _ _ (x1.trans (by unfold Ext; rw [k2]; exact Same.refl _)) ⟨_, b, c, g2, by rw [k2]; exact e2, Int.ediv_nonneg a0 (by omega), c0, c1, nl⟩ (Int.emod_nonneg _ (by omega)) (Int.emod_lt_of_pos _ m0)
abbrev sStream : Stmt := topS 13
abbrev sFar : Stmt := topS 15
abbrev sLaAtom : Stmt := topS 16
theorem scStream : FnScope ["script", "mixed", "cell"] ["script"] (defScope sStream) := ⟨rfl, rfl, rfl, by decide +kernel, rfl, by decide +kernel, by decide +kernel⟩
theorem scFar : FnScope ["stream"] ["stream"] (defScope sFar) := ⟨rfl, rfl, rfl, by decide +kernel, rfl, by decide +kernel, by decide +kernel⟩
theorem scLaAtom : FnScope ["stream", "atom", "k"] ["stream"] (defScope sLaAtom) := ⟨rfl, rfl, rfl, by decide +kernel, rfl, by decide +kernel, by decide +kernel⟩
def spStream (K : PySem.W.Frag) : Sp := fun vs H Q _ => ∃ (a : Addr) (ns : List Int), vs = [.ref a] ∧ SqL K H a (ns.map V.int) ∧ ns.length ≤ 63 ∧ ∀ (H' : Hp) (sa la : Addr), H sa = none → Same H H' → Strm K H' sa la ns → Q (.ref sa) H'
theorem ok_stream {f : Addr} {fd : FuncData} (F : Fun K "_law_stream" "_law_stream" sStream f fd) (hm : mg "_law_stream" = some (.ref f)) (bd : Binds K fd ["script"] []) (mint : mg "int" = none) (mlist : mg "list" = none) : Cl P w K mg base 1 "_law_stream" (spStream K) := by
  refine cl_mk (sc := ?sc) (body := ?body) F hm bd scStream ?hsc ?hb (fun vs H Q E h => ?_) (fun cdv A outer s H vs Q E hr nd h => ?_)
  case hsc => conv => lhs; whnf
  case hb => conv => lhs; whnf
  · obtain ⟨a, ns, rfl, _⟩ := h
    rfl
  · obtain ⟨a, ns, rfl, hS, hl, q⟩ := h
    repeat none_booked
    refine sForL ?_
    repeat none_booked
    refine ⟨a, ns.map V.int, rfl, hS, fun i σ' H' => ∃ m c, σ' = [some (.ref a), some (.int m), c] ∧ H' = H ∧ 0 ≤ m ∧ m < 2147483647, ⟨17, none, rfl, rfl, by omega, by omega⟩, fun i σ' H' _ p => ?_, fun i x σ' H' hx p => ?_, fun σ' H' p => ?_⟩
    · obtain ⟨_, _, _, rfl, _⟩ := p
      exact hS
    · obtain ⟨m, c, rfl, rfl, m0, m1⟩ := p
      obtain ⟨z, rfl⟩ : ∃ z, x = .int z := by
        rw [List.getElem?_map] at hx
        cases e : ns[i]? with
        | none => rw [e] at hx; cases hx
        | some z => rw [e] at hx; exact ⟨z, (Option.some.inj hx).symm⟩
      repeat none_booked
      refine bMul (.inl ⟨by omega, by omega⟩) ?_
      repeat none_booked
      refine bMod (by decide) ?_
      repeat none_booked
      refine bMod (by decide) ?_
      repeat none_booked
      exact ⟨_, _, rfl, rfl, Int.emod_nonneg _ (by omega), Int.emod_lt_of_pos _ (by omega)⟩
    · obtain ⟨m, c, rfl, rfl, m0, m1⟩ := p
      repeat none_booked
      refine fListL hS (fun l hl2 => ?_)
      repeat none_booked
      refine ⟨by show 4 ≤ sizeLine; decide, fun p hp => ?_⟩
      have s1 : Same H' (upd H' l (.lst (ns.map V.int))) := same_new hl2
      have s2 := s1.trans (same_new (o := .lst [.ref l, .int 0, .int 0, .int m]) hp)
      refine q _ p l (s1.free hp) s2 ⟨0, 0, m, upd_same, .inl (.inl (cut_get ?_ ?_)), by omega, m0, m1, by omega⟩
      · intro z
        have e : l = p := by simpa using z
        rw [e, ← e, upd_same] at hp
        cases hp
      · rw [upd_ne fun e => by rw [← e, upd_same] at hp; cases hp]
        exact upd_same
def spFar (K : PySem.W.Frag) : Sp := fun vs H Q _ => ∃ (sa la : Addr) (ns : List Int), vs = [.ref sa] ∧ Strm K H sa la ns ∧ ∀ (H' : Hp) (r : Int), Ext sa H H' → Strm K H' sa la ns → 0 ≤ r → r ≤ 1000000000 → Q (.int r) H'
theorem ok_far {f : Addr} {fd : FuncData} (F : Fun K "_law_far" "_law_far" sFar f fd) (hm : mg "_law_far" = some (.ref f)) (bd : Binds K fd ["stream"] []) (c1 : Cl P w K mg base 1 "_law_draw" (spDraw K)) : Cl P w K mg base 2 "_law_far" (spFar K) := by
  refine cl_mk (sc := ?sc) (body := ?body) F hm bd scFar ?hsc ?hb (fun vs H Q E h => ?_) (fun cdv A outer s H vs Q E hr nd h => ?_)
  case hsc => conv => lhs; whnf
  case hb => conv => lhs; whnf
  · obtain ⟨sa, la, ns, rfl, _⟩ := h
    rfl
  · obtain ⟨sa, la, ns, rfl, S, q⟩ := h
    repeat none_booked
    refine ⟨sa, la, ns, 4, rfl, S, by decide, by decide, fun H1 r x1 S1 r0 r1 => ?_⟩
    repeat none_booked
    refine ⟨_, rfl, ?_⟩
    refine ite2' (fun h => ?_) (fun h => ?_)
    · repeat none_booked
      exact ⟨sa, la, ns, 3, rfl, S1, by decide, by decide, fun H2 r x2 S2 r0 r1 => q _ _ (x1.trans x2) S2 r0 (by omega)⟩
    · repeat none_booked
      refine bPow ⟨by decide, by decide, by decide⟩ ?_
      repeat none_booked
      refine bPow ⟨by decide, by decide, by decide⟩ ?_
      repeat none_booked
      refine ⟨sa, la, ns, _, rfl, S1, by decide, by decide, fun H2 r2 x2 S2 r20 r21 => ?_⟩
      repeat none_booked
      refine ⟨by show 4 ≤ sizeLine; decide, fun p hp => ?_⟩
      have n1 := S2.ne hp
      repeat none_booked
      refine ⟨sa, la, ns, 4, rfl, S2.same (same_new hp), by decide, by decide, fun H3 r3 x3 S3 r30 r31 => ?_⟩
      have g := x3.get n1 upd_same
      have xx : Ext sa H H3 := (x1.trans x2).trans ((Ext.of (same_new hp)).trans x3)
      have cs : r3 = 0 ∨ r3 = 1 ∨ r3 = 2 ∨ r3 = 3 := by omega
      have r21' : r2 < 1000000000 := r21
      rcases cs with rfl | rfl | rfl | rfl
      · exact xL (SqL.of g) (atI_nat (j := 0) rfl) (q _ _ xx S3 (by decide) (by decide))
      · exact xL (SqL.of g) (atI_nat (j := 1) rfl) (q _ _ xx S3 (by decide) (by decide))
      · exact xL (SqL.of g) (atI_nat (j := 2) rfl) (q _ _ xx S3 (by decide) (by decide))
      · exact xL (SqL.of g) (atI_nat (j := 3) rfl) (q _ _ xx S3 r20 (by omega))
theorem atom_push {z : Str} {c : Nat} (h : strAtom z = true) (hl : z.length ≤ 11) (hc : (isLet c || isDig c) = true) : strAtom (z ++ (⟨#[c]⟩ : Str)) = true := by
  have e : (z ++ (⟨#[c]⟩ : Str)).cps.toList = z.cps.toList ++ [c] := by
    show (z.cps ++ #[c]).toList = _
    simp
  have el : (z ++ (⟨#[c]⟩ : Str)).length = z.length + 1 := by
    show (z.cps ++ #[c]).size = _
    simp [Str.length]
  unfold strAtom at h ⊢
  rw [e, el]
  simp only [Bool.and_eq_true, decide_eq_true_eq, List.all_append] at h ⊢
  obtain ⟨⟨h1, h2⟩, h3, h4⟩ := h
  refine ⟨⟨by omega, by omega⟩, ?_, h4, by simp [hc]⟩
  cases hz : z.cps.toList with
  | nil =>
    have : z.length = 0 := by show z.cps.size = 0; rw [← Array.length_toList, hz]; rfl
    omega
  | cons a r => rw [hz] at h3; exact h3
def spLaAtom (K : PySem.W.Frag) : Sp := fun vs H Q _ => ∃ (sa la : Addr) (ns : List Int), vs = [.ref sa] ∧ Strm K H sa la ns ∧ ∀ (H' : Hp) (z : Str), Ext sa H H' → Strm K H' sa la ns → strAtom z = true → Q (.str z) H'
theorem ok_laatom {f : Addr} {fd : FuncData} (F : Fun K "_law_atom" "_law_atom" sLaAtom f fd) (hm : mg "_law_atom" = some (.ref f)) (bd : Binds K fd ["stream"] []) (c1 : Cl P w K mg base 1 "_law_draw" (spDraw K)) (mr : mg "range" = none) : Cl P w K mg base 2 "_law_atom" (spLaAtom K) := by
  refine cl_mk (sc := ?sc) (body := ?body) F hm bd scLaAtom ?hsc ?hb (fun vs H Q E h => ?_) (fun cdv A outer s H vs Q E hr nd h => ?_)
  case hsc => conv => lhs; whnf
  case hb => conv => lhs; whnf
  · obtain ⟨sa, la, ns, rfl, _⟩ := h
    rfl
  · obtain ⟨sa, la, ns, rfl, S, q⟩ := h
    repeat none_booked
    refine ⟨sa, la, ns, 3, rfl, S, by decide, by decide, fun H1 r x1 S1 r0 r1 => ?_⟩
    repeat none_booked
    refine ⟨_, rfl, ?_⟩
    refine ite2' (fun h => ?_) (fun h => ?_)
    · repeat none_booked
      refine ⟨by show 5 ≤ sizeLine; decide, fun p hp => ?_⟩
      have n1 := S1.ne hp
      repeat none_booked
      refine ⟨sa, la, ns, 5, rfl, S1.same (same_new hp), by decide, by decide, fun H3 r3 x3 S3 r30 r31 => ?_⟩
      have g := x3.get n1 upd_same
      have xx : Ext sa H H3 := x1.trans ((Ext.of (same_new hp)).trans x3)
      have cs : r3 = 0 ∨ r3 = 1 ∨ r3 = 2 ∨ r3 = 3 ∨ r3 = 4 := by omega
      rcases cs with rfl | rfl | rfl | rfl | rfl
      · exact xL (SqL.of g) (atI_nat (j := 0) rfl) (q _ _ xx S3 (by decide +kernel))
      · exact xL (SqL.of g) (atI_nat (j := 1) rfl) (q _ _ xx S3 (by decide +kernel))
      · exact xL (SqL.of g) (atI_nat (j := 2) rfl) (q _ _ xx S3 (by decide +kernel))
      · exact xL (SqL.of g) (atI_nat (j := 3) rfl) (q _ _ xx S3 (by decide +kernel))
      · exact xL (SqL.of g) (atI_nat (j := 4) rfl) (q _ _ xx S3 (by decide +kernel))
    · repeat none_booked
      refine ⟨sa, la, ns, 3, rfl, S1, by decide, by decide, fun H2 r2 x2 S2 r20 r21 => ?_⟩
      obtain ⟨c0, hc0, hat0⟩ : ∃ c, atI (Str.ofString "abz").cps.toList r2 = some c ∧ strAtom ⟨#[c]⟩ = true := by
        have cs : r2 = 0 ∨ r2 = 1 ∨ r2 = 2 := by omega
        rcases cs with rfl | rfl | rfl
        · exact ⟨97, by decide +kernel, by decide +kernel⟩
        · exact ⟨98, by decide +kernel, by decide +kernel⟩
        · exact ⟨122, by decide +kernel, by decide +kernel⟩
      refine xS (cc := c0) (le_line (by decide +kernel)) hc0 ?_
      repeat none_booked
      refine sForR mr ?_
      repeat none_booked
      refine ⟨sa, la, ns, 3, rfl, S2, by decide, by decide, fun H3 r3 x3 S3 r30 r31 => ?_⟩
      repeat none_booked
      have xx : Ext sa H H3 := (x1.trans x2).trans x3
      refine ⟨r3, rfl, r30, by omega, fun i σ' H' => ∃ z y, σ' = [some (.ref sa), some (.str z), y] ∧ strAtom z = true ∧ z.length = 1 + i ∧ Ext sa H H' ∧ Strm K H' sa la ns, ⟨_, none, rfl, hat0, rfl, xx, S3⟩, fun i σ' H' hi p => ?_, fun σ' H' p => ?_⟩
      · obtain ⟨z, y, rfl, hz, hzl, x4, S4⟩ := p
        repeat none_booked
        refine ⟨sa, la, ns, 6, rfl, S4, by decide, by decide, fun H5 r5 x5 S5 r50 r51 => ?_⟩
        obtain ⟨c5, hc5, hat5⟩ : ∃ c, atI (Str.ofString "abz019").cps.toList r5 = some c ∧ (isLet c || isDig c) = true := by
          have cs : r5 = 0 ∨ r5 = 1 ∨ r5 = 2 ∨ r5 = 3 ∨ r5 = 4 ∨ r5 = 5 := by omega
          rcases cs with rfl | rfl | rfl | rfl | rfl | rfl
          · exact ⟨97, by decide +kernel, by decide +kernel⟩
          · exact ⟨98, by decide +kernel, by decide +kernel⟩
          · exact ⟨122, by decide +kernel, by decide +kernel⟩
          · exact ⟨48, by decide +kernel, by decide +kernel⟩
          · exact ⟨49, by decide +kernel, by decide +kernel⟩
          · exact ⟨57, by decide +kernel, by decide +kernel⟩
        refine xS (cc := c5) (le_line (by decide +kernel)) hc5 ?_
        refine bAddS (le_line (by rw [hzl]; show 1 + i + 1 ≤ 100000; omega)) ?_
        repeat none_booked
        refine ⟨_, _, rfl, atom_push hz (by omega) hat5, ?_, x4.trans x5, S5⟩
        show (z.cps ++ #[c5]).size = _
        have : z.cps.size = 1 + i := hzl
        simp [this]
        omega
      · obtain ⟨z, y, rfl, hz, hzl, x4, S4⟩ := p
        repeat none_booked
        exact q _ _ x4 S4 hz
end
end K1

namespace K1
open PySem PySem.Spec PyProof.Rows L2 Wk
local macro_rules | `(tactic| none_booked) => `(tactic| first
  | refine eInt ?_ | refine eStr ?_ | (refine eNm ?_; first | refine nAt 0 (by rfl) (by rfl) (by first | exact Or.inl rfl | exact Or.inr (Or.inl rfl) | exact Or.inr (Or.inr rfl)) (by rfl) (by rfl) ?_ | refine nAt 1 (by rfl) (by rfl) (by first | exact Or.inl rfl | exact Or.inr (Or.inl rfl) | exact Or.inr (Or.inr rfl)) (by rfl) (by rfl) ?_ | refine nAt 2 (by rfl) (by rfl) (by first | exact Or.inl rfl | exact Or.inr (Or.inl rfl) | exact Or.inr (Or.inr rfl)) (by rfl) (by rfl) ?_ | refine nAt 3 (by rfl) (by rfl) (by first | exact Or.inl rfl | exact Or.inr (Or.inl rfl) | exact Or.inr (Or.inr rfl)) (by rfl) (by rfl) ?_ | refine nAt 4 (by rfl) (by rfl) (by first | exact Or.inl rfl | exact Or.inr (Or.inl rfl) | exact Or.inr (Or.inr rfl)) (by rfl) (by rfl) ?_ | refine nAt 5 (by rfl) (by rfl) (by first | exact Or.inl rfl | exact Or.inr (Or.inl rfl) | exact Or.inr (Or.inr rfl)) (by rfl) (by rfl) ?_ | refine nAt 6 (by rfl) (by rfl) (by first | exact Or.inl rfl | exact Or.inr (Or.inl rfl) | exact Or.inr (Or.inr rfl)) (by rfl) (by rfl) ?_ | refine nAt 7 (by rfl) (by rfl) (by first | exact Or.inl rfl | exact Or.inr (Or.inl rfl) | exact Or.inr (Or.inr rfl)) (by rfl) (by rfl) ?_ | refine nAt 8 (by rfl) (by rfl) (by first | exact Or.inl rfl | exact Or.inr (Or.inl rfl) | exact Or.inr (Or.inr rfl)) (by rfl) (by rfl) ?_) | refine sCons ?_ | refine sNil ?_ | refine sIf ?_ | refine sRet ?_ | (refine sStore ?_; first | refine stAt 0 (by rfl) ?_ (by assumption) (by first | exact Or.inl rfl | exact Or.inr rfl) (by rfl) (by first | exact Or.inl rfl | exact Or.inr rfl) | refine stAt 1 (by rfl) ?_ (by assumption) (by first | exact Or.inl rfl | exact Or.inr rfl) (by rfl) (by first | exact Or.inl rfl | exact Or.inr rfl) | refine stAt 2 (by rfl) ?_ (by assumption) (by first | exact Or.inl rfl | exact Or.inr rfl) (by rfl) (by first | exact Or.inl rfl | exact Or.inr rfl) | refine stAt 3 (by rfl) ?_ (by assumption) (by first | exact Or.inl rfl | exact Or.inr rfl) (by rfl) (by first | exact Or.inl rfl | exact Or.inr rfl) | refine stAt 4 (by rfl) ?_ (by assumption) (by first | exact Or.inl rfl | exact Or.inr rfl) (by rfl) (by first | exact Or.inl rfl | exact Or.inr rfl) | refine stAt 5 (by rfl) ?_ (by assumption) (by first | exact Or.inl rfl | exact Or.inr rfl) (by rfl) (by first | exact Or.inl rfl | exact Or.inr rfl) | refine stAt 6 (by rfl) ?_ (by assumption) (by first | exact Or.inl rfl | exact Or.inr rfl) (by rfl) (by first | exact Or.inl rfl | exact Or.inr rfl) | refine stAt 7 (by rfl) ?_ (by assumption) (by first | exact Or.inl rfl | exact Or.inr rfl) (by rfl) (by first | exact Or.inl rfl | exact Or.inr rfl) | refine stAt 8 (by rfl) ?_ (by assumption) (by first | exact Or.inl rfl | exact Or.inr rfl) (by rfl) (by first | exact Or.inl rfl | exact Or.inr rfl)) | refine sExpr ?_
  | refine aNil ?_ | refine aCons ?_ | refine eBl ?_ | refine eNon ?_ | refine eBin ?_ | refine eCmp ?_ | refine eIx ?_ | refine eTup ?_ | refine eLst ?_ | refine eChain ?_
  | refine eSl ?_ | refine oNone ?_ | refine oSome ?_ | refine eNot ?_ | refine eUn ?_ | refine eAnd ?_ | refine eOr ?_ | refine eOne ?_ | refine eIf ?_
  | refine tCmp ?_ | refine tChain ?_ | refine tNot ?_ | refine pAnd1 ?_ | refine pOr1 ?_ | refine pAnd ?_ | refine pOr ?_
  | refine kLen (by assumption) ?_ | refine kAbs (by assumption) ?_ | refine kInt (by assumption) ?_ | refine kList (by assumption) ?_ | refine kTuple (by assumption) ?_ | refine kAll (by assumption) ?_ | refine kIsi (by assumption) ?_
  | refine tyInt (by assumption) ?_ | refine tyBool (by assumption) ?_ | refine tyStr (by assumption) ?_ | refine tyTuple (by assumption) ?_ | refine tyList (by assumption) ?_
  | refine eCall (by assumption) (by assumption) (by decide) ?_ | refine eGlobI (by assumption) ?_
  | refine tPb ?_
  | refine bAdd ?_ | refine bSub ?_ | refine uNeg ?_ | refine cLt ?_ | refine cLe ?_ | refine cGt ?_ | refine cGe ?_ | refine cEq (by rfl) ?_ | refine cNe (by rfl) ?_
  | refine fInt ?_ | refine fAbs ?_
  | refine kIsascii ?_ | refine kIsalnum ?_ | refine kIsalpha ?_ | refine kIslower ?_
  | refine ⟨rfl, mIsascii ?_⟩ | refine ⟨rfl, mIsalnum ?_⟩ | refine ⟨rfl, mIsalpha ?_⟩ | refine ⟨rfl, mIslower ?_⟩
  | refine gsNil ?_ | refine gsCons ?_ | (first | refine gNm 0 (by rfl) ?_ (by assumption) (by first | exact Or.inl rfl | exact Or.inr rfl) (by first | exact Or.inl rfl | exact Or.inr rfl) | refine gNm 1 (by rfl) ?_ (by assumption) (by first | exact Or.inl rfl | exact Or.inr rfl) (by first | exact Or.inl rfl | exact Or.inr rfl) | refine gNm 2 (by rfl) ?_ (by assumption) (by first | exact Or.inl rfl | exact Or.inr rfl) (by first | exact Or.inl rfl | exact Or.inr rfl) | refine gNm 3 (by rfl) ?_ (by assumption) (by first | exact Or.inl rfl | exact Or.inr rfl) (by first | exact Or.inl rfl | exact Or.inr rfl) | refine gNm 4 (by rfl) ?_ (by assumption) (by first | exact Or.inl rfl | exact Or.inr rfl) (by first | exact Or.inl rfl | exact Or.inr rfl) | refine gNm 5 (by rfl) ?_ (by assumption) (by first | exact Or.inl rfl | exact Or.inr rfl) (by first | exact Or.inl rfl | exact Or.inr rfl) | refine gNm 6 (by rfl) ?_ (by assumption) (by first | exact Or.inl rfl | exact Or.inr rfl) (by first | exact Or.inl rfl | exact Or.inr rfl) | refine gNm 7 (by rfl) ?_ (by assumption) (by first | exact Or.inl rfl | exact Or.inr rfl) (by first | exact Or.inl rfl | exact Or.inr rfl) | refine gNm 8 (by rfl) ?_ (by assumption) (by first | exact Or.inl rfl | exact Or.inr rfl) (by first | exact Or.inl rfl | exact Or.inr rfl)))
/-! ### data without lists -/
def tupN : Nat → PyData → Bool
  | _, .none => true
  | _, .bool _ => true
  | _, .int _ => true
  | _, .str z => decide (z.length ≤ 1000) && PySem.PyData.strOk z
  | n + 1, .tuple ds => decide (ds.length ≤ 1000) && ds.all (tupN n)
  | _, _ => false
theorem tup_fine : ∀ (n : Nat) (d : PyData), tupN n d = true → fineN n d = true
  | 0, .none, _ => rfl
  | 0, .bool _, _ => rfl
  | 0, .int _, _ => rfl
  | 0, .str _, h => h
  | _ + 1, .none, _ => rfl
  | _ + 1, .bool _, _ => rfl
  | _ + 1, .int _, _ => rfl
  | _ + 1, .str _, h => h
  | n + 1, .tuple ds, h => by
    have h' : (decide (ds.length ≤ 1000) && ds.all (tupN n)) = true := h
    show (decide (ds.length ≤ 1000) && ds.all (fineN n)) = true
    rw [Bool.and_eq_true, List.all_eq_true] at h' ⊢
    exact ⟨h'.1, fun x hx => tup_fine n x (h'.2 x hx)⟩
theorem seqT_avoid {K : PySem.W.Frag} {H : Hp} {L a : Addr} {xs ys : List V} (hL : H L = some (.lst xs)) (h : SqT K H a ys) : SqT K (cut [L] H) a ys := by
  have hn : ∀ o, H a = some o → o ≠ .lst xs → a ∉ [L] := fun o ho hne z => by
    have e : a = L := by simpa using z
    rw [e, hL] at ho
    exact hne (Option.some.inj ho).symm
  rcases h with (h | ⟨o, h⟩) | h
  · exact .inl (.inl (cut_get (hn _ h fun z => nomatch z) h))
  · exact .inl (.inr ⟨o, cut_get (hn _ h fun z => nomatch z) h⟩)
  · exact .inr h
theorem dp_avoid {K : PySem.W.Frag} {H : Hp} {L : Addr} {xs : List V} (hL : H L = some (.lst xs)) : ∀ (n : Nat) (d : PyData) (v : V), tupN n d = true → Dp K H v d → Dp K (cut [L] H) v d
  | _, .none, _, _, .non => .non
  | _, .bool _, _, _, .bl b => .bl b
  | _, .int _, _, _, .int b => .int b
  | _, .str _, _, _, .str b => .str b
  | 0, .list _, _, h, _ => nomatch h
  | _ + 1, .list _, _, h, _ => nomatch h
  | 0, .tuple _, _, h, _ => nomatch h
  | n + 1, .tuple ds, _, h, .tup hs ha => by
    have h' : (decide (ds.length ≤ 1000) && ds.all (tupN n)) = true := h
    rw [Bool.and_eq_true, List.all_eq_true] at h'
    refine .tup (seqT_avoid hL hs) ?_
    have key : ∀ (l : List PyData) (vs : List V), (∀ x ∈ l, tupN n x = true) → DpAll K H vs l → DpAll K (cut [L] H) vs l := by
      intro l
      induction l with
      | nil => intro vs _ h; cases h; exact .nil
      | cons a r ih =>
        intro vs hl h
        cases h with
        | cons h1 h2 => exact .cons (dp_avoid hL n a _ (hl a (by simp)) h1) (ih _ (fun x hx => hl x (by simp [hx])) h2)
    exact key ds _ h'.2 ha
theorem cut_cut (a b : Addr) (H : Hp) : cut [a] (cut [b] H) = cut [a, b] H := by
  funext c
  unfold cut
  by_cases h1 : c = a
  · subst h1; simp
  · by_cases h2 : c = b
    · subst h2; simp
    · simp [h1, h2]
theorem dpAll_push {K : PySem.W.Frag} {H : Hp} : ∀ {vs : List V} {ds : List PyData} {v : V} {d : PyData}, DpAll K H vs ds → Dp K H v d → DpAll K H (vs ++ [v]) (ds ++ [d])
  | _, _, _, _, .nil, h => .cons h .nil
  | _, _, _, _, .cons h r, h2 => .cons h (dpAll_push r h2)
theorem dp_new {K : PySem.W.Frag} {H : Hp} {as : List Addr} {p : Addr} {vs : List V} {ds : List PyData} (hp : H p = none) (hn : p ∉ as) (h : DpAll K (cut as H) vs ds) : Dp K (cut as (upd H p (.tup vs))) (.ref p) (.tuple ds) :=
  .tup (SqT.of (cut_get hn upd_same)) (dpAll_mono (Same.cut (same_new hp)) h)
theorem not_mem1 {p a : Addr} (h : p ≠ a) : p ∉ [a] := by simpa using h
theorem dpAll_ints {K : PySem.W.Frag} {H : Hp} : ∀ rs : List Int, DpAll K H (rs.map V.int) (rs.map PyData.int)
  | [] => .nil
  | r :: rs => .cons (.int r) (dpAll_ints rs)
theorem numOk_int {lo hi r : Int} (h0 : lo ≤ r) (h1 : r ≤ hi) : numOk lo hi (.int r) = true := by
  show (decide (lo ≤ r) && decide (r ≤ hi)) = true
  rw [decide_eq_true h0, decide_eq_true h1]; rfl
theorem atom_lay {z : Str} (h : strAtom z = true) : (decide (z.length ≤ 1000) && PySem.PyData.strOk z) = true := by
  unfold strAtom at h
  simp only [Bool.and_eq_true, decide_eq_true_eq, List.all_eq_true] at h
  obtain ⟨⟨_, h2⟩, _, h4⟩ := h
  rw [decide_eq_true (show z.length ≤ 1000 by omega), Bool.true_and]
  unfold PySem.PyData.strOk
  rw [← Array.all_toList, List.all_eq_true]
  intro c hc
  have := h4 c hc
  unfold isLet isDig at this
  simp only [Bool.or_eq_true, Bool.and_eq_true, decide_eq_true_eq] at this
  exact decide_eq_true (by omega)
theorem tup_two {a b : PyData} (ha : tupN 2 a = true) (hb : tupN 2 b = true) : tupN 3 (.tuple [a, b]) = true := by
  show (decide _ && (tupN 2 a && (tupN 2 b && true))) = true
  rw [ha, hb]; rfl
theorem tup_three {a b c : PyData} (ha : tupN 2 a = true) (hb : tupN 2 b = true) (hc : tupN 2 c = true) : tupN 3 (.tuple [a, b, c]) = true := by
  show (decide _ && (tupN 2 a && (tupN 2 b && (tupN 2 c && true)))) = true
  rw [ha, hb, hc]; rfl
abbrev sLaNode : Stmt := topS 17
abbrev sLaGraph : Stmt := topS 18
theorem scLaNode : FnScope ["stream", "many", "pick", "parts", "k"] ["stream", "many"] (defScope sLaNode) := ⟨rfl, rfl, rfl, by decide +kernel, rfl, by decide +kernel, by decide +kernel⟩
theorem scLaGraph : FnScope ["stream", "most", "many", "k"] ["stream", "most"] (defScope sLaGraph) := ⟨rfl, rfl, rfl, by decide +kernel, rfl, by decide +kernel, by decide +kernel⟩
section
variable {P : Program} {w : World} {K : PySem.W.Frag} {mg : Str → Option Value} {base : Heap}
def spLaNode (K : PySem.W.Frag) : Sp := fun vs H Q _ => ∃ (sa la : Addr) (ns : List Int) (many : Int), vs = [.ref sa, .int many] ∧ Strm K H sa la ns ∧ 1 ≤ many ∧ many ≤ 1000 ∧ ∀ (H' : Hp) (v : V) (d : PyData), Ext sa H H' → Strm K H' sa la ns → Dp K (cut [sa] H') v d → nodeOk many d = true → tupN 3 d = true → Q v H'
theorem ok_lanode {f : Addr} {fd : FuncData} (F : Fun K "_law_node" "_law_node" sLaNode f fd) (hm : mg "_law_node" = some (.ref f)) (bd : Binds K fd ["stream", "many"] []) (c1 : Cl P w K mg base 1 "_law_draw" (spDraw K)) (c2 : Cl P w K mg base 2 "_law_far" (spFar K)) (c3 : Cl P w K mg base 2 "_law_atom" (spLaAtom K)) (mr : mg "range" = none) (mt : mg "tuple" = none) : Cl P w K mg base 3 "_law_node" (spLaNode K) := by
  refine cl_mk (sc := ?sc) (body := ?body) F hm bd scLaNode ?hsc ?hb (fun vs H Q E h => ?_) (fun cdv A outer s H vs Q E hr nd h => ?_)
  case hsc => conv => lhs; whnf
  case hb => conv => lhs; whnf
  · obtain ⟨sa, la, ns, many, rfl, _⟩ := h
    rfl
  · obtain ⟨sa, la, ns, many, rfl, S, n0, n1, q⟩ := h
    repeat none_booked
    refine ⟨sa, la, ns, 9, rfl, S, by decide, by decide, fun H1 r x1 S1 r0 r1 => ?_⟩
    repeat none_booked
    refine ⟨_, rfl, ?_⟩
    refine ite2' (fun h => ?_) (fun h => ?_)
    · repeat none_booked
      refine ⟨sa, la, ns, rfl, S1, fun H2 r2 x2 S2 r20 r21 => ?_⟩
      repeat none_booked
      refine ⟨by show 2 ≤ sizeLine; decide, fun p hp => ?_⟩
      refine q _ _ (.tuple [.str "var", .int r2]) ((x1.trans x2).trans (Ext.of (same_new hp))) (S2.same (same_new hp)) (dp_new hp (not_mem1 (S2.ne hp)) (.cons (.str _) (.cons (.int _) .nil))) ?_ (tup_two (by decide +kernel) rfl)
      rw [nodeOk_var, numOk_int r20 r21]; rfl
    · repeat none_booked
      refine ⟨_, rfl, ?_⟩
      refine ite2' (fun h => ?_) (fun h => ?_)
      · repeat none_booked
        refine bPow ⟨by decide, by decide, by decide⟩ ?_
        repeat none_booked
        refine bPow ⟨by decide, by decide, by decide⟩ ?_
        repeat none_booked
        refine ⟨by show 7 ≤ sizeLine; decide, fun p hp => ?_⟩
        have n1' := S1.ne hp
        repeat none_booked
        refine ⟨sa, la, ns, 7, rfl, S1.same (same_new hp), by decide, by decide, fun H3 r3 x3 S3 r30 r31 => ?_⟩
        have g := x3.get n1' upd_same
        have xx : Ext sa H H3 := x1.trans ((Ext.of (same_new hp)).trans x3)
        have fin : ∀ (i : Int), -1000000000 ≤ i → i ≤ 1000000000 → ∀ p2, H3 p2 = none → Q (.ref p2) (upd H3 p2 (.tup [.str "int", .int i])) := fun i i0 i1 p2 hp2 => by
          refine q _ _ (.tuple [.str "int", .int i]) (xx.trans (Ext.of (same_new hp2))) (S3.same (same_new hp2)) (dp_new hp2 (not_mem1 (S3.ne hp2)) (.cons (.str _) (.cons (.int _) .nil))) ?_ (tup_two (by decide +kernel) rfl)
          rw [nodeOk_int, numOk_int i0 i1]; rfl
        have cs : r3 = 0 ∨ r3 = 1 ∨ r3 = 2 ∨ r3 = 3 ∨ r3 = 4 ∨ r3 = 5 ∨ r3 = 6 := by omega
        rcases cs with rfl | rfl | rfl | rfl | rfl | rfl | rfl
        · refine xL (SqL.of g) (atI_nat (j := 0) rfl) ?_
          repeat none_booked
          exact ⟨by show 2 ≤ sizeLine; decide, fun p2 hp2 => fin _ (by decide) (by decide) p2 hp2⟩
        · refine xL (SqL.of g) (atI_nat (j := 1) rfl) ?_
          repeat none_booked
          exact ⟨by show 2 ≤ sizeLine; decide, fun p2 hp2 => fin _ (by decide) (by decide) p2 hp2⟩
        · refine xL (SqL.of g) (atI_nat (j := 2) rfl) ?_
          repeat none_booked
          exact ⟨by show 2 ≤ sizeLine; decide, fun p2 hp2 => fin _ (by decide) (by decide) p2 hp2⟩
        · refine xL (SqL.of g) (atI_nat (j := 3) rfl) ?_
          repeat none_booked
          exact ⟨by show 2 ≤ sizeLine; decide, fun p2 hp2 => fin _ (by decide) (by decide) p2 hp2⟩
        · refine xL (SqL.of g) (atI_nat (j := 4) rfl) ?_
          repeat none_booked
          exact ⟨by show 2 ≤ sizeLine; decide, fun p2 hp2 => fin _ (by decide) (by decide) p2 hp2⟩
        · refine xL (SqL.of g) (atI_nat (j := 5) rfl) ?_
          repeat none_booked
          exact ⟨by show 2 ≤ sizeLine; decide, fun p2 hp2 => fin _ (by decide) (by decide) p2 hp2⟩
        · refine xL (SqL.of g) (atI_nat (j := 6) rfl) ?_
          repeat none_booked
          exact ⟨by show 2 ≤ sizeLine; decide, fun p2 hp2 => fin _ (by decide) (by decide) p2 hp2⟩
      · repeat none_booked
        refine ⟨_, rfl, ?_⟩
        refine ite2' (fun h => ?_) (fun h => ?_)
        · repeat none_booked
          refine ⟨sa, la, ns, rfl, S1, fun H2 z x2 S2 hz => ?_⟩
          repeat none_booked
          refine ⟨by show 2 ≤ sizeLine; decide, fun p hp => ?_⟩
          refine q _ _ (.tuple [.str "atom", .str z]) ((x1.trans x2).trans (Ext.of (same_new hp))) (S2.same (same_new hp)) (dp_new hp (not_mem1 (S2.ne hp)) (.cons (.str _) (.cons (.str _) .nil))) ?_ ?_
          · rw [nodeOk_atom, show atomOk (.str z) = true from hz]; rfl
          · exact tup_two (by decide +kernel) (atom_lay hz)
        · repeat none_booked
          refine ⟨_, rfl, ?_⟩
          refine ite2' (fun h => ?_) (fun h => ?_)
          · repeat none_booked
            refine ⟨sa, la, ns, rfl, S1, fun H2 z x2 S2 hz => ?_⟩
            repeat none_booked
            refine ⟨sa, la, ns, rfl, S2, fun H3 r3 x3 S3 r30 r31 => ?_⟩
            repeat none_booked
            refine ⟨by show 3 ≤ sizeLine; decide, fun p hp => ?_⟩
            refine q _ _ (.tuple [.str "name", .str z, .int r3]) (((x1.trans x2).trans x3).trans (Ext.of (same_new hp))) (S3.same (same_new hp)) (dp_new hp (not_mem1 (S3.ne hp)) (.cons (.str _) (.cons (.str _) (.cons (.int _) .nil)))) ?_ ?_
            · rw [nodeOk_3, show atomOk (.str z) = true from hz, if_pos (by rfl), numOk_int r30 r31]; rfl
            · exact tup_three (by decide +kernel) (atom_lay hz) rfl
          · repeat none_booked
            refine sSetLcR 3 4 mr ?_ (by rfl) (by rfl) (by assumption) (by intros; rfl) (blkOk_by (by rfl)) (by rfl) (sw_true rfl rfl rfl (by rfl))
            repeat none_booked
            refine ⟨by show 5 ≤ sizeLine; decide, fun p hp => ?_⟩
            have np := S1.ne hp
            repeat none_booked
            refine ⟨sa, la, ns, 5, rfl, S1.same (same_new hp), by decide, by decide, fun H3 r3 x3 S3 r30 r31 => ?_⟩
            have g := x3.get np upd_same
            have xx : Ext sa H H3 := x1.trans ((Ext.of (same_new hp)).trans x3)
            obtain ⟨n, hat, hn0, hn6⟩ : ∃ n : Int, atI [V.int 1, V.int 2, V.int 2, V.int 3, V.int 6] r3 = some (.int n) ∧ 1 ≤ n ∧ n ≤ 6 := by
              have cs : r3 = 0 ∨ r3 = 1 ∨ r3 = 2 ∨ r3 = 3 ∨ r3 = 4 := by omega
              rcases cs with rfl | rfl | rfl | rfl | rfl
              · exact ⟨1, rfl, by decide, by decide⟩
              · exact ⟨2, rfl, by decide, by decide⟩
              · exact ⟨2, rfl, by decide, by decide⟩
              · exact ⟨3, rfl, by decide, by decide⟩
              · exact ⟨6, rfl, by decide, by decide⟩
            refine xL (SqL.of g) hat ?_
            repeat none_booked
            refine ⟨n, rfl, by omega, by omega, fun L hL => ?_⟩
            have nL := S3.ne hL
            refine ⟨fun i H2 => ∃ rs : List Int, H2 L = some (.lst (rs.map V.int)) ∧ rs.length = i ∧ (∀ r ∈ rs, 0 ≤ r ∧ r < many) ∧ Ext sa H3 H2 ∧ Strm K H2 sa la ns, ⟨[], upd_same, rfl, fun r hr => by simp at hr, Ext.of (same_new hL), S3.same (same_new hL)⟩, fun i H2 hi p => ?_, fun H2 p => ?_⟩
            · obtain ⟨rs, g2, hl2, hb2, x2, S2⟩ := p
              intro s0 H0 C cl fp
              repeat none_booked
              refine ⟨sa, la, ns, many, rfl, S2, by omega, by omega, fun H4 r4 x4 S4 r40 r41 => ?_⟩
              have x34 := (x2.trans x4).new (o := .lst (rs.map V.int ++ [.int r4])) hL
              refine ⟨rs.map V.int, x4.get nL g2, lt_line (by rw [List.length_map]; omega), rs ++ [r4], by rw [upd_same, List.map_append]; rfl, by simp [hl2], fun r hr => ?_, x34, S3.of x34 S4 (upd_ne (fun z => nL z.symm))⟩
              rcases List.mem_append.mp hr with hr | hr
              · exact hb2 r hr
              · have : r = r4 := by simpa using hr
                subst this
                exact ⟨r40, r41⟩
            · obtain ⟨rs, g2, hl2, hb2, x2, S2⟩ := p
              repeat none_booked
              refine ⟨by show 5 ≤ sizeLine; decide, fun p5 hp5 => ?_⟩
              have np5 := S2.ne hp5
              repeat none_booked
              refine ⟨sa, la, ns, 5, rfl, S2.same (same_new hp5), by decide, by decide, fun H6 r6 x6 S6 r60 r61 => ?_⟩
              have g6 := x6.get np5 upd_same
              have gL : H6 L = some (.lst (rs.map V.int)) := x6.get nL (same_new hp5 _ _ g2)
              have xx6 : Ext sa H H6 := xx.trans (x2.trans ((Ext.of (same_new hp5)).trans x6))
              obtain ⟨z, hat6, hz6⟩ : ∃ z : Str, atI [V.str "f", V.str "f", V.str "fa", V.str "cons", V.str "cell"] r6 = some (.str z) ∧ strAtom z = true := by
                have cs : r6 = 0 ∨ r6 = 1 ∨ r6 = 2 ∨ r6 = 3 ∨ r6 = 4 := by omega
                rcases cs with rfl | rfl | rfl | rfl | rfl
                · exact ⟨_, rfl, by decide +kernel⟩
                · exact ⟨_, rfl, by decide +kernel⟩
                · exact ⟨_, rfl, by decide +kernel⟩
                · exact ⟨_, rfl, by decide +kernel⟩
                · exact ⟨_, rfl, by decide +kernel⟩
              refine xL (SqL.of g6) hat6 ?_
              repeat none_booked
              refine fTupL (SqL.of gL) (fun t ht => ?_)
              repeat none_booked
              refine ⟨by show 3 ≤ sizeLine; decide, fun p7 hp7 => ?_⟩
              have ht7 : t ≠ p7 := fun e => by rw [← e, upd_same] at hp7; cases hp7
              refine q _ _ (.tuple [.str "tuple", .str z, .tuple (rs.map .int)]) (xx6.trans ((Ext.of (same_new ht)).trans (Ext.of (same_new hp7)))) ((S6.same (same_new ht)).same (same_new hp7)) (dp_new hp7 (not_mem1 ((S6.same (same_new ht)).ne hp7)) (.cons (.str _) (.cons (.str _) (.cons (dp_new ht (not_mem1 (S6.ne ht)) (dpAll_ints rs)) .nil)))) ?_ ?_
              · rw [nodeOk_3, show atomOk (.str z) = true from hz6, if_neg (by decide +kernel), show decide (V.str "tuple" = V.str "tuple") = true by decide +kernel]
                show (decide (1 ≤ (rs.map PyData.int).length) && (decide ((rs.map PyData.int).length ≤ 6) && (rs.map PyData.int).all (numOk 0 (many - 1)))) = true
                rw [List.length_map, decide_eq_true (show 1 ≤ rs.length by omega), decide_eq_true (show rs.length ≤ 6 by omega), Bool.true_and, Bool.true_and, List.all_eq_true]
                intro d hd
                obtain ⟨r, hr, rfl⟩ := List.mem_map.mp hd
                have := hb2 r hr
                exact numOk_int this.1 (by omega)
              · refine tup_three (by decide +kernel) (atom_lay hz6) ?_
                show (decide ((rs.map PyData.int).length ≤ 1000) && (rs.map PyData.int).all (tupN 1)) = true
                rw [List.length_map, decide_eq_true (show rs.length ≤ 1000 by omega), Bool.true_and, List.all_eq_true]
                intro d hd
                obtain ⟨r, hr, rfl⟩ := List.mem_map.mp hd
                rfl
def spLaGraph (K : PySem.W.Frag) : Sp := fun vs H Q _ => ∃ (sa la : Addr) (ns : List Int) (most : Int), vs = [.ref sa, .int most] ∧ Strm K H sa la ns ∧ 1 ≤ most ∧ most ≤ 100 ∧ ∀ (H' : Hp) (v : V) (ds : List PyData), Ext sa H H' → Strm K H' sa la ns → Dp K (cut [sa] H') v (.tuple ds) → 1 ≤ ds.length → ds.length ≤ most → (∀ d ∈ ds, nodeOk ds.length d = true ∧ tupN 3 d = true) → Q v H'
theorem ok_lagraph {f : Addr} {fd : FuncData} (F : Fun K "_law_graph" "_law_graph" sLaGraph f fd) (hm : mg "_law_graph" = some (.ref f)) (bd : Binds K fd ["stream", "most"] []) (c1 : Cl P w K mg base 1 "_law_draw" (spDraw K)) (c2 : Cl P w K mg base 3 "_law_node" (spLaNode K)) (mr : mg "range" = none) (mt : mg "tuple" = none) : Cl P w K mg base 4 "_law_graph" (spLaGraph K) := by
  refine cl_mk (sc := ?sc) (body := ?body) F hm bd scLaGraph ?hsc ?hb (fun vs H Q E h => ?_) (fun cdv A outer s H vs Q E hr nd h => ?_)
  case hsc => conv => lhs; whnf
  case hb => conv => lhs; whnf
  · obtain ⟨sa, la, ns, most, rfl, _⟩ := h
    rfl
  · obtain ⟨sa, la, ns, most, rfl, S, n0, n1, q⟩ := h
    repeat none_booked
    refine ⟨sa, la, ns, most, rfl, S, by omega, by omega, fun H1 r x1 S1 r0 r1 => ?_⟩
    repeat none_booked
    refine eLcR 3 mr ?_ (by rfl) (by assumption) (by intros; rfl) (blkOk_by (by rfl))
    repeat none_booked
    refine ⟨1 + r, rfl, by omega, by omega, fun L hL => ?_⟩
    have nL := S1.ne hL
    refine ⟨fun i H2 => ∃ (vs : List V) (ds : List PyData), H2 L = some (.lst vs) ∧ DpAll K (cut [L, sa] H2) vs ds ∧ vs.length = i ∧ (∀ d ∈ ds, nodeOk (1 + r) d = true ∧ tupN 3 d = true) ∧ Ext sa H1 H2 ∧ Strm K H2 sa la ns, ⟨[], [], upd_same, .nil, rfl, fun d hd => by simp at hd, Ext.of (same_new hL), S1.same (same_new hL)⟩, fun i H2 hi p => ?_, fun H2 p => ?_⟩
    · obtain ⟨vs, ds, g2, d2, hl2, hb2, x2, S2⟩ := p
      intro s0 H0 C cl fp
      repeat none_booked
      refine ⟨sa, la, ns, 1 + r, rfl, S2, by omega, by omega, fun H4 v d x4 S4 d4 ok4 t4 => ?_⟩
      have x34 := (x2.trans x4).new (o := .lst (vs ++ [v])) hL
      have g4 := x4.get nL g2
      have e1 : Same (cut [L, sa] H2) (cut [L, sa] H4) := by
        rw [← cut_cut, ← cut_cut]
        exact Same.cut x4
      have e2 : cut [L, sa] (upd H4 L (.lst (vs ++ [v]))) = cut [L, sa] H4 := cut_upd (by simp)
      refine ⟨vs, g4, lt_line (by omega), vs ++ [v], ds ++ [d], upd_same, ?_, by simp [hl2], fun y hy => ?_, x34, S1.of x34 S4 (upd_ne (fun z => nL z.symm))⟩
      · rw [e2]
        refine dpAll_push (dpAll_mono e1 d2) ?_
        rw [← cut_cut]
        exact dp_avoid (cut_get (not_mem1 nL) g4) 3 d v t4 d4
      · rcases List.mem_append.mp hy with hy | hy
        · exact hb2 y hy
        · have : y = d := by simpa using hy
          subst this
          exact ⟨ok4, t4⟩
    · obtain ⟨vs, ds, g2, d2, hl2, hb2, x2, S2⟩ := p
      have hds := dpAll_len d2
      repeat none_booked
      refine fTupL (SqL.of g2) (fun t ht => ?_)
      have e3 : ((ds.length : Nat) : Int) = 1 + r := by omega
      refine q _ _ ds ((x1.trans x2).trans (Ext.of (same_new ht))) (S2.same (same_new ht)) (dp_new ht (not_mem1 (S2.ne ht)) (dpAll_mono (cut_mono (by simp) (Same.refl _) : Same (cut [L, sa] H2) (cut [sa] H2)) d2)) (by omega) (by omega) (fun d hd => by rw [e3]; exact hb2 d hd)
end
end K1

namespace K1
open PySem PySem.Spec PyProof.Rows L2 Wk
local macro_rules | `(tactic| none_booked) => `(tactic| first
  | refine eInt ?_ | refine eStr ?_ | (refine eNm ?_; first | refine nAt 0 (by rfl) (by rfl) (by first | exact Or.inl rfl | exact Or.inr (Or.inl rfl) | exact Or.inr (Or.inr rfl)) (by rfl) (by rfl) ?_ | refine nAt 1 (by rfl) (by rfl) (by first | exact Or.inl rfl | exact Or.inr (Or.inl rfl) | exact Or.inr (Or.inr rfl)) (by rfl) (by rfl) ?_ | refine nAt 2 (by rfl) (by rfl) (by first | exact Or.inl rfl | exact Or.inr (Or.inl rfl) | exact Or.inr (Or.inr rfl)) (by rfl) (by rfl) ?_ | refine nAt 3 (by rfl) (by rfl) (by first | exact Or.inl rfl | exact Or.inr (Or.inl rfl) | exact Or.inr (Or.inr rfl)) (by rfl) (by rfl) ?_ | refine nAt 4 (by rfl) (by rfl) (by first | exact Or.inl rfl | exact Or.inr (Or.inl rfl) | exact Or.inr (Or.inr rfl)) (by rfl) (by rfl) ?_ | refine nAt 5 (by rfl) (by rfl) (by first | exact Or.inl rfl | exact Or.inr (Or.inl rfl) | exact Or.inr (Or.inr rfl)) (by rfl) (by rfl) ?_ | refine nAt 6 (by rfl) (by rfl) (by first | exact Or.inl rfl | exact Or.inr (Or.inl rfl) | exact Or.inr (Or.inr rfl)) (by rfl) (by rfl) ?_ | refine nAt 7 (by rfl) (by rfl) (by first | exact Or.inl rfl | exact Or.inr (Or.inl rfl) | exact Or.inr (Or.inr rfl)) (by rfl) (by rfl) ?_ | refine nAt 8 (by rfl) (by rfl) (by first | exact Or.inl rfl | exact Or.inr (Or.inl rfl) | exact Or.inr (Or.inr rfl)) (by rfl) (by rfl) ?_) | refine sCons ?_ | refine sNil ?_ | refine sIf ?_ | refine sRet ?_ | (refine sStore ?_; first | refine stAt 0 (by rfl) ?_ (by assumption) (by first | exact Or.inl rfl | exact Or.inr rfl) (by rfl) (by first | exact Or.inl rfl | exact Or.inr rfl) | refine stAt 1 (by rfl) ?_ (by assumption) (by first | exact Or.inl rfl | exact Or.inr rfl) (by rfl) (by first | exact Or.inl rfl | exact Or.inr rfl) | refine stAt 2 (by rfl) ?_ (by assumption) (by first | exact Or.inl rfl | exact Or.inr rfl) (by rfl) (by first | exact Or.inl rfl | exact Or.inr rfl) | refine stAt 3 (by rfl) ?_ (by assumption) (by first | exact Or.inl rfl | exact Or.inr rfl) (by rfl) (by first | exact Or.inl rfl | exact Or.inr rfl) | refine stAt 4 (by rfl) ?_ (by assumption) (by first | exact Or.inl rfl | exact Or.inr rfl) (by rfl) (by first | exact Or.inl rfl | exact Or.inr rfl) | refine stAt 5 (by rfl) ?_ (by assumption) (by first | exact Or.inl rfl | exact Or.inr rfl) (by rfl) (by first | exact Or.inl rfl | exact Or.inr rfl) | refine stAt 6 (by rfl) ?_ (by assumption) (by first | exact Or.inl rfl | exact Or.inr rfl) (by rfl) (by first | exact Or.inl rfl | exact Or.inr rfl) | refine stAt 7 (by rfl) ?_ (by assumption) (by first | exact Or.inl rfl | exact Or.inr rfl) (by rfl) (by first | exact Or.inl rfl | exact Or.inr rfl) | refine stAt 8 (by rfl) ?_ (by assumption) (by first | exact Or.inl rfl | exact Or.inr rfl) (by rfl) (by first | exact Or.inl rfl | exact Or.inr rfl)) | refine sExpr ?_
  | refine aNil ?_ | refine aCons ?_ | refine eBl ?_ | refine eNon ?_ | refine eBin ?_ | refine eCmp ?_ | refine eIx ?_ | refine eTupN ?_ | refine eLstN ?_ | refine eChain ?_
  | refine eSl ?_ | refine oNone ?_ | refine oSome ?_ | refine eNot ?_ | refine eUn ?_ | refine eAnd ?_ | refine eOr ?_ | refine eOne ?_ | refine eIf ?_
  | refine tCmp ?_ | refine tChain ?_ | refine tNot ?_ | refine pAnd1 ?_ | refine pOr1 ?_ | refine pAnd ?_ | refine pOr ?_
  | refine kLen (by assumption) ?_ | refine kAbs (by assumption) ?_ | refine kInt (by assumption) ?_ | refine kList (by assumption) ?_ | refine kTuple (by assumption) ?_ | refine kAll (by assumption) ?_ | refine kIsi (by assumption) ?_
  | refine tyInt (by assumption) ?_ | refine tyBool (by assumption) ?_ | refine tyStr (by assumption) ?_ | refine tyTuple (by assumption) ?_ | refine tyList (by assumption) ?_
  | refine eCall (by assumption) (by assumption) (by decide) ?_ | refine eGlobI (by assumption) ?_
  | refine tPb ?_
  | refine bAdd ?_ | refine bSub ?_ | refine uNeg ?_ | refine cLt ?_ | refine cLe ?_ | refine cGt ?_ | refine cGe ?_ | refine cEq (by rfl) ?_ | refine cNe (by rfl) ?_
  | refine fInt ?_ | refine fAbs ?_
  | refine kIsascii ?_ | refine kIsalnum ?_ | refine kIsalpha ?_ | refine kIslower ?_
  | refine ⟨rfl, mIsascii ?_⟩ | refine ⟨rfl, mIsalnum ?_⟩ | refine ⟨rfl, mIsalpha ?_⟩ | refine ⟨rfl, mIslower ?_⟩
  | refine gsNil ?_ | refine gsCons ?_ | (first | refine gNm 0 (by rfl) ?_ (by assumption) (by first | exact Or.inl rfl | exact Or.inr rfl) (by first | exact Or.inl rfl | exact Or.inr rfl) | refine gNm 1 (by rfl) ?_ (by assumption) (by first | exact Or.inl rfl | exact Or.inr rfl) (by first | exact Or.inl rfl | exact Or.inr rfl) | refine gNm 2 (by rfl) ?_ (by assumption) (by first | exact Or.inl rfl | exact Or.inr rfl) (by first | exact Or.inl rfl | exact Or.inr rfl) | refine gNm 3 (by rfl) ?_ (by assumption) (by first | exact Or.inl rfl | exact Or.inr rfl) (by first | exact Or.inl rfl | exact Or.inr rfl) | refine gNm 4 (by rfl) ?_ (by assumption) (by first | exact Or.inl rfl | exact Or.inr rfl) (by first | exact Or.inl rfl | exact Or.inr rfl) | refine gNm 5 (by rfl) ?_ (by assumption) (by first | exact Or.inl rfl | exact Or.inr rfl) (by first | exact Or.inl rfl | exact Or.inr rfl) | refine gNm 6 (by rfl) ?_ (by assumption) (by first | exact Or.inl rfl | exact Or.inr rfl) (by first | exact Or.inl rfl | exact Or.inr rfl) | refine gNm 7 (by rfl) ?_ (by assumption) (by first | exact Or.inl rfl | exact Or.inr rfl) (by first | exact Or.inl rfl | exact Or.inr rfl) | refine gNm 8 (by rfl) ?_ (by assumption) (by first | exact Or.inl rfl | exact Or.inr rfl) (by first | exact Or.inl rfl | exact Or.inr rfl)))
theorem dp_newT {K : PySem.W.Frag} {H H' : Hp} {as : List Addr} {p : Addr} {vs : List V} {ds : List PyData} (s : Same H H') (g : H' p = some (.tup vs)) (hn : p ∉ as) (h : DpAll K (cut as H) vs ds) : Dp K (cut as H') (.ref p) (.tuple ds) :=
  .tup (SqT.of (cut_get hn g)) (dpAll_mono (Same.cut s) h)
theorem dp_newL {K : PySem.W.Frag} {H H' : Hp} {as : List Addr} {p : Addr} {vs : List V} {ds : List PyData} (s : Same H H') (g : H' p = some (.lst vs)) (hn : p ∉ as) (h : DpAll K (cut as H) vs ds) : Dp K (cut as H') (.ref p) (.list ds) :=
  .lst (SqL.of (cut_get hn g)) (dpAll_mono (Same.cut s) h)
abbrev sOdd : Stmt := topS 23
theorem scOdd : FnScope ["stream", "many", "odd"] ["stream", "many"] (defScope sOdd) := ⟨rfl, rfl, rfl, by decide +kernel, rfl, by decide +kernel, by decide +kernel⟩
def oddDs (many : Int) : List PyData := [.bool true, .bool false, .none, .int (-1), .int many, .int (10 ^ (9 : Int).toNat), .int (10 ^ (9 : Int).toNat + 1), .int (-(10 ^ (9 : Int).toNat) - 1), .str "", .str "A", .str "1a", .str "a_b", .str "abcdefghijklm", .str "a\n", .str "aB", .str "a b", .str "a-", .str "a~", .str "a0B",
  .tuple [], .tuple [.int 0, .int 0, .int 0, .int 0, .int 0, .int 0], .tuple [.int 0, .int 0, .int 0, .int 0, .int 0, .int 0, .int 0], .list [.int 0], .tuple [.int 0, .int many], .tuple [.bool true], .tuple [.none], .str "var", .str "int", .str "atom", .str "tuple", .str "name", .str "z"]
theorem odd_fine (many : Int) : (oddDs many).all (fineN 2) = true := by
  have e : (oddDs many).all (fineN 2) = (oddDs 0).all (fineN 2) := rfl
  rw [e]
  decide +kernel
section
variable {P : Program} {w : World} {K : PySem.W.Frag} {mg : Str → Option Value} {base : Heap}
def spOdd (K : PySem.W.Frag) : Sp := fun vs H Q _ => ∃ (sa la : Addr) (ns : List Int) (many : Int), vs = [.ref sa, .int many] ∧ Strm K H sa la ns ∧ ∀ (H' : Hp) (v : V) (d : PyData), Ext sa H H' → Strm K H' sa la ns → Dp K (cut [sa] H') v d → fineN 2 d = true → Q v H'
theorem ok_odd {f : Addr} {fd : FuncData} (F : Fun K "_law_odd" "_law_odd" sOdd f fd) (hm : mg "_law_odd" = some (.ref f)) (bd : Binds K fd ["stream", "many"] []) (c1 : Cl P w K mg base 1 "_law_draw" (spDraw K)) (ml : mg "len" = none) : Cl P w K mg base 2 "_law_odd" (spOdd K) := by
  refine cl_mk (sc := ?sc) (body := ?body) F hm bd scOdd ?hsc ?hb (fun vs H Q E h => ?_) (fun cdv A outer s H vs Q E hr nd h => ?_)
  case hsc => conv => lhs; whnf
  case hb => conv => lhs; whnf
  · obtain ⟨sa, la, ns, many, rfl, _⟩ := h
    rfl
  · obtain ⟨sa, la, ns, many, rfl, S, q⟩ := h
    repeat none_booked
    refine bPow ⟨by decide, by decide, by decide⟩ ?_
    repeat none_booked
    refine bPow ⟨by decide, by decide, by decide⟩ ?_
    repeat none_booked
    refine bPow ⟨by decide, by decide, by decide⟩ ?_
    repeat none_booked
    refine ⟨by show 19 ≤ 100000; decide, fun p1 H1 hp1 s1 g1 => ?_⟩
    have S1 := S.same s1
    repeat none_booked
    refine ⟨by show 0 ≤ 100000; decide, fun p2 H2 hp2 s2 g2 => ?_⟩
    have S2 := S1.same s2
    repeat none_booked
    refine ⟨by show 1 ≤ 100000; decide, fun p3 H3 hp3 s3 g3 => ?_⟩
    have S3 := S2.same s3
    repeat none_booked
    refine bRepT (SqT.of g3) (by simp) (by decide) (by decide) (by decide) (fun p4 H4 hp4 s4 g4 => ?_)
    have S4 := S3.same s4
    repeat none_booked
    refine ⟨by show 1 ≤ 100000; decide, fun p5 H5 hp5 s5 g5 => ?_⟩
    have S5 := S4.same s5
    repeat none_booked
    refine bRepT (SqT.of g5) (by simp) (by decide) (by decide) (by decide) (fun p6 H6 hp6 s6 g6 => ?_)
    have S6 := S5.same s6
    repeat none_booked
    refine ⟨by show 1 ≤ 100000; decide, fun p7 H7 hp7 s7 g7 => ?_⟩
    have S7 := S6.same s7
    repeat none_booked
    refine ⟨by show 2 ≤ 100000; decide, fun p8 H8 hp8 s8 g8 => ?_⟩
    have S8 := S7.same s8
    repeat none_booked
    refine ⟨by show 1 ≤ 100000; decide, fun p9 H9 hp9 s9 g9 => ?_⟩
    have S9 := S8.same s9
    repeat none_booked
    refine ⟨by show 1 ≤ 100000; decide, fun pa Ha hpa sa' ga => ?_⟩
    have Sa := S9.same sa'
    repeat none_booked
    refine ⟨by show 13 ≤ 100000; decide, fun pb Hb hpb sb gb => ?_⟩
    have Sb := Sa.same sb
    have t1 : Same H1 Hb := s2.trans (s3.trans (s4.trans (s5.trans (s6.trans (s7.trans (s8.trans (s9.trans (sa'.trans sb))))))))
    refine bAddLN (t1 _ _ g1) gb (by show 32 ≤ 100000; decide) (fun pc Hc hpc sc gc => ?_)
    have Sc := Sb.same sc
    repeat none_booked
    refine fLenL (SqL.of gc) ?_
    repeat none_booked
    refine ⟨sa, la, ns, 32, rfl, Sc, by decide, by decide, fun Hd r xd Sd r0 r1 => ?_⟩
    have gd := xd.get (Sb.ne hpc) gc
    have r32 : r < 32 := r1
    have t9 : Same H9 Hc := sa'.trans (sb.trans sc)
    have t8 : Same H8 Hc := s9.trans t9
    have t7 : Same H7 Hc := s8.trans t8
    have t6 : Same H6 Hc := s7.trans t7
    have t4 : Same H4 Hc := s5.trans (s6.trans t6)
    have t2 : Same H2 Hc := s3.trans (s4.trans t4)
    have up : ∀ {h v d}, Same h Hc → Dp K (cut [sa] h) v d → Dp K (cut [sa] Hd) v d := fun s d => dp_mono ((Same.cut s).trans xd) d
    have d2 : Dp K (cut [sa] Hd) (.ref p2) (.tuple []) := up t2 (dp_newT s2 g2 (not_mem1 (S1.ne hp2)) .nil)
    have d4 : Dp K (cut [sa] Hd) (.ref p4) (.tuple [.int 0, .int 0, .int 0, .int 0, .int 0, .int 0]) := up t4 (dp_newT s4 g4 (not_mem1 (S3.ne hp4)) (.cons (.int _) (.cons (.int _) (.cons (.int _) (.cons (.int _) (.cons (.int _) (.cons (.int _) .nil)))))))
    have d6 : Dp K (cut [sa] Hd) (.ref p6) (.tuple [.int 0, .int 0, .int 0, .int 0, .int 0, .int 0, .int 0]) := up t6 (dp_newT s6 g6 (not_mem1 (S5.ne hp6)) (.cons (.int _) (.cons (.int _) (.cons (.int _) (.cons (.int _) (.cons (.int _) (.cons (.int _) (.cons (.int _) .nil))))))))
    have d7 : Dp K (cut [sa] Hd) (.ref p7) (.list [.int 0]) := up t7 (dp_newL s7 g7 (not_mem1 (S6.ne hp7)) (.cons (.int _) .nil))
    have d8 : Dp K (cut [sa] Hd) (.ref p8) (.tuple [.int 0, .int many]) := up t8 (dp_newT s8 g8 (not_mem1 (S7.ne hp8)) (.cons (.int _) (.cons (.int _) .nil)))
    have d9 : Dp K (cut [sa] Hd) (.ref p9) (.tuple [.bool true]) := up t9 (dp_newT s9 g9 (not_mem1 (S8.ne hp9)) (.cons (.bl _) .nil))
    have da : Dp K (cut [sa] Hd) (.ref pa) (.tuple [.none]) := up (sb.trans sc) (dp_newT sa' ga (not_mem1 (S9.ne hpa)) (.cons .non .nil))
    have all : DpAll K (cut [sa] Hd) _ (oddDs many) := .cons (.bl true) (.cons (.bl false) (.cons .non (.cons (.int _) (.cons (.int many) (.cons (.int _) (.cons (.int _) (.cons (.int _) (.cons (.str "") (.cons (.str "A") (.cons (.str "1a") (.cons (.str "a_b") (.cons (.str "abcdefghijklm") (.cons (.str "a\n") (.cons (.str "aB") (.cons (.str "a b") (.cons (.str "a-") (.cons (.str "a~") (.cons (.str "a0B") (.cons d2 (.cons d4 (.cons d6 (.cons d7 (.cons d8 (.cons d9 (.cons da (.cons (.str "var") (.cons (.str "int") (.cons (.str "atom") (.cons (.str "tuple") (.cons (.str "name") (.cons (.str "z") .nil)))))))))))))))))))))))))))))))
    have hlt : r.toNat < (oddDs many).length := by
      rw [show (oddDs many).length = 32 from rfl]
      omega
    rw [← dpAll_len all] at hlt
    have hv := List.getElem?_eq_getElem hlt
    obtain ⟨d, hd, hdp⟩ := dpAll_get all hv
    have er : r = (r.toNat : Int) := by omega
    rw [er]
    refine xL (SqL.of gd) (atI_nat hv) (q _ _ d ((Ext.of (s1.trans (t1.trans sc))).trans xd) Sd hdp ?_)
    exact List.all_eq_true.mp (odd_fine many) d (List.mem_of_getElem? hd)
end
end K1

namespace K1
open PySem PySem.Spec PyProof.Rows L2 Wk
local macro_rules | `(tactic| none_booked) => `(tactic| first
  | refine eInt ?_ | refine eStr ?_ | (refine eNm ?_; first | refine nAt 0 (by rfl) (by rfl) (by first | exact Or.inl rfl | exact Or.inr (Or.inl rfl) | exact Or.inr (Or.inr rfl)) (by rfl) (by rfl) ?_ | refine nAt 1 (by rfl) (by rfl) (by first | exact Or.inl rfl | exact Or.inr (Or.inl rfl) | exact Or.inr (Or.inr rfl)) (by rfl) (by rfl) ?_ | refine nAt 2 (by rfl) (by rfl) (by first | exact Or.inl rfl | exact Or.inr (Or.inl rfl) | exact Or.inr (Or.inr rfl)) (by rfl) (by rfl) ?_ | refine nAt 3 (by rfl) (by rfl) (by first | exact Or.inl rfl | exact Or.inr (Or.inl rfl) | exact Or.inr (Or.inr rfl)) (by rfl) (by rfl) ?_ | refine nAt 4 (by rfl) (by rfl) (by first | exact Or.inl rfl | exact Or.inr (Or.inl rfl) | exact Or.inr (Or.inr rfl)) (by rfl) (by rfl) ?_ | refine nAt 5 (by rfl) (by rfl) (by first | exact Or.inl rfl | exact Or.inr (Or.inl rfl) | exact Or.inr (Or.inr rfl)) (by rfl) (by rfl) ?_ | refine nAt 6 (by rfl) (by rfl) (by first | exact Or.inl rfl | exact Or.inr (Or.inl rfl) | exact Or.inr (Or.inr rfl)) (by rfl) (by rfl) ?_ | refine nAt 7 (by rfl) (by rfl) (by first | exact Or.inl rfl | exact Or.inr (Or.inl rfl) | exact Or.inr (Or.inr rfl)) (by rfl) (by rfl) ?_ | refine nAt 8 (by rfl) (by rfl) (by first | exact Or.inl rfl | exact Or.inr (Or.inl rfl) | exact Or.inr (Or.inr rfl)) (by rfl) (by rfl) ?_) | refine sCons ?_ | refine sNil ?_ | refine sIf ?_ | refine sRet ?_ | (refine sStore ?_; first | refine stAt 0 (by rfl) ?_ (by assumption) (by first | exact Or.inl rfl | exact Or.inr rfl) (by rfl) (by first | exact Or.inl rfl | exact Or.inr rfl) | refine stAt 1 (by rfl) ?_ (by assumption) (by first | exact Or.inl rfl | exact Or.inr rfl) (by rfl) (by first | exact Or.inl rfl | exact Or.inr rfl) | refine stAt 2 (by rfl) ?_ (by assumption) (by first | exact Or.inl rfl | exact Or.inr rfl) (by rfl) (by first | exact Or.inl rfl | exact Or.inr rfl) | refine stAt 3 (by rfl) ?_ (by assumption) (by first | exact Or.inl rfl | exact Or.inr rfl) (by rfl) (by first | exact Or.inl rfl | exact Or.inr rfl) | refine stAt 4 (by rfl) ?_ (by assumption) (by first | exact Or.inl rfl | exact Or.inr rfl) (by rfl) (by first | exact Or.inl rfl | exact Or.inr rfl) | refine stAt 5 (by rfl) ?_ (by assumption) (by first | exact Or.inl rfl | exact Or.inr rfl) (by rfl) (by first | exact Or.inl rfl | exact Or.inr rfl) | refine stAt 6 (by rfl) ?_ (by assumption) (by first | exact Or.inl rfl | exact Or.inr rfl) (by rfl) (by first | exact Or.inl rfl | exact Or.inr rfl) | refine stAt 7 (by rfl) ?_ (by assumption) (by first | exact Or.inl rfl | exact Or.inr rfl) (by rfl) (by first | exact Or.inl rfl | exact Or.inr rfl) | refine stAt 8 (by rfl) ?_ (by assumption) (by first | exact Or.inl rfl | exact Or.inr rfl) (by rfl) (by first | exact Or.inl rfl | exact Or.inr rfl)) | refine sExpr ?_
  | refine aNil ?_ | refine aCons ?_ | refine eBl ?_ | refine eNon ?_ | refine eBin ?_ | refine eCmp ?_ | refine eIx ?_ | refine eTupN ?_ | refine eLstN ?_ | refine eChain ?_
  | refine eSl ?_ | refine oNone ?_ | refine oSome ?_ | refine eNot ?_ | refine eUn ?_ | refine eAnd ?_ | refine eOr ?_ | refine eOne ?_ | refine eIf ?_
  | refine tCmp ?_ | refine tChain ?_ | refine tNot ?_ | refine pAnd1 ?_ | refine pOr1 ?_ | refine pAnd ?_ | refine pOr ?_
  | refine kLen (by assumption) ?_ | refine kAbs (by assumption) ?_ | refine kInt (by assumption) ?_ | refine kList (by assumption) ?_ | refine kTuple (by assumption) ?_ | refine kAll (by assumption) ?_ | refine kIsi (by assumption) ?_
  | refine tyInt (by assumption) ?_ | refine tyBool (by assumption) ?_ | refine tyStr (by assumption) ?_ | refine tyTuple (by assumption) ?_ | refine tyList (by assumption) ?_
  | refine eCall (by assumption) (by assumption) (by decide) ?_ | refine eGlobI (by assumption) ?_
  | refine tPb ?_
  | refine bAdd ?_ | refine bSub ?_ | refine uNeg ?_ | refine cLt ?_ | refine cLe ?_ | refine cGt ?_ | refine cGe ?_ | refine cEq (by rfl) ?_ | refine cNe (by rfl) ?_
  | refine fInt ?_ | refine fAbs ?_
  | refine kIsascii ?_ | refine kIsalnum ?_ | refine kIsalpha ?_ | refine kIslower ?_
  | refine ⟨rfl, mIsascii ?_⟩ | refine ⟨rfl, mIsalnum ?_⟩ | refine ⟨rfl, mIsalpha ?_⟩ | refine ⟨rfl, mIslower ?_⟩
  | refine gsNil ?_ | refine gsCons ?_ | (first | refine gNm 0 (by rfl) ?_ (by assumption) (by first | exact Or.inl rfl | exact Or.inr rfl) (by first | exact Or.inl rfl | exact Or.inr rfl) | refine gNm 1 (by rfl) ?_ (by assumption) (by first | exact Or.inl rfl | exact Or.inr rfl) (by first | exact Or.inl rfl | exact Or.inr rfl) | refine gNm 2 (by rfl) ?_ (by assumption) (by first | exact Or.inl rfl | exact Or.inr rfl) (by first | exact Or.inl rfl | exact Or.inr rfl) | refine gNm 3 (by rfl) ?_ (by assumption) (by first | exact Or.inl rfl | exact Or.inr rfl) (by first | exact Or.inl rfl | exact Or.inr rfl) | refine gNm 4 (by rfl) ?_ (by assumption) (by first | exact Or.inl rfl | exact Or.inr rfl) (by first | exact Or.inl rfl | exact Or.inr rfl) | refine gNm 5 (by rfl) ?_ (by assumption) (by first | exact Or.inl rfl | exact Or.inr rfl) (by first | exact Or.inl rfl | exact Or.inr rfl) | refine gNm 6 (by rfl) ?_ (by assumption) (by first | exact Or.inl rfl | exact Or.inr rfl) (by first | exact Or.inl rfl | exact Or.inr rfl) | refine gNm 7 (by rfl) ?_ (by assumption) (by first | exact Or.inl rfl | exact Or.inr rfl) (by first | exact Or.inl rfl | exact Or.inr rfl) | refine gNm 8 (by rfl) ?_ (by assumption) (by first | exact Or.inl rfl | exact Or.inr rfl) (by first | exact Or.inl rfl | exact Or.inr rfl)))
theorem dpAll_take {K : PySem.W.Frag} {H : Hp} : ∀ {vs : List V} {ds : List PyData} (n : Nat), DpAll K H vs ds → DpAll K H (vs.take n) (ds.take n)
  | _, _, 0, _ => by rw [List.take_zero, List.take_zero]; exact .nil
  | _, _, _ + 1, .nil => .nil
  | _, _, n + 1, .cons h r => .cons h (dpAll_take n r)
theorem dpAll_drop {K : PySem.W.Frag} {H : Hp} : ∀ {vs : List V} {ds : List PyData} (n : Nat), DpAll K H vs ds → DpAll K H (vs.drop n) (ds.drop n)
  | _, _, 0, h => h
  | _, _, _ + 1, .nil => .nil
  | _, _, n + 1, .cons _ r => dpAll_drop n r
theorem dpAll_app {K : PySem.W.Frag} {H : Hp} : ∀ {vs ws : List V} {ds es : List PyData}, DpAll K H vs ds → DpAll K H ws es → DpAll K H (vs ++ ws) (ds ++ es)
  | _, _, _, _, .nil, h => h
  | _, _, _, _, .cons h r, h2 => .cons h (dpAll_app r h2)
/-- a cut of data -/
def cutD (n : Nat) (ds : List PyData) (lo hi : Option Int) : List PyData := (ds.drop (HT.sIx n 0 lo)).take (HT.sIx n n hi - HT.sIx n 0 lo)
theorem dpAll_cut {K : PySem.W.Frag} {H : Hp} {vs : List V} {ds : List PyData} (lo hi : Option Int) (h : DpAll K H vs ds) : DpAll K H (cutV vs lo hi) (cutD vs.length ds lo hi) := dpAll_take _ (dpAll_drop _ h)
theorem cutD_mem {n : Nat} {ds : List PyData} {lo hi : Option Int} {d : PyData} (h : d ∈ cutD n ds lo hi) : d ∈ ds := List.mem_of_mem_drop (List.mem_of_mem_take h)
theorem cutD_len (n : Nat) (ds : List PyData) (lo hi : Option Int) : (cutD n ds lo hi).length ≤ ds.length := by
  unfold cutD
  rw [List.length_take, List.length_drop]
  omega
theorem fine_tup {n : Nat} {ds : List PyData} (hl : ds.length ≤ 1000) (h : ∀ d ∈ ds, fineN n d = true) : fineN (n + 1) (.tuple ds) = true := by
  show (decide (ds.length ≤ 1000) && ds.all (fineN n)) = true
  rw [decide_eq_true hl, Bool.true_and, List.all_eq_true]
  exact h
theorem fine_lst {n : Nat} {ds : List PyData} (hl : ds.length ≤ 1000) (h : ∀ d ∈ ds, fineN n d = true) : fineN (n + 1) (.list ds) = true := by
  show (decide (ds.length ≤ 1000) && ds.all (fineN n)) = true
  rw [decide_eq_true hl, Bool.true_and, List.all_eq_true]
  exact h
theorem fine_tup_of {n : Nat} {ds : List PyData} (h : fineN (n + 1) (.tuple ds) = true) : ds.length ≤ 1000 ∧ ∀ d ∈ ds, fineN n d = true := by
  have h' : (decide (ds.length ≤ 1000) && ds.all (fineN n)) = true := h
  rw [Bool.and_eq_true, List.all_eq_true] at h'
  exact ⟨of_decide_eq_true h'.1, h'.2⟩
theorem nodeOk_tup {n : Int} {d : PyData} (h : nodeOk n d = true) : ∃ ds, d = .tuple ds ∧ (ds.length = 2 ∨ ds.length = 3) := by
  match d with
  | .tuple ds =>
    refine ⟨ds, rfl, ?_⟩
    by_cases h2 : ds.length = 2
    · exact .inl h2
    · by_cases h3 : ds.length = 3
      · exact .inr h3
      · rw [nodeOk_long h2 h3] at h
        cases h
  | .none => cases h
  | .bool _ => cases h
  | .int _ => cases h
  | .str _ => cases h
  | .list _ => cases h
  | .dict _ => cases h
abbrev sChg : Stmt := topS 24
theorem scChg : FnScope ["stream", "value", "at", "node", "pick", "spot"] ["stream", "value"] (defScope sChg) := ⟨rfl, rfl, rfl, by decide +kernel, rfl, by decide +kernel, by decide +kernel⟩
section
variable {P : Program} {w : World} {K : PySem.W.Frag} {mg : Str → Option Value} {base : Heap}
def spChg (K : PySem.W.Frag) : Sp := fun vs H Q _ => ∃ (sa la : Addr) (ns : List Int) (v : V) (ds : List PyData), vs = [.ref sa, v] ∧ Strm K H sa la ns ∧ Dp K (cut [sa] H) v (.tuple ds) ∧ 1 ≤ ds.length ∧ ds.length ≤ 400 ∧ (∀ d ∈ ds, nodeOk ds.length d = true ∧ fineN 3 d = true) ∧ ∀ (H' : Hp) (v : V) (d : PyData), Ext sa H H' → Strm K H' sa la ns → Dp K (cut [sa] H') v d → fineN 4 d = true → Q v H'
theorem ok_chg {f : Addr} {fd : FuncData} (F : Fun K "_law_changed" "_law_changed" sChg f fd) (hm : mg "_law_changed" = some (.ref f)) (bd : Binds K fd ["stream", "value"] []) (c1 : Cl P w K mg base 1 "_law_draw" (spDraw K)) (c2 : Cl P w K mg base 2 "_law_odd" (spOdd K)) (ml : mg "len" = none) (mi : mg "list" = none) : Cl P w K mg base 3 "_law_changed" (spChg K) := by
  refine cl_mk (sc := ?sc) (body := ?body) F hm bd scChg ?hsc ?hb (fun vs H Q E h => ?_) (fun cdv A outer s H vs Q E hr nd h => ?_)
  case hsc => conv => lhs; whnf
  case hb => conv => lhs; whnf
  · obtain ⟨sa, la, ns, v, ds, rfl, _⟩ := h
    rfl
  · obtain ⟨sa, la, ns, v, ds, rfl, S, dv, n1, n4, hok, q⟩ := h
    obtain ⟨p0, xs, rfl, hs0, ha0⟩ : ∃ p xs, v = .ref p ∧ SqT K (cut [sa] H) p xs ∧ DpAll K (cut [sa] H) xs ds := by
      cases dv with
      | tup h1 h2 => exact ⟨_, _, rfl, h1, h2⟩
    have hl0 := dpAll_len ha0
    repeat none_booked
    refine fLenT (seqT_cut hs0) ?_
    repeat none_booked
    refine ⟨sa, la, ns, _, rfl, S, by omega, by omega, fun H1 r x1 S1 r0 r1 => ?_⟩
    have hs1 := seqT_mono x1 hs0
    have ha1 := dpAll_mono x1 ha0
    repeat none_booked
    obtain ⟨k, rfl⟩ : ∃ k : Nat, r = k := ⟨r.toNat, by omega⟩
    have hk : k < xs.length := by omega
    have hxk := List.getElem?_eq_getElem hk
    obtain ⟨dn, hdn, dpn⟩ := dpAll_get ha1 hxk
    refine xT (seqT_cut hs1) (atI_nat hxk) ?_
    obtain ⟨okn, fnn⟩ := hok dn (List.mem_of_getElem? hdn)
    obtain ⟨nd, rfl, hnl⟩ := nodeOk_tup okn
    obtain ⟨hnl1, hnf⟩ := fine_tup_of fnn
    obtain ⟨pn, xn, epn, hsn, han⟩ : ∃ p ys, xs[k] = .ref p ∧ SqT K (cut [sa] H1) p ys ∧ DpAll K (cut [sa] H1) ys nd := by
      generalize xs[k] = vn at dpn
      cases dpn with
      | tup h1 h2 => exact ⟨_, _, rfl, h1, h2⟩
    rw [epn] at hxk ⊢
    have hln := dpAll_len han
    repeat none_booked
    refine ⟨sa, la, ns, 6, rfl, S1, by decide, by decide, fun H2 r2 x2 S2 r20 r21 => ?_⟩
    have hs2 := seqT_mono x2 hs1
    have ha2 := dpAll_mono x2 ha1
    have hsn2 := seqT_mono x2 hsn
    have han2 := dpAll_mono x2 han
    have xx2 := x1.trans x2
    have fd3 : ∀ d ∈ ds, fineN 3 d = true := fun d hd => (hok d hd).2
    refine sCut (fun σ' H' => ∃ (vn : V) (d : PyData) (sp : Option V), σ' = [some (.ref sa), some (.ref p0), some (.int (k : Int)), some vn, some (.int r2), sp] ∧ Ext sa H2 H' ∧ Strm K H' sa la ns ∧ Dp K (cut [sa] H') vn d ∧ fineN 3 d = true) ?_ ?_
    · have na : ∀ {h : Hp}, Strm K h sa la ns → ∀ p, h p = none → p ∉ [sa] := fun S p hp => not_mem1 (S.ne hp)
      repeat none_booked
      refine ⟨_, rfl, ?_⟩
      refine ite2' (fun h3 => ?_) (fun h3 => ?_)
      · repeat none_booked
        refine fLenT (seqT_cut hsn2) ?_
        repeat none_booked
        refine ⟨sa, la, ns, _, rfl, S2, by omega, by omega, fun H3 r3 x3 S3 r30 r31 => ?_⟩
        have hsn3 := seqT_mono x3 hsn2
        have han3 := dpAll_mono x3 han2
        have hs3 := seqT_mono x3 hs2
        repeat none_booked
        refine ⟨_, rfl, ?_⟩
        refine lT (na S3) hsn3 (fun p4 H4 s4 hs4 => ?_)
        have S4 := S3.same s4
        repeat none_booked
        refine fLenT (seqT_cut (seqT_mono (Same.cut s4) hs3)) ?_
        repeat none_booked
        refine ⟨sa, la, ns, _, rfl, S4, fun H5 v5 d5 x5 S5 dp5 f5 => ?_⟩
        repeat none_booked
        refine ⟨by show 1 ≤ 100000; decide, fun p6 H6 hp6 s6 g6 => ?_⟩
        have S6 := S5.same s6
        refine bCatT (na S6) (seqT_mono (x5.trans (Ext.of s6)) hs4) (SqT.of (cut_get (na S5 p6 hp6) g6)) ?_ (fun p7 H7 s7 hs7 => ?_)
        · have := cutD_len xn.length nd none (some r3)
          have e := dpAll_len (dpAll_cut none (some r3) han3)
          simp only [List.length_cons, List.length_nil]
          omega
        have S7 := S6.same s7
        have x37 : Ext sa H3 H7 := (Ext.of s4).trans (x5.trans ((Ext.of s6).trans (Ext.of s7)))
        repeat none_booked
        refine ⟨_, rfl, ?_⟩
        repeat none_booked
        refine lT (na S7) (seqT_mono x37 hsn3) (fun p8 H8 s8 hs8 => ?_)
        have S8 := S7.same s8
        refine bCatT (na S8) (seqT_mono (Same.cut s8) hs7) hs8 ?_ (fun p9 H9 s9 hs9 => ?_)
        · have e1 := dpAll_len (dpAll_cut none (some r3) han3)
          have e2 := dpAll_len (dpAll_cut (some (r3 + 1)) none han3)
          have := cutD_len xn.length nd none (some r3)
          have := cutD_len xn.length nd (some (r3 + 1)) none
          simp only [List.length_append, List.length_cons, List.length_nil]
          omega
        have S9 := S8.same s9
        have x39 : Ext sa H3 H9 := x37.trans ((Ext.of s8).trans (Ext.of s9))
        have x59 : Ext sa H5 H9 := (Ext.of s6).trans ((Ext.of s7).trans ((Ext.of s8).trans (Ext.of s9)))
        have han9 := dpAll_mono x39 han3
        have d9 := dp_mono x59 dp5
        repeat none_booked
        refine ⟨_, .tuple ((cutD xn.length nd none (some r3) ++ [d5]) ++ cutD xn.length nd (some (r3 + 1)) none), _, rfl, x3.trans x39, S9, .tup hs9 (dpAll_app (dpAll_app (dpAll_cut _ _ han9) (.cons d9 .nil)) (dpAll_cut _ _ han9)), fine_tup ?_ fun y hy => ?_⟩
        · have := cutD_len xn.length nd none (some r3)
          have := cutD_len xn.length nd (some (r3 + 1)) none
          simp only [List.length_append, List.length_cons, List.length_nil]
          omega
        · rcases List.mem_append.mp hy with hy | hy
          · rcases List.mem_append.mp hy with hy | hy
            · exact hnf y (cutD_mem hy)
            · have : y = d5 := by simpa using hy
              rw [this]; exact f5
          · exact hnf y (cutD_mem hy)
      · repeat none_booked
        refine ⟨_, rfl, ?_⟩
        refine ite2' (fun h4 => ?_) (fun h4 => ?_)
        · repeat none_booked
          refine ⟨_, rfl, ?_⟩
          repeat none_booked
          refine lT (na S2) hsn2 (fun p3 H3 s3 hs3 => ?_)
          have S3 := S2.same s3
          repeat none_booked
          refine ⟨by show 1 ≤ 100000; decide, fun p4 H4 hp4 s4 g4 => ?_⟩
          have S4 := S3.same s4
          refine bCatT (na S4) (seqT_mono (Same.cut (s3.trans s4)) hsn2) (SqT.of (cut_get (na S3 p4 hp4) g4)) (by simp only [List.length_cons, List.length_nil]; omega) (fun p5 H5 s5 hs5 => ?_)
          have S5 := S4.same s5
          repeat none_booked
          refine fListTN (seqT_cut (seqT_mono (Same.cut (s3.trans (s4.trans s5))) hsn2)) (fun p6 H6 hp6 s6 g6 => ?_)
          have S6 := S5.same s6
          repeat none_booked
          refine ⟨by show 0 ≤ 100000; decide, fun p7 H7 hp7 s7 g7 => ?_⟩
          have S7 := S6.same s7
          repeat none_booked
          have t7 : Same H2 H7 := s3.trans (s4.trans (s5.trans (s6.trans s7)))
          obtain ⟨v0, vr, e0⟩ : ∃ v0 vr, xn = v0 :: vr := by
            match xn, hln with
            | [], h => simp at h; omega
            | v0 :: vr, _ => exact ⟨v0, vr, rfl⟩
          refine xT (v := v0) (seqT_cut (seqT_mono (Same.cut t7) hsn2)) (atI_nat (j := 0) (by rw [e0]; rfl)) ?_
          repeat none_booked
          refine ⟨by show 6 ≤ 100000; decide, fun p8 H8 hp8 s8 g8 => ?_⟩
          have S8 := S7.same s8
          repeat none_booked
          refine ⟨sa, la, ns, 6, rfl, S8, by decide, by decide, fun H9 r9 x9 S9 r90 r91 => ?_⟩
          have g9 := x9.get (S7.ne hp8) g8
          have t2 : Ext sa H2 H9 := (Ext.of (t7.trans s8)).trans x9
          have t3 : Ext sa H3 H9 := (Ext.of (s4.trans (s5.trans (s6.trans (s7.trans s8))))).trans x9
          have t5 : Ext sa H5 H9 := (Ext.of (s6.trans (s7.trans s8))).trans x9
          have t6 : Ext sa H6 H9 := (Ext.of (s7.trans s8)).trans x9
          have t78 : Ext sa H7 H9 := (Ext.of s8).trans x9
          have han9 := dpAll_mono t2 han2
          have fin : ∀ (v : V) (d : PyData), Dp K (cut [sa] H9) v d → fineN 3 d = true → ∃ (vn : V) (d : PyData) (sp : Option V), ([some (V.ref sa), some (.ref p0), some (.int (k : Int)), some v, some (.int r2), none] : L2.St) = [some (.ref sa), some (.ref p0), some (.int (k : Int)), some vn, some (.int r2), sp] ∧ Ext sa H2 H9 ∧ Strm K H9 sa la ns ∧ Dp K (cut [sa] H9) vn d ∧ fineN 3 d = true := fun v d hd hf => ⟨v, d, none, rfl, t2, S9, hd, hf⟩
          have cs : r9 = 0 ∨ r9 = 1 ∨ r9 = 2 ∨ r9 = 3 ∨ r9 = 4 ∨ r9 = 5 := by omega
          rcases cs with rfl | rfl | rfl | rfl | rfl | rfl
          · refine xL (SqL.of g9) (atI_nat (j := 0) rfl) ?_
            repeat none_booked
            refine fin _ (.tuple (cutD xn.length nd none (some (-1)))) (.tup (seqT_mono t3 hs3) (dpAll_cut _ _ han9)) (fine_tup ?_ fun y hy => hnf y (cutD_mem hy))
            have := cutD_len xn.length nd none (some (-1))
            omega
          · refine xL (SqL.of g9) (atI_nat (j := 1) rfl) ?_
            repeat none_booked
            refine fin _ (.tuple (nd ++ [.int 0])) (.tup (seqT_mono t5 hs5) (dpAll_app han9 (.cons (.int 0) .nil))) (fine_tup (by simp only [List.length_append, List.length_cons, List.length_nil]; omega) fun y hy => ?_)
            rcases List.mem_append.mp hy with hy | hy
            · exact hnf y hy
            · have : y = .int 0 := by simpa using hy
              rw [this]; rfl
          · refine xL (SqL.of g9) (atI_nat (j := 2) rfl) ?_
            repeat none_booked
            exact fin _ (.list nd) (.lst (SqL.of (t6 _ _ (cut_get (na S5 p6 hp6) g6))) han9) (fine_lst (by omega) hnf)
          · refine xL (SqL.of g9) (atI_nat (j := 3) rfl) ?_
            repeat none_booked
            exact fin _ (.tuple []) (.tup (SqT.of (t78 _ _ (cut_get (na S6 p7 hp7) g7))) .nil) (by rfl)
          · refine xL (SqL.of g9) (atI_nat (j := 4) rfl) ?_
            repeat none_booked
            exact fin _ .none .non rfl
          · refine xL (SqL.of g9) (atI_nat (j := 5) rfl) ?_
            repeat none_booked
            obtain ⟨d0, hd0, dp0⟩ := dpAll_get (i := 0) (v := v0) han9 (by rw [e0]; rfl)
            exact fin _ d0 dp0 (fineN_up 2 _ (hnf d0 (List.mem_of_getElem? hd0)))
        · repeat none_booked
          refine ⟨_, rfl, ?_⟩
          refine ite2' (fun h5 => ?_) (fun h5 => ?_)
          · repeat none_booked
            refine fListTN (seqT_cut hs2) (fun p3 H3 hp3 s3 g3 => ?_)
            have S3 := S2.same s3
            repeat none_booked
            refine ⟨by show 0 ≤ 100000; decide, fun p4 H4 hp4 s4 g4 => ?_⟩
            have S4 := S3.same s4
            repeat none_booked
            refine xT (seqT_cut (seqT_mono (Same.cut (s3.trans s4)) hs2)) (atI_nat hxk) ?_
            repeat none_booked
            refine ⟨by show 7 ≤ 100000; decide, fun p5 H5 hp5 s5 g5 => ?_⟩
            have S5 := S4.same s5
            repeat none_booked
            refine ⟨sa, la, ns, 7, rfl, S5, by decide, by decide, fun H6 r6 x6 S6 r60 r61 => ?_⟩
            have g6 := x6.get (S4.ne hp5) g5
            have t2 : Ext sa H2 H6 := (Ext.of (s3.trans (s4.trans s5))).trans x6
            have t3 : Ext sa H3 H6 := (Ext.of (s4.trans s5)).trans x6
            have t4 : Ext sa H4 H6 := (Ext.of s5).trans x6
            have ha6 := dpAll_mono t2 ha2
            have fin : ∀ (v : V) (d : PyData), Dp K (cut [sa] H6) v d → fineN 4 d = true → Q v H6 := fun v d hd hf => q H6 v d (xx2.trans t2) S6 hd hf
            have cs : r6 = 0 ∨ r6 = 1 ∨ r6 = 2 ∨ r6 = 3 ∨ r6 = 4 ∨ r6 = 5 ∨ r6 = 6 := by omega
            rcases cs with rfl | rfl | rfl | rfl | rfl | rfl | rfl
            · exact xL (SqL.of g6) (atI_nat (j := 0) rfl) (fin _ (.list ds) (.lst (SqL.of (t3 _ _ (cut_get (na S2 p3 hp3) g3))) ha6) (fine_lst (by omega) fd3))
            · exact xL (SqL.of g6) (atI_nat (j := 1) rfl) (fin _ (.tuple []) (.tup (SqT.of (t4 _ _ (cut_get (na S3 p4 hp4) g4))) .nil) (by rfl))
            · exact xL (SqL.of g6) (atI_nat (j := 2) rfl) (fin _ .none .non rfl)
            · exact xL (SqL.of g6) (atI_nat (j := 3) rfl) (fin _ (.str "a") (.str _) (by decide +kernel))
            · exact xL (SqL.of g6) (atI_nat (j := 4) rfl) (fin _ (.tuple nd) (.tup (seqT_mono t2 hsn2) (dpAll_mono t2 han2)) (fineN_up 3 _ fnn))
            · exact xL (SqL.of g6) (atI_nat (j := 5) rfl) (fin _ (.int 0) (.int _) rfl)
            · exact xL (SqL.of g6) (atI_nat (j := 6) rfl) (fin _ (.bool true) (.bl _) rfl)
          · repeat none_booked
            refine ⟨by show 5 ≤ 100000; decide, fun p3 H3 hp3 s3 g3 => ?_⟩
            have S3 := S2.same s3
            repeat none_booked
            refine ⟨sa, la, ns, 5, rfl, S3, by decide, by decide, fun H4 r4 x4 S4 r40 r41 => ?_⟩
            have g4 := x4.get (S2.ne hp3) g3
            have t2 : Ext sa H2 H4 := (Ext.of s3).trans x4
            obtain ⟨v5, d5, hv5, hd5, hf5⟩ : ∃ v d, atI [V.str "Tuple", V.str "", V.str "ints", V.int 0, V.non] r4 = some v ∧ (∀ h, Dp K h v d) ∧ fineN 2 d = true := by
              have cs : r4 = 0 ∨ r4 = 1 ∨ r4 = 2 ∨ r4 = 3 ∨ r4 = 4 := by omega
              rcases cs with rfl | rfl | rfl | rfl | rfl
              · exact ⟨_, .str "Tuple", rfl, fun _ => .str _, by decide +kernel⟩
              · exact ⟨_, .str "", rfl, fun _ => .str _, by decide +kernel⟩
              · exact ⟨_, .str "ints", rfl, fun _ => .str _, by decide +kernel⟩
              · exact ⟨_, .int 0, rfl, fun _ => .int _, by decide +kernel⟩
              · exact ⟨_, .none, rfl, fun _ => .non, by decide +kernel⟩
            refine xL (SqL.of g4) hv5 ?_
            repeat none_booked
            refine ⟨by show 1 ≤ 100000; decide, fun p6 H6 hp6 s6 g6 => ?_⟩
            have S6 := S4.same s6
            repeat none_booked
            refine ⟨_, rfl, ?_⟩
            repeat none_booked
            have t26 : Ext sa H2 H6 := t2.trans (Ext.of s6)
            refine lT (na S6) (seqT_mono t26 hsn2) (fun p7 H7 s7 hs7 => ?_)
            have S7 := S6.same s7
            have e1 := dpAll_len (dpAll_cut (some 1) none han2)
            have e2 := cutD_len xn.length nd (some 1) none
            refine bCatT (na S7) (SqT.of (cut_get (not_mem1 (S4.ne hp6)) (s7 _ _ g6))) hs7 (by simp only [List.length_cons, List.length_nil]; omega) (fun p8 H8 s8 hs8 => ?_)
            have S8 := S7.same s8
            have t28 : Ext sa H2 H8 := t26.trans ((Ext.of s7).trans (Ext.of s8))
            repeat none_booked
            refine ⟨_, .tuple ([d5] ++ cutD xn.length nd (some 1) none), _, rfl, t28, S8, .tup hs8 (dpAll_app (.cons (hd5 _) .nil) (dpAll_cut _ _ (dpAll_mono t28 han2))), fine_tup (by simp only [List.length_append, List.length_cons, List.length_nil]; omega) fun y hy => ?_⟩
            rcases List.mem_append.mp hy with hy | hy
            · have : y = d5 := by simpa using hy
              rw [this]; exact hf5
            · exact hnf y (cutD_mem hy)
    · rintro σ' H3 ⟨vn, d, sp, rfl, x3, S3, d3, f3⟩
      have hs3 := seqT_mono x3 hs2
      have ha3 := dpAll_mono x3 ha2
      have na : ∀ {h : Hp}, Strm K h sa la ns → ∀ p, h p = none → p ∉ [sa] := fun S p hp => not_mem1 (S.ne hp)
      repeat none_booked
      refine ⟨_, rfl, ?_⟩
      refine lT (na S3) hs3 (fun p4 H4 s4 hs4 => ?_)
      have S4 := S3.same s4
      repeat none_booked
      refine ⟨by show 1 ≤ 100000; decide, fun p5 H5 hp5 s5 g5 => ?_⟩
      have S5 := S4.same s5
      refine bCatT (na S5) (seqT_mono (Same.cut s5) hs4) (SqT.of (cut_get (na S4 p5 hp5) g5)) ?_ (fun p6 H6 s6 hs6 => ?_)
      · have := cutD_len xs.length ds none (some (k : Int))
        have e := dpAll_len (dpAll_cut none (some (k : Int)) ha3)
        simp only [List.length_cons, List.length_nil]
        omega
      have S6 := S5.same s6
      repeat none_booked
      refine ⟨_, rfl, ?_⟩
      repeat none_booked
      have hs36 := seqT_mono (Same.cut (s4.trans (s5.trans s6))) hs3
      refine lT (na S6) hs36 (fun p7 H7 s7 hs7 => ?_)
      have S7 := S6.same s7
      refine bCatT (na S7) (seqT_mono (Same.cut s7) hs6) hs7 ?_ (fun p8 H8 s8 hs8 => ?_)
      · have e1 := dpAll_len (dpAll_cut none (some (k : Int)) ha3)
        have e2 := dpAll_len (dpAll_cut (some ((k : Int) + 1)) none ha3)
        have := cutD_len xs.length ds none (some (k : Int))
        have := cutD_len xs.length ds (some ((k : Int) + 1)) none
        simp only [List.length_append, List.length_cons, List.length_nil]
        omega
      have S8 := S7.same s8
      have s38 : Same H3 H8 := s4.trans (s5.trans (s6.trans (s7.trans s8)))
      have ha8 := dpAll_mono (Same.cut s38) ha3
      have d8 := dp_mono (Same.cut s38) d3
      refine q _ _ (.tuple ((cutD xs.length ds none (some (k : Int)) ++ [d]) ++ cutD xs.length ds (some ((k : Int) + 1)) none)) ((xx2.trans x3).trans (Ext.of s38)) S8 (.tup hs8 (dpAll_app (dpAll_app (dpAll_cut _ _ ha8) (.cons d8 .nil)) (dpAll_cut _ _ ha8))) (fine_tup ?_ fun y hy => ?_)
      · have := cutD_len xs.length ds none (some (k : Int))
        have := cutD_len xs.length ds (some ((k : Int) + 1)) none
        simp only [List.length_append, List.length_cons, List.length_nil]
        omega
      · rcases List.mem_append.mp hy with hy | hy
        · rcases List.mem_append.mp hy with hy | hy
          · exact fd3 y (cutD_mem hy)
          · have : y = d := by simpa using hy
            rw [this]; exact f3
        · exact fd3 y (cutD_mem hy)
end
end K1

namespace K1
open PySem PySem.Spec PyProof.Rows L2 Wk
local macro_rules | `(tactic| none_booked) => `(tactic| first
  | refine eInt ?_ | refine eStr ?_ | (refine eNm ?_; first | refine nAt 0 (by rfl) (by rfl) (by first | exact Or.inl rfl | exact Or.inr (Or.inl rfl) | exact Or.inr (Or.inr rfl)) (by rfl) (by rfl) ?_ | refine nAt 1 (by rfl) (by rfl) (by first | exact Or.inl rfl | exact Or.inr (Or.inl rfl) | exact Or.inr (Or.inr rfl)) (by rfl) (by rfl) ?_ | refine nAt 2 (by rfl) (by rfl) (by first | exact Or.inl rfl | exact Or.inr (Or.inl rfl) | exact Or.inr (Or.inr rfl)) (by rfl) (by rfl) ?_ | refine nAt 3 (by rfl) (by rfl) (by first | exact Or.inl rfl | exact Or.inr (Or.inl rfl) | exact Or.inr (Or.inr rfl)) (by rfl) (by rfl) ?_ | refine nAt 4 (by rfl) (by rfl) (by first | exact Or.inl rfl | exact Or.inr (Or.inl rfl) | exact Or.inr (Or.inr rfl)) (by rfl) (by rfl) ?_ | refine nAt 5 (by rfl) (by rfl) (by first | exact Or.inl rfl | exact Or.inr (Or.inl rfl) | exact Or.inr (Or.inr rfl)) (by rfl) (by rfl) ?_ | refine nAt 6 (by rfl) (by rfl) (by first | exact Or.inl rfl | exact Or.inr (Or.inl rfl) | exact Or.inr (Or.inr rfl)) (by rfl) (by rfl) ?_ | refine nAt 7 (by rfl) (by rfl) (by first | exact Or.inl rfl | exact Or.inr (Or.inl rfl) | exact Or.inr (Or.inr rfl)) (by rfl) (by rfl) ?_ | refine nAt 8 (by rfl) (by rfl) (by first | exact Or.inl rfl | exact Or.inr (Or.inl rfl) | exact Or.inr (Or.inr rfl)) (by rfl) (by rfl) ?_) | refine sCons ?_ | refine sNil ?_ | refine sIf ?_ | refine sRet ?_ | (refine sStore ?_; first | refine stAt 0 (by rfl) ?_ (by assumption) (by first | exact Or.inl rfl | exact Or.inr rfl) (by rfl) (by first | exact Or.inl rfl | exact Or.inr rfl) | refine stAt 1 (by rfl) ?_ (by assumption) (by first | exact Or.inl rfl | exact Or.inr rfl) (by rfl) (by first | exact Or.inl rfl | exact Or.inr rfl) | refine stAt 2 (by rfl) ?_ (by assumption) (by first | exact Or.inl rfl | exact Or.inr rfl) (by rfl) (by first | exact Or.inl rfl | exact Or.inr rfl) | refine stAt 3 (by rfl) ?_ (by assumption) (by first | exact Or.inl rfl | exact Or.inr rfl) (by rfl) (by first | exact Or.inl rfl | exact Or.inr rfl) | refine stAt 4 (by rfl) ?_ (by assumption) (by first | exact Or.inl rfl | exact Or.inr rfl) (by rfl) (by first | exact Or.inl rfl | exact Or.inr rfl) | refine stAt 5 (by rfl) ?_ (by assumption) (by first | exact Or.inl rfl | exact Or.inr rfl) (by rfl) (by first | exact Or.inl rfl | exact Or.inr rfl) | refine stAt 6 (by rfl) ?_ (by assumption) (by first | exact Or.inl rfl | exact Or.inr rfl) (by rfl) (by first | exact Or.inl rfl | exact Or.inr rfl) | refine stAt 7 (by rfl) ?_ (by assumption) (by first | exact Or.inl rfl | exact Or.inr rfl) (by rfl) (by first | exact Or.inl rfl | exact Or.inr rfl) | refine stAt 8 (by rfl) ?_ (by assumption) (by first | exact Or.inl rfl | exact Or.inr rfl) (by rfl) (by first | exact Or.inl rfl | exact Or.inr rfl)) | refine sExpr ?_
  | refine aNil ?_ | refine aCons ?_ | refine eBl ?_ | refine eNon ?_ | refine eBin ?_ | refine eCmp ?_ | refine eIx ?_ | refine eTupN ?_ | refine eLstN ?_ | refine eChain ?_
  | refine eSl ?_ | refine oNone ?_ | refine oSome ?_ | refine eNot ?_ | refine eUn ?_ | refine eAnd ?_ | refine eOr ?_ | refine eOne ?_ | refine eIf ?_
  | refine tCmp ?_ | refine tChain ?_ | refine tNot ?_ | refine pAnd1 ?_ | refine pOr1 ?_ | refine pAnd ?_ | refine pOr ?_
  | refine kLen (by assumption) ?_ | refine kAbs (by assumption) ?_ | refine kInt (by assumption) ?_ | refine kList (by assumption) ?_ | refine kTuple (by assumption) ?_ | refine kAll (by assumption) ?_ | refine kIsi (by assumption) ?_
  | refine tyInt (by assumption) ?_ | refine tyBool (by assumption) ?_ | refine tyStr (by assumption) ?_ | refine tyTuple (by assumption) ?_ | refine tyList (by assumption) ?_
  | refine eCall (by assumption) (by assumption) (by decide) ?_ | refine eGlobI (by assumption) ?_
  | refine tPb ?_
  | refine bAdd ?_ | refine bSub ?_ | refine uNeg ?_ | refine cLt ?_ | refine cLe ?_ | refine cGt ?_ | refine cGe ?_ | refine cEq (by rfl) ?_ | refine cNe (by rfl) ?_
  | refine fInt ?_ | refine fAbs ?_
  | refine kIsascii ?_ | refine kIsalnum ?_ | refine kIsalpha ?_ | refine kIslower ?_
  | refine ⟨rfl, mIsascii ?_⟩ | refine ⟨rfl, mIsalnum ?_⟩ | refine ⟨rfl, mIsalpha ?_⟩ | refine ⟨rfl, mIslower ?_⟩
  | refine gsNil ?_ | refine gsCons ?_ | (first | refine gNm 0 (by rfl) ?_ (by assumption) (by first | exact Or.inl rfl | exact Or.inr rfl) (by first | exact Or.inl rfl | exact Or.inr rfl) | refine gNm 1 (by rfl) ?_ (by assumption) (by first | exact Or.inl rfl | exact Or.inr rfl) (by first | exact Or.inl rfl | exact Or.inr rfl) | refine gNm 2 (by rfl) ?_ (by assumption) (by first | exact Or.inl rfl | exact Or.inr rfl) (by first | exact Or.inl rfl | exact Or.inr rfl) | refine gNm 3 (by rfl) ?_ (by assumption) (by first | exact Or.inl rfl | exact Or.inr rfl) (by first | exact Or.inl rfl | exact Or.inr rfl) | refine gNm 4 (by rfl) ?_ (by assumption) (by first | exact Or.inl rfl | exact Or.inr rfl) (by first | exact Or.inl rfl | exact Or.inr rfl) | refine gNm 5 (by rfl) ?_ (by assumption) (by first | exact Or.inl rfl | exact Or.inr rfl) (by first | exact Or.inl rfl | exact Or.inr rfl) | refine gNm 6 (by rfl) ?_ (by assumption) (by first | exact Or.inl rfl | exact Or.inr rfl) (by first | exact Or.inl rfl | exact Or.inr rfl) | refine gNm 7 (by rfl) ?_ (by assumption) (by first | exact Or.inl rfl | exact Or.inr rfl) (by first | exact Or.inl rfl | exact Or.inr rfl) | refine gNm 8 (by rfl) ?_ (by assumption) (by first | exact Or.inl rfl | exact Or.inr rfl) (by first | exact Or.inl rfl | exact Or.inr rfl)))
section
variable {P : Program} {w : World} {K : PySem.W.Frag} {mg : Str → Option Value} {base : Heap}
theorem ok_due {f : Addr} {fd : FuncData} (F : Fun K "_law_due" "_law_due" sLDue f fd) (hm : mg "_law_due" = some (.ref f)) (bd : Binds K fd ["value"] []) (c1 : Cl P w K mg base 2 "_law_is_node" (spNode K)) (m1 : mg "isinstance" = none) (m2 : mg "tuple" = none) (m3 : mg "len" = none) (m5 : mg "all" = none) : Cl P w K mg base 3 "_law_due" (spGraph K) := by
  refine cl_mk (sc := ?sc) (body := ?body) F hm bd scLDue ?hsc ?hb (fun vs H Q E h => ?_) (fun cdv A outer s H vs Q E hr nd h => ?_)
  case hsc => conv => lhs; whnf
  case hb => conv => lhs; whnf
  · obtain ⟨v, x, rfl, _⟩ := h
    rfl
  · obtain ⟨v, x, rfl, hd, hf, q⟩ := h
    repeat none_booked
    refine tVal ?_
    repeat none_booked
    refine fIsTup hd ?_
    refine ⟨_, rfl, ?_⟩
    cases hx : isTup x with
    | false =>
      rw [if_pos (by rfl)]
      repeat none_booked
      have e : graphOk x = false := by cases x <;> first | rfl | cases hx
      have q' := q H (Same.refl _)
      rw [e] at q'
      exact q'
    | true =>
      rw [if_neg (by show ¬ (!true) = true; decide)]
      cases hd with
      | tup hs ha =>
        rename_i a xs ds
        have hl := dpAll_len ha
        have q1 : ∀ H', Same H H' → Q (.bl (decide (1 ≤ ds.length) && (decide (ds.length ≤ 400) && ds.all (nodeOk ds.length)))) H' := q
        repeat none_booked
        refine fLenT hs ?_
        repeat none_booked
        refine ⟨_, rfl, ?_⟩
        have q2 := q1 H (Same.refl _)
        refine ite2' (fun h1 => ?_) (fun h1 => ?_)
        · repeat none_booked
          refine ⟨_, rfl, ?_⟩
          by_cases h2 : ((xs.length : Nat) : Int) ≤ 400
          · rw [decide_eq_true h2, if_neg (by show ¬ (!true) = true; decide)]
            repeat none_booked
            refine eLcT 1 ?_ (by rfl) (by assumption) (by intros; rfl) (blkOk_by (by rfl))
            repeat none_booked
            refine ⟨a, xs, (ds.map (nodeOk ds.length)).map V.bl, rfl, hs, by simp [hl], by have := hf.tup.1; omega, fun i u y H2 hu hy s2 Q2 q2 => ?_, fun D H2 hD s2 hD2 => ?_⟩
            · intro s0 H0 C cl fp
              obtain ⟨d, g1, g2⟩ := dpAll_get ha hu
              repeat none_booked
              refine fLenT (seqT_mono s2 hs) ?_
              repeat none_booked
              refine ⟨_, _, d, rfl, dp_mono s2 g2, hf.tup.2 d (List.mem_of_getElem? g1), fun H3 s3 => ?_⟩
              have e : y = V.bl (nodeOk xs.length d) := by
                rw [List.getElem?_map, List.getElem?_map, g1] at hy
                rw [hl]
                exact (Option.some.inj hy).symm
              rw [← e]
              exact q2 H3 s3
            · repeat none_booked
              refine fAll (SqL.of hD2) ?_
              have q3 := q1 H2 s2
              rw [decide_eq_true (show 1 ≤ ds.length by omega), decide_eq_true (show ds.length ≤ 400 by omega), Bool.true_and, Bool.true_and] at q3
              rw [List.all_map]
              exact q3
          · rw [decide_eq_false h2, if_pos (by rfl)]
            repeat none_booked
            rw [decide_eq_false (show ¬ ds.length ≤ 400 by omega), Bool.false_and, Bool.and_false] at q2
            exact q2
        · refine ⟨_, rfl, ?_⟩
          rw [if_pos (by rfl)]
          repeat none_booked
          rw [decide_eq_false (show ¬ 1 ≤ ds.length by omega), Bool.false_and] at q2
          exact q2
      | _ => cases hx
theorem graph_of {ds : List PyData} (h : graphOk (.tuple ds) = true) : 1 ≤ ds.length ∧ ds.length ≤ 400 ∧ ∀ d ∈ ds, nodeOk ds.length d = true := by
  have h' : (decide (1 ≤ ds.length) && (decide (ds.length ≤ 400) && ds.all (nodeOk ds.length))) = true := h
  simp only [Bool.and_eq_true, decide_eq_true_eq, List.all_eq_true] at h'
  exact ⟨h'.1, h'.2.1, h'.2.2⟩
theorem graph_mk {ds : List PyData} (h1 : 1 ≤ ds.length) (h2 : ds.length ≤ 400) (h : ∀ d ∈ ds, nodeOk ds.length d = true) : graphOk (.tuple ds) = true := by
  show (decide (1 ≤ ds.length) && (decide (ds.length ≤ 400) && ds.all (nodeOk ds.length))) = true
  simp only [Bool.and_eq_true, decide_eq_true_eq, List.all_eq_true]
  exact ⟨h1, h2, h⟩
theorem graph_tup {d : PyData} (h : graphOk d = true) : ∃ ds, d = .tuple ds := by
  cases d with
  | tuple ds => exact ⟨ds, rfl⟩
  | _ => cases h
theorem graph_rep (n : Nat) (h1 : 1 ≤ n) : graphOk (.tuple (List.replicate n (.tuple [.str "atom", .str "a"]))) = decide (n ≤ 400) := by
  show (decide (1 ≤ (List.replicate n (PyData.tuple [.str "atom", .str "a"])).length) && (decide ((List.replicate n (PyData.tuple [.str "atom", .str "a"])).length ≤ 400) && (List.replicate n (PyData.tuple [.str "atom", .str "a"])).all (nodeOk (List.replicate n (PyData.tuple [.str "atom", .str "a"])).length))) = _
  rw [List.length_replicate, decide_eq_true h1, Bool.true_and]
  have e : (List.replicate n (PyData.tuple [.str "atom", .str "a"])).all (nodeOk n) = true := by
    rw [List.all_eq_true]
    intro d hd
    rw [List.eq_of_mem_replicate hd, nodeOk_atom]
    decide +kernel
  rw [e, Bool.and_true]
theorem dpAll_rep {H : Hp} {v : V} {d : PyData} (h : Dp K H v d) : ∀ n : Nat, DpAll K H (List.replicate n [v]).flatten (List.replicate n d)
  | 0 => .nil
  | n + 1 => by
    rw [List.replicate_succ, List.replicate_succ, List.flatten_cons]
    exact .cons h (dpAll_rep h n)
abbrev sLaw : Stmt := topS 25
theorem scLaw : FnScope ["script", "stream", "value", "k", "actual", "many"] ["script"] (defScope sLaw) := ⟨rfl, rfl, rfl, by decide +kernel, rfl, by decide +kernel, by decide +kernel⟩
def spLaw (K : PySem.W.Frag) : Sp := fun vs H Q _ => ∃ (a : Addr) (ns : List Int), vs = [.ref a] ∧ SqL K H a (ns.map V.int) ∧ ns.length ≤ 63 ∧ ∀ H', Q (.bl true) H'
theorem ok_law {f : Addr} {fd : FuncData} (F : Fun K "law" "law" sLaw f fd) (c1 : Cl P w K mg base 1 "_law_draw" (spDraw K)) (c2 : Cl P w K mg base 1 "_law_stream" (spStream K)) (c3 : Cl P w K mg base 4 "_law_graph" (spLaGraph K)) (c4 : Cl P w K mg base 5 "is_graph" (spGraph K)) (c5 : Cl P w K mg base 3 "_law_due" (spGraph K)) (c6 : Cl P w K mg base 3 "_law_changed" (spChg K)) (m1 : mg "isinstance" = none) (m2 : mg "bool" = none) (mr : mg "range" = none) (m4 : ∃ t, mg "MOST_NODES" = some (.int 400 t)) : FnOk P w K mg base CX0 6 f fd ["script"] (spLaw K) := by
  refine fn_mk (sc := ?sc) (body := ?body) F scLaw ?hsc ?hb (fun vs H Q E h => ?_) (fun cdv A outer s H vs Q E hr nd h => ?_)
  case hsc => conv => lhs; whnf
  case hb => conv => lhs; whnf
  · obtain ⟨a, ns, rfl, _⟩ := h
    rfl
  · obtain ⟨a, ns, rfl, hS, hl, q⟩ := h
    repeat none_booked
    refine ⟨a, ns, rfl, hS, hl, fun H1 sa la n1 s1 S1 => ?_⟩
    repeat none_booked
    refine ⟨sa, la, ns, 8, rfl, S1, by decide, by decide, fun H2 v ds x2 S2 dv d1 d8 dok => ?_⟩
    repeat none_booked
    have f4 : fineN 4 (.tuple ds) = true := fine_tup (by omega) fun d hd => tup_fine 3 d (dok d hd).2
    have g0 : graphOk (.tuple ds) = true := graph_mk d1 (by omega) fun d hd => (dok d hd).1
    refine ⟨v, .tuple ds, rfl, dp_mono (cut_same _ _) dv, fineN_le f4 (by decide), fun H3 s3 => ?_⟩
    repeat none_booked
    rw [g0]
    refine cNotB ?_
    refine ⟨_, rfl, ?_⟩
    rw [if_neg (by decide)]
    repeat none_booked
    refine ⟨_, rfl, ?_⟩
    rw [if_neg (by decide)]
    have S3 := S2.same s3
    repeat none_booked
    refine sForR mr ?_
    repeat none_booked
    refine ⟨sa, la, ns, 4, rfl, S3, by decide, by decide, fun H4 r4 x4 S4 r40 r41 => ?_⟩
    repeat none_booked
    refine ⟨r4, rfl, r40, by omega, fun i σ' H' => ∃ (v : V) (d : PyData) (k : Option V), σ' = [some (.ref a), some (.ref sa), some v, k, none, none] ∧ Strm K H' sa la ns ∧ Dp K (cut [sa] H') v d ∧ fineN 4 d = true, ⟨v, .tuple ds, none, rfl, S4, dp_mono ((Ext.of s3).trans x4) dv, f4⟩, fun i σ' H5 hi p => ?_, fun σ' H5 p => ?_⟩
    · obtain ⟨v5, d5, k5, rfl, S5, dp5, f5⟩ := p
      repeat none_booked
      refine ⟨_, rfl, ?_⟩
      refine ite2' (fun h2 => ?_) (fun h2 => ?_)
      · repeat none_booked
        refine tVal ?_
        repeat none_booked
        refine ⟨v5, d5, rfl, dp_mono (cut_same _ _) dp5, fineN_le f5 (by decide), fun H6 s6 => ?_⟩
        refine ⟨_, rfl, ?_⟩
        have S6 := S5.same s6
        have dp6 := dp_mono (Same.cut s6) dp5
        cases hg : graphOk d5 with
        | false =>
          rw [if_neg Bool.false_ne_true]
          repeat none_booked
          exact ⟨_, _, _, rfl, S6, dp6, f5⟩
        | true =>
          rw [if_pos rfl]
          obtain ⟨ds5, rfl⟩ := graph_tup hg
          obtain ⟨g1, g2, g3⟩ := graph_of hg
          have f55 := fine_tup_of f5
          repeat none_booked
          refine ⟨sa, la, ns, v5, ds5, rfl, S6, dp6, g1, g2, fun d hd => ⟨g3 d hd, f55.2 d hd⟩, fun H7 v7 d7 x7 S7 dp7 f7 => ?_⟩
          repeat none_booked
          exact ⟨_, _, _, rfl, S7, dp7, f7⟩
      · repeat none_booked
        exact ⟨_, _, _, rfl, S5, dp5, f5⟩
    · obtain ⟨v5, d5, k5, rfl, S5, dp5, f5⟩ := p
      repeat none_booked
      refine ⟨v5, d5, rfl, dp_mono (cut_same _ _) dp5, fineN_le f5 (by decide), fun H6 s6 => ?_⟩
      have S6 := S5.same s6
      have dp6 := dp_mono (Same.cut s6) dp5
      repeat none_booked
      refine tVal ?_
      repeat none_booked
      refine fIsBool (.bl _) ?_
      refine ⟨_, rfl, ?_⟩
      rw [if_neg (by show ¬ (!true) = true; decide)]
      repeat none_booked
      refine ⟨v5, d5, rfl, dp_mono (cut_same _ _) dp6, fineN_le f5 (by decide), fun H7 s7 => ?_⟩
      have S7 := S6.same s7
      refine cNe (by rfl) ?_
      refine ⟨_, rfl, ?_⟩
      rw [decide_eq_true rfl, if_neg (by decide)]
      repeat none_booked
      refine ⟨sa, la, ns, 4, rfl, S7, by decide, by decide, fun H8 r8 x8 S8 r80 r81 => ?_⟩
      repeat none_booked
      refine ⟨by show 2 ≤ 100000; decide, fun p9 H9 hp9 s9 g9 => ?_⟩
      repeat none_booked
      refine ⟨by show 1 ≤ 100000; decide, fun p10 H10 hp10 s10 g10 => ?_⟩
      repeat none_booked
      refine bRepT (SqT.of g10) (by simp) (by omega) (by omega) (by simp) (fun p11 H11 hp11 s11 g11 => ?_)
      repeat none_booked
      have dA : Dp K H11 (.ref p9) (.tuple [.str "atom", .str "a"]) := .tup (SqT.of (s11 _ _ (s10 _ _ g9))) (.cons (.str _) (.cons (.str _) .nil))
      have hn : ((399 + r8).toNat : Int) = 399 + r8 := by omega
      refine ⟨_, .tuple (List.replicate (399 + r8).toNat (.tuple [.str "atom", .str "a"])), rfl, .tup (SqT.of g11) (dpAll_rep dA _), fineN_le (n := 2) (fine_tup (by rw [List.length_replicate]; omega) fun d hd => ?_) (by decide), fun H12 s12 => ?_⟩
      · rw [List.eq_of_mem_replicate hd]
        decide +kernel
      · repeat none_booked
        rw [graph_rep _ (by omega)]
        have e : decide ((399 + r8).toNat ≤ 400) = decide (399 + r8 ≤ 400) := decide_eq_decide.mpr (by omega)
        rw [e, decide_eq_true rfl]
        exact q _
end
/-! ### what the top has written -/
theorem all_mk {l : PySem.W.OpenLaw} {w : World} {K : PySem.W.Frag} {h : Heap} {mg : Str → Option Value} {fa f0 f1 f2 f3 f4 f5 f6 f7 f8 f9 f10 f11 f12 f13 f14 f15 f16 f17 f18 f19 : Addr} (X : K.In h) (G : h.Ns mainGlobals mg) (hfa : mg "law" = some (.ref fa))
    {od0 an0 : Option Addr} {sl0 : Array (Option Value)} {oc0 kV0 dc0 pm0 cd0 ct0 : Value} {od1 an1 : Option Addr} {sl1 : Array (Option Value)} {oc1 kV1 dc1 pm1 cd1 ct1 : Value} {od2 an2 : Option Addr} {sl2 : Array (Option Value)} {oc2 kV2 dc2 pm2 cd2 ct2 : Value} {od3 an3 : Option Addr} {sl3 : Array (Option Value)} {oc3 kV3 dc3 pm3 cd3 ct3 : Value} {od4 an4 : Option Addr} {sl4 : Array (Option Value)} {oc4 kV4 dc4 pm4 cd4 ct4 : Value} {od5 an5 : Option Addr} {sl5 : Array (Option Value)} {oc5 kV5 dc5 pm5 cd5 ct5 : Value} {od6 an6 : Option Addr} {sl6 : Array (Option Value)} {oc6 kV6 dc6 pm6 cd6 ct6 : Value} {od7 an7 : Option Addr} {sl7 : Array (Option Value)} {oc7 kV7 dc7 pm7 cd7 ct7 : Value} {od8 an8 : Option Addr} {sl8 : Array (Option Value)} {oc8 kV8 dc8 pm8 cd8 ct8 : Value} {od9 an9 : Option Addr} {sl9 : Array (Option Value)} {oc9 kV9 dc9 pm9 cd9 ct9 : Value} {od10 an10 : Option Addr} {sl10 : Array (Option Value)} {oc10 kV10 dc10 pm10 cd10 ct10 : Value} {od11 an11 : Option Addr} {sl11 : Array (Option Value)} {oc11 kV11 dc11 pm11 cd11 ct11 : Value} {od12 an12 : Option Addr} {sl12 : Array (Option Value)} {oc12 kV12 dc12 pm12 cd12 ct12 : Value} {od13 an13 : Option Addr} {sl13 : Array (Option Value)} {oc13 kV13 dc13 pm13 cd13 ct13 : Value} {od14 an14 : Option Addr} {sl14 : Array (Option Value)} {oc14 kV14 dc14 pm14 cd14 ct14 : Value} {od15 an15 : Option Addr} {sl15 : Array (Option Value)} {oc15 kV15 dc15 pm15 cd15 ct15 : Value} {od16 an16 : Option Addr} {sl16 : Array (Option Value)} {oc16 kV16 dc16 pm16 cd16 ct16 : Value} {od17 an17 : Option Addr} {sl17 : Array (Option Value)} {oc17 kV17 dc17 pm17 cd17 ct17 : Value} {od18 an18 : Option Addr} {sl18 : Array (Option Value)} {oc18 kV18 dc18 pm18 cd18 ct18 : Value} {od19 an19 : Option Addr} {sl19 : Array (Option Value)} {oc19 kV19 dc19 pm19 cd19 ct19 : Value}
    (a0 : PySem.W.nsIn K mainGlobals "is_integer_in" = some (some (.ref f0))) (l0 : K.lookup f0 = some ⟨oc0, od0, .func (PySem.W.fnOf "is_integer_in" "is_integer_in" (defArgs sInt) (defBody sInt) (defScope sInt) .none kV0 dc0 pm0 an0 cd0 ct0), sl0⟩) (c0 : PySem.W.codeIn K cd0 "is_integer_in" = true) (k0 : PySem.W.keepIn K (.ref f0) = true)
    (a1 : PySem.W.nsIn K mainGlobals "is_atom" = some (some (.ref f1))) (l1 : K.lookup f1 = some ⟨oc1, od1, .func (PySem.W.fnOf "is_atom" "is_atom" (defArgs sAtom) (defBody sAtom) (defScope sAtom) .none kV1 dc1 pm1 an1 cd1 ct1), sl1⟩) (c1 : PySem.W.codeIn K cd1 "is_atom" = true) (k1 : PySem.W.keepIn K (.ref f1) = true)
    (a2 : PySem.W.nsIn K mainGlobals "is_graph" = some (some (.ref f2))) (l2 : K.lookup f2 = some ⟨oc2, od2, .func (PySem.W.fnOf "is_graph" "is_graph" (defArgs sGraph) (defBody sGraph) (defScope sGraph) .none kV2 dc2 pm2 an2 cd2 ct2), sl2⟩) (c2 : PySem.W.codeIn K cd2 "is_graph" = true) (k2 : PySem.W.keepIn K (.ref f2) = true)
    (a3 : PySem.W.nsIn K mainGlobals "_is_node" = some (some (.ref f3))) (l3 : K.lookup f3 = some ⟨oc3, od3, .func (PySem.W.fnOf "_is_node" "_is_node" (defArgs sNode) (defBody sNode) (defScope sNode) .none kV3 dc3 pm3 an3 cd3 ct3), sl3⟩) (c3 : PySem.W.codeIn K cd3 "_is_node" = true) (k3 : PySem.W.keepIn K (.ref f3) = true)
    (a4 : PySem.W.nsIn K mainGlobals "_is_short_node" = some (some (.ref f4))) (l4 : K.lookup f4 = some ⟨oc4, od4, .func (PySem.W.fnOf "_is_short_node" "_is_short_node" (defArgs sShort) (defBody sShort) (defScope sShort) .none kV4 dc4 pm4 an4 cd4 ct4), sl4⟩) (c4 : PySem.W.codeIn K cd4 "_is_short_node" = true) (k4 : PySem.W.keepIn K (.ref f4) = true)
    (a5 : PySem.W.nsIn K mainGlobals "_is_long_node" = some (some (.ref f5))) (l5 : K.lookup f5 = some ⟨oc5, od5, .func (PySem.W.fnOf "_is_long_node" "_is_long_node" (defArgs sLong) (defBody sLong) (defScope sLong) .none kV5 dc5 pm5 an5 cd5 ct5), sl5⟩) (c5 : PySem.W.codeIn K cd5 "_is_long_node" = true) (k5 : PySem.W.keepIn K (.ref f5) = true)
    (a6 : PySem.W.nsIn K mainGlobals "_are_parts" = some (some (.ref f6))) (l6 : K.lookup f6 = some ⟨oc6, od6, .func (PySem.W.fnOf "_are_parts" "_are_parts" (defArgs sParts) (defBody sParts) (defScope sParts) .none kV6 dc6 pm6 an6 cd6 ct6), sl6⟩) (c6 : PySem.W.codeIn K cd6 "_are_parts" = true) (k6 : PySem.W.keepIn K (.ref f6) = true)
    (a7 : PySem.W.nsIn K mainGlobals "_law_stream" = some (some (.ref f7))) (l7 : K.lookup f7 = some ⟨oc7, od7, .func (PySem.W.fnOf "_law_stream" "_law_stream" (defArgs sStream) (defBody sStream) (defScope sStream) .none kV7 dc7 pm7 an7 cd7 ct7), sl7⟩) (c7 : PySem.W.codeIn K cd7 "_law_stream" = true) (k7 : PySem.W.keepIn K (.ref f7) = true)
    (a8 : PySem.W.nsIn K mainGlobals "_law_draw" = some (some (.ref f8))) (l8 : K.lookup f8 = some ⟨oc8, od8, .func (PySem.W.fnOf "_law_draw" "_law_draw" (defArgs sDraw) (defBody sDraw) (defScope sDraw) .none kV8 dc8 pm8 an8 cd8 ct8), sl8⟩) (c8 : PySem.W.codeIn K cd8 "_law_draw" = true) (k8 : PySem.W.keepIn K (.ref f8) = true)
    (a9 : PySem.W.nsIn K mainGlobals "_law_far" = some (some (.ref f9))) (l9 : K.lookup f9 = some ⟨oc9, od9, .func (PySem.W.fnOf "_law_far" "_law_far" (defArgs sFar) (defBody sFar) (defScope sFar) .none kV9 dc9 pm9 an9 cd9 ct9), sl9⟩) (c9 : PySem.W.codeIn K cd9 "_law_far" = true) (k9 : PySem.W.keepIn K (.ref f9) = true)
    (a10 : PySem.W.nsIn K mainGlobals "_law_atom" = some (some (.ref f10))) (l10 : K.lookup f10 = some ⟨oc10, od10, .func (PySem.W.fnOf "_law_atom" "_law_atom" (defArgs sLaAtom) (defBody sLaAtom) (defScope sLaAtom) .none kV10 dc10 pm10 an10 cd10 ct10), sl10⟩) (c10 : PySem.W.codeIn K cd10 "_law_atom" = true) (k10 : PySem.W.keepIn K (.ref f10) = true)
    (a11 : PySem.W.nsIn K mainGlobals "_law_node" = some (some (.ref f11))) (l11 : K.lookup f11 = some ⟨oc11, od11, .func (PySem.W.fnOf "_law_node" "_law_node" (defArgs sLaNode) (defBody sLaNode) (defScope sLaNode) .none kV11 dc11 pm11 an11 cd11 ct11), sl11⟩) (c11 : PySem.W.codeIn K cd11 "_law_node" = true) (k11 : PySem.W.keepIn K (.ref f11) = true)
    (a12 : PySem.W.nsIn K mainGlobals "_law_graph" = some (some (.ref f12))) (l12 : K.lookup f12 = some ⟨oc12, od12, .func (PySem.W.fnOf "_law_graph" "_law_graph" (defArgs sLaGraph) (defBody sLaGraph) (defScope sLaGraph) .none kV12 dc12 pm12 an12 cd12 ct12), sl12⟩) (c12 : PySem.W.codeIn K cd12 "_law_graph" = true) (k12 : PySem.W.keepIn K (.ref f12) = true)
    (a13 : PySem.W.nsIn K mainGlobals "_law_is_number" = some (some (.ref f13))) (l13 : K.lookup f13 = some ⟨oc13, od13, .func (PySem.W.fnOf "_law_is_number" "_law_is_number" (defArgs sLNum) (defBody sLNum) (defScope sLNum) .none kV13 dc13 pm13 an13 cd13 ct13), sl13⟩) (c13 : PySem.W.codeIn K cd13 "_law_is_number" = true) (k13 : PySem.W.keepIn K (.ref f13) = true)
    (a14 : PySem.W.nsIn K mainGlobals "_law_is_atom" = some (some (.ref f14))) (l14 : K.lookup f14 = some ⟨oc14, od14, .func (PySem.W.fnOf "_law_is_atom" "_law_is_atom" (defArgs sLAtom) (defBody sLAtom) (defScope sLAtom) .none kV14 dc14 pm14 an14 cd14 ct14), sl14⟩) (c14 : PySem.W.codeIn K cd14 "_law_is_atom" = true) (k14 : PySem.W.keepIn K (.ref f14) = true)
    (a15 : PySem.W.nsIn K mainGlobals "_law_is_node" = some (some (.ref f15))) (l15 : K.lookup f15 = some ⟨oc15, od15, .func (PySem.W.fnOf "_law_is_node" "_law_is_node" (defArgs sLNode) (defBody sLNode) (defScope sLNode) .none kV15 dc15 pm15 an15 cd15 ct15), sl15⟩) (c15 : PySem.W.codeIn K cd15 "_law_is_node" = true) (k15 : PySem.W.keepIn K (.ref f15) = true)
    (a16 : PySem.W.nsIn K mainGlobals "_law_due" = some (some (.ref f16))) (l16 : K.lookup f16 = some ⟨oc16, od16, .func (PySem.W.fnOf "_law_due" "_law_due" (defArgs sLDue) (defBody sLDue) (defScope sLDue) .none kV16 dc16 pm16 an16 cd16 ct16), sl16⟩) (c16 : PySem.W.codeIn K cd16 "_law_due" = true) (k16 : PySem.W.keepIn K (.ref f16) = true)
    (a17 : PySem.W.nsIn K mainGlobals "_law_odd" = some (some (.ref f17))) (l17 : K.lookup f17 = some ⟨oc17, od17, .func (PySem.W.fnOf "_law_odd" "_law_odd" (defArgs sOdd) (defBody sOdd) (defScope sOdd) .none kV17 dc17 pm17 an17 cd17 ct17), sl17⟩) (c17 : PySem.W.codeIn K cd17 "_law_odd" = true) (k17 : PySem.W.keepIn K (.ref f17) = true)
    (a18 : PySem.W.nsIn K mainGlobals "_law_changed" = some (some (.ref f18))) (l18 : K.lookup f18 = some ⟨oc18, od18, .func (PySem.W.fnOf "_law_changed" "_law_changed" (defArgs sChg) (defBody sChg) (defScope sChg) .none kV18 dc18 pm18 an18 cd18 ct18), sl18⟩) (c18 : PySem.W.codeIn K cd18 "_law_changed" = true) (k18 : PySem.W.keepIn K (.ref f18) = true)
    (a19 : PySem.W.nsIn K mainGlobals "law" = some (some (.ref f19))) (l19 : K.lookup f19 = some ⟨oc19, od19, .func (PySem.W.fnOf "law" "law" (defArgs sLaw) (defBody sLaw) (defScope sLaw) .none kV19 dc19 pm19 an19 cd19 ct19), sl19⟩) (c19 : PySem.W.codeIn K cd19 "law" = true) (k19 : PySem.W.keepIn K (.ref f19) = true)
    {t0 : Tok} (m0 : PySem.W.nsIn K mainGlobals "MOST_NODES" = some (some (.int 400 t0)))
    {t1 : Tok} (m1 : PySem.W.nsIn K mainGlobals "MOST_NUMBER" = some (some (.int 1000000000 t1)))
    {t2 : Tok} (m2 : PySem.W.nsIn K mainGlobals "MOST_SIGNS" = some (some (.int 12 t2)))
    {t3 : Tok} (m3 : PySem.W.nsIn K mainGlobals "MOST_PARTS" = some (some (.int 6 t3)))
    (z0 : PySem.W.nsIn K mainGlobals "isinstance" = some none)
    (z1 : PySem.W.nsIn K mainGlobals "int" = some none)
    (z2 : PySem.W.nsIn K mainGlobals "bool" = some none)
    (z3 : PySem.W.nsIn K mainGlobals "str" = some none)
    (z4 : PySem.W.nsIn K mainGlobals "tuple" = some none)
    (z5 : PySem.W.nsIn K mainGlobals "list" = some none)
    (z6 : PySem.W.nsIn K mainGlobals "len" = some none)
    (z7 : PySem.W.nsIn K mainGlobals "abs" = some none)
    (z8 : PySem.W.nsIn K mainGlobals "all" = some none)
    (z9 : PySem.W.nsIn K mainGlobals "range" = some none) :
    ∃ fd : FuncData, (∀ (s : Shared) (v : Value), BindsTo s fd ⟨[v], []⟩ [("script", v)]) ∧ ∀ base : Heap, K.In base → base.Ns mainGlobals mg → FnOk l.prog w K mg base CX0 6 fa fd ["script"] (spLaw K) := by
  have e := hfa.symm.trans (PySem.W.mg_of X G a19)
  cases e
  have F0 := fun_mk (st := sInt) l0 c0 k0
  have h0 := PySem.W.mg_of X G a0
  have b0 := F0.binds (ps := ["value", "low", "high"]) fun _ _ _ _ _ _ us hl => match us, hl with | [_, _, _], _ => rfl
  have F1 := fun_mk (st := sAtom) l1 c1 k1
  have h1 := PySem.W.mg_of X G a1
  have b1 := F1.binds (ps := ["value"]) fun _ _ _ _ _ _ us hl => match us, hl with | [_], _ => rfl
  have F2 := fun_mk (st := sGraph) l2 c2 k2
  have h2 := PySem.W.mg_of X G a2
  have b2 := F2.binds (ps := ["value"]) fun _ _ _ _ _ _ us hl => match us, hl with | [_], _ => rfl
  have F3 := fun_mk (st := sNode) l3 c3 k3
  have h3 := PySem.W.mg_of X G a3
  have b3 := F3.binds (ps := ["node", "many"]) fun _ _ _ _ _ _ us hl => match us, hl with | [_, _], _ => rfl
  have F4 := fun_mk (st := sShort) l4 c4 k4
  have h4 := PySem.W.mg_of X G a4
  have b4 := F4.binds (ps := ["node"]) fun _ _ _ _ _ _ us hl => match us, hl with | [_], _ => rfl
  have F5 := fun_mk (st := sLong) l5 c5 k5
  have h5 := PySem.W.mg_of X G a5
  have b5 := F5.binds (ps := ["node", "many"]) fun _ _ _ _ _ _ us hl => match us, hl with | [_, _], _ => rfl
  have F6 := fun_mk (st := sParts) l6 c6 k6
  have h6 := PySem.W.mg_of X G a6
  have b6 := F6.binds (ps := ["value", "many"]) fun _ _ _ _ _ _ us hl => match us, hl with | [_, _], _ => rfl
  have F7 := fun_mk (st := sStream) l7 c7 k7
  have h7 := PySem.W.mg_of X G a7
  have b7 := F7.binds (ps := ["script"]) fun _ _ _ _ _ _ us hl => match us, hl with | [_], _ => rfl
  have F8 := fun_mk (st := sDraw) l8 c8 k8
  have h8 := PySem.W.mg_of X G a8
  have b8 := F8.binds (ps := ["stream", "many"]) fun _ _ _ _ _ _ us hl => match us, hl with | [_, _], _ => rfl
  have F9 := fun_mk (st := sFar) l9 c9 k9
  have h9 := PySem.W.mg_of X G a9
  have b9 := F9.binds (ps := ["stream"]) fun _ _ _ _ _ _ us hl => match us, hl with | [_], _ => rfl
  have F10 := fun_mk (st := sLaAtom) l10 c10 k10
  have h10 := PySem.W.mg_of X G a10
  have b10 := F10.binds (ps := ["stream"]) fun _ _ _ _ _ _ us hl => match us, hl with | [_], _ => rfl
  have F11 := fun_mk (st := sLaNode) l11 c11 k11
  have h11 := PySem.W.mg_of X G a11
  have b11 := F11.binds (ps := ["stream", "many"]) fun _ _ _ _ _ _ us hl => match us, hl with | [_, _], _ => rfl
  have F12 := fun_mk (st := sLaGraph) l12 c12 k12
  have h12 := PySem.W.mg_of X G a12
  have b12 := F12.binds (ps := ["stream", "most"]) fun _ _ _ _ _ _ us hl => match us, hl with | [_, _], _ => rfl
  have F13 := fun_mk (st := sLNum) l13 c13 k13
  have h13 := PySem.W.mg_of X G a13
  have b13 := F13.binds (ps := ["value", "low", "high"]) fun _ _ _ _ _ _ us hl => match us, hl with | [_, _, _], _ => rfl
  have F14 := fun_mk (st := sLAtom) l14 c14 k14
  have h14 := PySem.W.mg_of X G a14
  have b14 := F14.binds (ps := ["value"]) fun _ _ _ _ _ _ us hl => match us, hl with | [_], _ => rfl
  have F15 := fun_mk (st := sLNode) l15 c15 k15
  have h15 := PySem.W.mg_of X G a15
  have b15 := F15.binds (ps := ["node", "many"]) fun _ _ _ _ _ _ us hl => match us, hl with | [_, _], _ => rfl
  have F16 := fun_mk (st := sLDue) l16 c16 k16
  have h16 := PySem.W.mg_of X G a16
  have b16 := F16.binds (ps := ["value"]) fun _ _ _ _ _ _ us hl => match us, hl with | [_], _ => rfl
  have F17 := fun_mk (st := sOdd) l17 c17 k17
  have h17 := PySem.W.mg_of X G a17
  have b17 := F17.binds (ps := ["stream", "many"]) fun _ _ _ _ _ _ us hl => match us, hl with | [_, _], _ => rfl
  have F18 := fun_mk (st := sChg) l18 c18 k18
  have h18 := PySem.W.mg_of X G a18
  have b18 := F18.binds (ps := ["stream", "value"]) fun _ _ _ _ _ _ us hl => match us, hl with | [_, _], _ => rfl
  have F19 := fun_mk (st := sLaw) l19 c19 k19
  have h19 := PySem.W.mg_of X G a19
  have n0 : ∃ t, mg "MOST_NODES" = some (.int 400 t) := ⟨_, PySem.W.mg_of X G m0⟩
  have n1 : ∃ t, mg "MOST_NUMBER" = some (.int 1000000000 t) := ⟨_, PySem.W.mg_of X G m1⟩
  have n2 : ∃ t, mg "MOST_SIGNS" = some (.int 12 t) := ⟨_, PySem.W.mg_of X G m2⟩
  have n3 : ∃ t, mg "MOST_PARTS" = some (.int 6 t) := ⟨_, PySem.W.mg_of X G m3⟩
  have y0 := PySem.W.mg_none_of X G z0
  have y1 := PySem.W.mg_none_of X G z1
  have y2 := PySem.W.mg_none_of X G z2
  have y3 := PySem.W.mg_none_of X G z3
  have y4 := PySem.W.mg_none_of X G z4
  have y5 := PySem.W.mg_none_of X G z5
  have y6 := PySem.W.mg_none_of X G z6
  have y7 := PySem.W.mg_none_of X G z7
  have y8 := PySem.W.mg_none_of X G z8
  have y9 := PySem.W.mg_none_of X G z9
  refine ⟨PySem.W.fnOf "law" "law" (defArgs sLaw) (defBody sLaw) (defScope sLaw) .none kV19 dc19 pm19 an19 cd19 ct19, fun s v => .of_eq rfl, fun base _ _ => ?_⟩
  have g0 := ok_int (P := l.prog) (w := w) (base := base) F0 h0 b0 y0 y1 y2
  have g1 := ok_atom (P := l.prog) (w := w) (base := base) F1 h1 b1 y0 y3 y6 n2
  have g4 := ok_short (P := l.prog) (w := w) (base := base) F4 h4 b4 g0 g1 n1
  have g6 := ok_parts (P := l.prog) (w := w) (base := base) F6 h6 b6 g0 y0 y4 y6 y8 n3
  have g5 := ok_long (P := l.prog) (w := w) (base := base) F5 h5 b5 g0 g1 g6 n1
  have g3 := ok_node (P := l.prog) (w := w) (base := base) F3 h3 b3 g4 g5 y0 y4 y6
  have g2 := ok_graph (P := l.prog) (w := w) (base := base) F2 h2 b2 g3 y0 y4 y6 y8 n0
  have g13 := ok_lnum (P := l.prog) (w := w) (base := base) F13 h13 b13 y0 y1 y2
  have g14 := ok_latom (P := l.prog) (w := w) (base := base) F14 h14 b14 y0 y3 y6 y8
  have g15 := ok_lnode (P := l.prog) (w := w) (base := base) F15 h15 b15 g13 g14 y0 y4 y6 y3 y8
  have g16 := ok_due (P := l.prog) (w := w) (base := base) F16 h16 b16 g15 y0 y4 y6 y8
  have g8 := ok_draw (P := l.prog) (w := w) (base := base) F8 h8 b8 y7 y1 y6
  have g7 := ok_stream (P := l.prog) (w := w) (base := base) F7 h7 b7 y1 y5
  have g9 := ok_far (P := l.prog) (w := w) (base := base) F9 h9 b9 g8
  have g10 := ok_laatom (P := l.prog) (w := w) (base := base) F10 h10 b10 g8 y9
  have g11 := ok_lanode (P := l.prog) (w := w) (base := base) F11 h11 b11 g8 g9 g10 y9 y4
  have g12 := ok_lagraph (P := l.prog) (w := w) (base := base) F12 h12 b12 g8 g11 y9 y4
  have g17 := ok_odd (P := l.prog) (w := w) (base := base) F17 h17 b17 g8 y6
  have g18 := ok_chg (P := l.prog) (w := w) (base := base) F18 h18 b18 g8 g17 y6 y5
  exact ok_law F19 g8 g7 g12 g2 g16 g18 y0 y2 y9 n0
end K1
open PySem PySem.W PyProof.Rows
set_option maxRecDepth 100000 in
set_option maxHeartbeats 0 in
theorem PySem.Challenge.cw_leatwork_k01_is_graph_holds : PySem.Challenge.rw_leatwork_k01_is_graph.Holds := by
  w_on; o_law; k_head; (case hw => w_witness2)
  k_fill
  refine L2.walk_of (l := PySem.Challenge.rw_leatwork_k01_is_graph) (n := 63) (k := 6) (x := "script") (CX := fun _ => L2.CX0) (sp := fun w => K1.spLaw _) rfl (by decide) rfl ⟨rfl, by decide, by decide⟩ (fun w h Y => PySem.W.kIn_of Y) ?F (fun _ _ a ns hl _ hS => ⟨a, ns, rfl, hS, hl, fun _ => rfl⟩) (fun _ _ _ _ _ h => h)
  case F =>
    intro w mg fa h KX G hmg
    refine' K1.all_mk KX G hmg ?a0 ?l0 ?c0 ?k0 ?a1 ?l1 ?c1 ?k1 ?a2 ?l2 ?c2 ?k2 ?a3 ?l3 ?c3 ?k3 ?a4 ?l4 ?c4 ?k4 ?a5 ?l5 ?c5 ?k5 ?a6 ?l6 ?c6 ?k6 ?a7 ?l7 ?c7 ?k7 ?a8 ?l8 ?c8 ?k8 ?a9 ?l9 ?c9 ?k9 ?a10 ?l10 ?c10 ?k10 ?a11 ?l11 ?c11 ?k11 ?a12 ?l12 ?c12 ?k12 ?a13 ?l13 ?c13 ?k13 ?a14 ?l14 ?c14 ?k14 ?a15 ?l15 ?c15 ?k15 ?a16 ?l16 ?c16 ?k16 ?a17 ?l17 ?c17 ?k17 ?a18 ?l18 ?c18 ?k18 ?a19 ?l19 ?c19 ?k19 ?m0 ?m1 ?m2 ?m3 ?z0 ?z1 ?z2 ?z3 ?z4 ?z5 ?z6 ?z7 ?z8 ?z9
    (case a0 => k_is)
    (case l0 => k_is)
    (case c0 => k_is)
    (case k0 => k_is)
    (case a1 => k_is)
    (case l1 => k_is)
    (case c1 => k_is)
    (case k1 => k_is)
    (case a2 => k_is)
    (case l2 => k_is)
    (case c2 => k_is)
    (case k2 => k_is)
    (case a3 => k_is)
    (case l3 => k_is)
    (case c3 => k_is)
    (case k3 => k_is)
    (case a4 => k_is)
    (case l4 => k_is)
    (case c4 => k_is)
    (case k4 => k_is)
    (case a5 => k_is)
    (case l5 => k_is)
    (case c5 => k_is)
    (case k5 => k_is)
    (case a6 => k_is)
    (case l6 => k_is)
    (case c6 => k_is)
    (case k6 => k_is)
    (case a7 => k_is)
    (case l7 => k_is)
    (case c7 => k_is)
    (case k7 => k_is)
    (case a8 => k_is)
    (case l8 => k_is)
    (case c8 => k_is)
    (case k8 => k_is)
    (case a9 => k_is)
    (case l9 => k_is)
    (case c9 => k_is)
    (case k9 => k_is)
    (case a10 => k_is)
    (case l10 => k_is)
    (case c10 => k_is)
    (case k10 => k_is)
    (case a11 => k_is)
    (case l11 => k_is)
    (case c11 => k_is)
    (case k11 => k_is)
    (case a12 => k_is)
    (case l12 => k_is)
    (case c12 => k_is)
    (case k12 => k_is)
    (case a13 => k_is)
    (case l13 => k_is)
    (case c13 => k_is)
    (case k13 => k_is)
    (case a14 => k_is)
    (case l14 => k_is)
    (case c14 => k_is)
    (case k14 => k_is)
    (case a15 => k_is)
    (case l15 => k_is)
    (case c15 => k_is)
    (case k15 => k_is)
    (case a16 => k_is)
    (case l16 => k_is)
    (case c16 => k_is)
    (case k16 => k_is)
    (case a17 => k_is)
    (case l17 => k_is)
    (case c17 => k_is)
    (case k17 => k_is)
    (case a18 => k_is)
    (case l18 => k_is)
    (case c18 => k_is)
    (case k18 => k_is)
    (case a19 => k_is)
    (case l19 => k_is)
    (case c19 => k_is)
    (case k19 => k_is)
    (case m0 => k_is)
    (case m1 => k_is)
    (case m2 => k_is)
    (case m3 => k_is)
    (case z0 => k_is)
    (case z1 => k_is)
    (case z2 => k_is)
    (case z3 => k_is)
    (case z4 => k_is)
    (case z5 => k_is)
    (case z6 => k_is)
    (case z7 => k_is)
    (case z8 => k_is)
    (case z9 => k_is)
