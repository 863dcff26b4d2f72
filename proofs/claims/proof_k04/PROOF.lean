import PyProof.Rows.All
import Wide.All
import OpenK.AllK
import Wide.FinOn
import HandS.Base
import HandS.Call
import HandS.List
import HandS.Comp
import HandS.Ends
import HandS.Dict
import HandS.Iter
import HandS.Text
import HandS.Words
import HandS.WordsList
import HandS.StrMore
import HandS.IsInst
import HandS.TupAny
import HandS.TupMul
import HandS.Style
import HandS.Zip
import HandS.Star
import HandS.More
import HandS.Deep
import HandS.TupLe
import KE.DataCmp
import KE.LtSeq
import KE.KDictDisplayH
import KE.SortData
import PySem.Challenge.RW_leatwork_k04_order_of_trees
set_option Elab.async false
set_option linter.all false
set_option maxRecDepth 100000
set_option maxHeartbeats 4000000
namespace Wk
open PySem PySem.Spec PyProof.Rows L2

/-! ### the weakest wish, by syntax -/
structure wE (X : Cx) (e : Expr) (σ : L2.St) (H : Hp) (Q : VK) : Prop where
  ex : ∃ t : TE, PE X e t ∧ t σ H Q
structure wT (X : Cx) (e : Expr) (σ : L2.St) (H : Hp) (Q : Bool → Hp → Prop) : Prop where
  ex : ∃ t : TT, PT X e t ∧ t σ H Q
structure wP (X : Cx) (e : Expr) (σ : L2.St) (H : Hp) (Q : Bool → Hp → Prop) : Prop where
  ex : ∃ t : TT, PW X e t ∧ t σ H Q
structure wA (X : Cx) (es : List Expr) (σ : L2.St) (H : Hp) (Q : List V → Hp → Prop) : Prop where
  ex : ∃ t : TA, PA X es t ∧ t σ H Q
structure wS (X : Cx) (st : Stmt) (D : Ends) (σ : L2.St) (H : Hp) : Prop where
  ex : ∃ t : TS, PS X st t ∧ t D σ H
structure wSs (X : Cx) (st : List Stmt) (D : Ends) (σ : L2.St) (H : Hp) : Prop where
  ex : ∃ t : TS, PSs X st t ∧ t D σ H
structure wG (X : Cx) (tg : Expr) (v : V) (σ : L2.St) (H : Hp) (Q : L2.St → Hp → Prop) : Prop where
  ex : ∃ t : TG, PG X tg t ∧ t v σ H Q
structure wGs (X : Cx) (tg : List Expr) (v : List V) (σ : L2.St) (H : Hp) (Q : L2.St → Hp → Prop) : Prop where
  ex : ∃ t : TGs, PGs X tg t ∧ t v σ H Q
structure wI (X : Cx) (tg iter : Expr) (σ : L2.St) (H : Hp) (R : It → Hp → Prop) : Prop where
  ex : ∃ t : TI, PI X tg iter t ∧ t σ H R
structure wO (X : Cx) (e : Option Expr) (σ : L2.St) (H : Hp) (Q : Option Int → Hp → Prop) : Prop where
  ex : ∃ t : TO, PO X e t ∧ t σ H Q
section
variable {X : Cx}
theorem pE {e : Expr} : PE X e (wE X e) := ⟨fun pins s σ H Q I h => by obtain ⟨t, p, q⟩ := h; exact p.run pins s σ H Q I q⟩
theorem pT {e : Expr} : PT X e (wT X e) := ⟨fun pins s σ H Q I h => by obtain ⟨t, p, q⟩ := h; exact p.run pins s σ H Q I q⟩
theorem pP {e : Expr} : PW X e (wP X e) := ⟨fun wh pins s σ H Q I h => by obtain ⟨t, p, q⟩ := h; exact p.run wh pins s σ H Q I q⟩
theorem pA {es : List Expr} : PA X es (wA X es) := ⟨fun pos pins s σ H Q I h => by obtain ⟨t, p, q⟩ := h; exact p.run pos pins s σ H Q I q⟩
theorem pS {st : Stmt} : PS X st (wS X st) := ⟨fun pins s σ H Q I h => by obtain ⟨t, p, q⟩ := h; exact p.run pins s σ H Q I q⟩
theorem pSs {st : List Stmt} : PSs X st (wSs X st) := ⟨fun pins s σ H Q I h => by obtain ⟨t, p, q⟩ := h; exact p.run pins s σ H Q I q⟩
theorem pG {tg : Expr} : PG X tg (wG X tg) := ⟨fun pins s σ H v u Q I r h => by obtain ⟨t, p, q⟩ := h; exact p.run pins s σ H v u Q I r q⟩
theorem pGs {tg : List Expr} : PGs X tg (wGs X tg) := ⟨fun pins s σ H v u Q I r h => by obtain ⟨t, p, q⟩ := h; exact p.run pins s σ H v u Q I r q⟩
theorem pI {tg iter : Expr} : PI X tg iter (wI X tg iter) := ⟨fun pins s σ H R I h => by obtain ⟨t, p, q⟩ := h; exact p.run pins s σ H R I q⟩
theorem pO {e : Option Expr} : PO X e (wO X e) := ⟨fun pins s σ H Q I h => by obtain ⟨t, p, q⟩ := h; exact p.run pins s σ H Q I q⟩

/-! ### operators by values -/
structure wB (X : Cx) (op : Operator) (x y : V) (H : Hp) (Q : VK) : Prop where
  ex : ∃ r : R2, OpR X (binaryOp op) r ∧ r x y H Q
structure wC (X : Cx) (op : CmpOp) (x y : V) (H : Hp) (Q : VK) : Prop where
  ex : ∃ r : R2, OpR X (compareOp op) r ∧ r x y H Q
structure wU (X : Cx) (op : UnaryOp) (x : V) (H : Hp) (Q : VK) : Prop where
  ex : ∃ r : V → Hp → VK → Prop, UnR X (unaryOp op) r ∧ r x H Q
structure wX (X : Cx) (x y : V) (H : Hp) (Q : VK) : Prop where
  ex : ∃ r : R2, IxR X r ∧ r x y H Q
structure wL (X : Cx) (x : V) (lo hi : Option Int) (H : Hp) (Q : VK) : Prop where
  ex : ∃ r : V → Option Int → Option Int → Hp → VK → Prop, SlR X r ∧ r x lo hi H Q
structure wF (X : Cx) (f : Value) (xs : List V) (H : Hp) (Q : VK) : Prop where
  ex : ∃ r : List V → Hp → VK → Prop, CallR X f r ∧ r xs H Q
structure wM (X : Cx) (id : String) (x : V) (xs : List V) (H : Hp) (Q : VK) : Prop where
  ex : ∃ r : V → List V → Hp → VK → Prop, MtR X id r ∧ r x xs H Q
structure wPt (X : Cx) (o i v : V) (H : Hp) (Q : Hp → Prop) : Prop where
  ex : ∃ t : TSet, PSet X t ∧ t o i v H Q
structure wIp (X : Cx) (op : Operator) (x y : V) (H : Hp) (Q : VK) : Prop where
  ex : ∃ t : TIp, PIp X op t ∧ t x y H Q
theorem pB {op : Operator} : OpR X (binaryOp op) (wB X op) := by
  intro pins s σ H x y v u Q I rx ry h; obtain ⟨r, p, q⟩ := h; exact p pins s σ H x y v u Q I rx ry q
theorem pC {op : CmpOp} : OpR X (compareOp op) (wC X op) := by
  intro pins s σ H x y v u Q I rx ry h; obtain ⟨r, p, q⟩ := h; exact p pins s σ H x y v u Q I rx ry q
theorem pU {op : UnaryOp} : UnR X (unaryOp op) (wU X op) := by
  intro pins s σ H x v Q I rx h; obtain ⟨r, p, q⟩ := h; exact p pins s σ H x v Q I rx q
theorem pX : IxR X (wX X) := by
  intro value slice pins s σ H x y v u Q I rx ry h hs; obtain ⟨r, p, q⟩ := h; exact p value slice pins s σ H x y v u Q I rx ry q hs
theorem pL : SlR X (wL X) := by
  intro pins s σ H x v vl vu lo hi sl Q I rx hs pl pu h; obtain ⟨r, p, q⟩ := h; exact p pins s σ H x v vl vu lo hi sl Q I rx hs pl pu q
theorem pF {f : Value} : CallR X f (wF X f) := by
  intro pins s σ H xs us Q I rv h; obtain ⟨r, p, q⟩ := h; exact p pins s σ H xs us Q I rv q
theorem pM {id : String} : MtR X id (wM X id) := by
  intro pins s σ H x xs v us Q I rx rv h; obtain ⟨r, p, q⟩ := h; exact p pins s σ H x xs v us Q I rx rv q
theorem pPt : PSet X (wPt X) := by
  intro pins s σ H o i v ov iv u Q I ro ri rv h; obtain ⟨t, p, q⟩ := h; exact p pins s σ H o i v ov iv u Q I ro ri rv q
theorem pIp {op : Operator} : PIp X op (wIp X op) := by
  intro pins s σ H x y v u Q I rx ry h; obtain ⟨r, p, q⟩ := h; exact p pins s σ H x y v u Q I rx ry q


section
variable {σ : L2.St} {H : Hp} {Q : VK} {QT : Bool → Hp → Prop} {QA : List V → Hp → Prop} {a b c e o i : Expr} {es rest : List Expr} {pos pos' : Pos} {D : Ends}
/-! ### expressions -/
theorem eName (i : Nat) {x : Str} {v : V} (hv : σ[i]? = some (some v)) (hN : X.N[i]? = some x) (hx : Vis X.env.scope x)
    (hd : (x == ("__debug__" : Str)) = false) (hcd : (x == ("__classdict__" : Str)) = false) (h : Q v H) : wE X (.Name x pos) σ H Q := ⟨_, pe_var (i := i) hN hx hd hcd, v, hv, h⟩
/-- a name of the def -/
structure wN (X : Cx) (x : Str) (σ : L2.St) (H : Hp) (Q : VK) : Prop where
  ex : ∃ (i : Nat) (v : V), σ[i]? = some (some v) ∧ X.N[i]? = some x ∧ Vis X.env.scope x ∧ (x == ("__debug__" : Str)) = false ∧ (x == ("__classdict__" : Str)) = false ∧ Q v H
theorem eNm {x : Str} (h : wN X x σ H Q) : wE X (.Name x pos) σ H Q := by
  obtain ⟨i, v, hv, hN, hx, hd, hcd, q⟩ := h
  exact eName i hv hN hx hd hcd q
theorem nAt (i : Nat) {x : Str} {v : V} (hN : X.N[i]? = some x) (hv : σ[i]? = some (some v)) (hx : Vis X.env.scope x) (hd : (x == ("__debug__" : Str)) = false) (hcd : (x == ("__classdict__" : Str)) = false) (h : Q v H) : wN X x σ H Q := ⟨i, v, hv, hN, hx, hd, hcd, h⟩
theorem eInt {i j} (h : Q (.int i) H) : wE X (.Constant (.int i) j pos) σ H Q := ⟨_, pe_int, h⟩
theorem eBl {i j} (h : Q (.bl i) H) : wE X (.Constant (.bool i) j pos) σ H Q := ⟨_, pe_bl, h⟩
theorem eNon {j} (h : Q .non H) : wE X (.Constant .none j pos) σ H Q := ⟨_, pe_non, h⟩
theorem eStr {i j} (h : Q (.str i) H) : wE X (.Constant (.str i) j pos) σ H Q := ⟨_, pe_str, h⟩
theorem eGlob {x : Str} {v : V} {u : Value} (hm : X.mg x = some u) (r : RelV v u) (h : Q v H) (hg : Gl X x := by rfl) (hd : (x == ("__debug__" : Str)) = false := by decide) : wE X (.Name x pos) σ H Q := ⟨_, pe_glob hg hm r hd, h⟩
theorem eGlobI {x : Str} {n : Int} (hm : ∃ t, X.mg x = some (.int n t)) (h : Q (.int n) H) (hg : Gl X x := by rfl) (hd : (x == ("__debug__" : Str)) = false := by decide) : wE X (.Name x pos) σ H Q := by
  obtain ⟨t, e⟩ := hm
  exact ⟨_, pe_glob (v := .int n) hg e ⟨t, rfl⟩ hd, h⟩
theorem eBltn {x : Str} {v : V} {u : Value} (hm : X.mg x = none) (hv : bootBuiltins x = some u) (r : RelV v u) (h : Q v H) (hg : Gl X x := by rfl) (hn : x ≠ "__name__" := by decide) (hd : (x == ("__debug__" : Str)) = false := by decide) : wE X (.Name x pos) σ H Q := ⟨_, pe_bltn hg hm hv r hn hd, h⟩
theorem eTy {x : Str} {T : String} (hm : X.mg x = none) (hv : bootBuiltins x = some (.type T)) (h : Q (.ty T) H) (hg : Gl X x := by rfl) (hn : x ≠ "__name__" := by decide) (hd : (x == ("__debug__" : Str)) = false := by decide) : wE X (.Name x pos) σ H Q := ⟨_, pe_bltn (v := .ty T) hg hm hv rfl hn hd, h⟩
theorem eBin {op : Operator} (h : wE X a σ H fun x H1 => wE X b σ H1 fun y H2 => wB X op x y H2 Q) : wE X (.BinOp a op b pos) σ H Q := ⟨_, pe_op pB pE pE, h⟩
theorem eUn {op : UnaryOp} (h : wE X a σ H fun x H1 => wU X op x H1 Q) : wE X (.UnaryOp op a pos) σ H Q := ⟨_, pe_un pU pE, h⟩
theorem eNot (h : wE X a σ H fun x H1 => ∃ c, x = .bl c ∧ Q (.bl (!c)) H1) : wE X (.UnaryOp .Not a pos) σ H Q := ⟨_, pe_not pE, h⟩
theorem eCmp {op : CmpOp} (h : wE X a σ H fun x H1 => wE X b σ H1 fun y H2 => wC X op x y H2 Q) (hm : behindInMarks op b = false := by first | exact nomark _ | rfl) : wE X (.Compare a [op] [b] pos) σ H Q := ⟨_, pe_cmpR pC pE pE hm, h⟩
theorem eChain {op op' : CmpOp} (h : wE X a σ H fun x H1 => wE X b σ H1 fun y H2 => wC X op x y H2 fun z H3 => ∃ k, z = .bl k ∧ (if k = true then wE X c σ H3 fun w' H4 => wC X op' y w' H4 Q else Q (.bl false) H3))
    (hm : lastMarks [op, op'] [b, c] = false := by with_unfolding_all rfl) : wE X (.Compare a [op, op'] [b, c] pos) σ H Q := ⟨_, pe_chain pC pC pE pE pE hm, h⟩
theorem eOne {op} (h : wE X a σ H Q) : wE X (.BoolOp op [a] pos) σ H Q := ⟨_, pe_one pE, h⟩
theorem eAnd (h : wE X a σ H fun x H1 => ∃ c, x = .bl c ∧ if c = true then wE X (.BoolOp .And (b :: rest) pos) σ H1 Q else Q (.bl false) H1) : wE X (.BoolOp .And (a :: b :: rest) pos) σ H Q := ⟨_, pe_and pE pE, h⟩
theorem eOr (h : wE X a σ H fun x H1 => ∃ c, x = .bl c ∧ if c = true then Q (.bl true) H1 else wE X (.BoolOp .Or (b :: rest) pos) σ H1 Q) : wE X (.BoolOp .Or (a :: b :: rest) pos) σ H Q := ⟨_, pe_or pE pE, h⟩
theorem eIf (h : wT X c σ H fun k H1 => if k = true then wE X a σ H1 Q else wE X b σ H1 Q) : wE X (.IfExp c a b pos) σ H Q := ⟨_, pe_ifExp pT pE pE, h⟩
theorem eTup {x1} (h : wA X es σ H fun xs H1 => xs.length ≤ sizeLine ∧ ∀ p, H1 p = none → Q (.ref p) (upd H1 p (.tup xs))) : wE X (.Tuple es x1 pos) σ H Q := ⟨_, pe_tup pA, h⟩
theorem eLst (h : wA X es σ H fun xs H1 => xs.length ≤ sizeLine ∧ ∀ p, H1 p = none → Q (.ref p) (upd H1 p (.lst xs))) : wE X (.List es pos) σ H Q := ⟨_, pe_lst pA, h⟩
theorem aNil (h : QA [] H) : wA X [] σ H QA := ⟨_, pa_nil, h⟩
theorem aCons (h : wE X e σ H fun x H1 => wA X es σ H1 fun xs H2 => QA (x :: xs) H2) (hs : starEach (e :: es) X.env = (false, eval e X.env) :: starEach es X.env := by rfl) : wA X (e :: es) σ H QA := ⟨_, pa_cons pE pA hs, h⟩
theorem eIx (h : wE X a σ H fun x H1 => wE X b σ H1 fun y H2 => wX X x y H2 Q) (hs : PlainIx b := by exact fun _ _ => rfl) : wE X (.Subscript a b pos) σ H Q := ⟨_, pe_ix pX pE pE hs, h⟩
theorem eSl {lo hi : Option Expr} {p2 : Pos} (h : wE X e σ H fun x H1 => wO X lo σ H1 fun l H2 => wO X hi σ H2 fun u H3 => wL X x l u H3 Q) : wE X (.Subscript e (.Slice lo hi none p2) pos) σ H Q := ⟨_, pe_slice pL pE pO pO, h⟩
theorem oNone {Q : Option Int → Hp → Prop} (h : Q none H) : wO X none σ H Q := ⟨_, po_none, h⟩
theorem oSome {Q : Option Int → Hp → Prop} (h : wE X e σ H fun x H1 => ∃ i, x = .int i ∧ Q (some i) H1) : wO X (some e) σ H Q := ⟨_, po_some pE, h⟩
theorem eCallB {x : Str} {p : Pos} {id : String} (hm : X.mg x = none) (hv : bootBuiltins x = some (.builtin id)) (h : wA X (e :: es) σ H fun vs H1 => wF X (.builtin id) vs H1 Q) (hg : Gl X x := by rfl) (hn : x ≠ "__name__" := by decide) (hdb : (x == ("__debug__" : Str)) = false := by decide)
    (he : starEach (e :: es) X.env = (false, eval e X.env) :: starEach es X.env := by rfl) (hpl : (backTo pos (starEach es X.env)).any (·.1) = false := by rfl) : wE X (.Call (.Name x p) (e :: es) [] pos) σ H Q := ⟨_, pe_callB pF hg hm hv pA hn hdb he hpl, h⟩
theorem eCallT {x : Str} {p : Pos} {T : String} (hm : X.mg x = none) (hv : bootBuiltins x = some (.type T)) (h : wA X (e :: es) σ H fun vs H1 => wF X (.type T) vs H1 Q) (hg : Gl X x := by rfl) (hn : x ≠ "__name__" := by decide) (hdb : (x == ("__debug__" : Str)) = false := by decide)
    (he : starEach (e :: es) X.env = (false, eval e X.env) :: starEach es X.env := by rfl) (hpl : (backTo pos (starEach es X.env)).any (·.1) = false := by rfl) : wE X (.Call (.Name x p) (e :: es) [] pos) σ H Q := ⟨_, pe_callTy pF hg hm hv pA hn hdb he hpl, h⟩
/-- a def that may be called by its name -/
structure Cl (P : Program) (w : World) (K : PySem.W.Frag) (mg : Str → Option Value) (base : Heap) (k : Nat) (x : Str) (sp : Sp) : Prop where
  ex : ∃ (f : Addr) (fd : FuncData) (ps : List Str), FnOk P w K mg base CX0 k f fd ps sp ∧ mg x = some (.ref f) ∧ PySem.W.keepIn K (.ref f) = true ∧ Binds K fd ps []
theorem eCall {x : Str} {p : Pos} {k j : Nat} {sp : Sp} (c : Cl X.prog X.w X.K X.mg X.base k x sp) (hr : Room j X.A) (hk : k ≤ j) (h : wA X (e :: es) σ H fun vs H1 => sp vs H1 Q E0) (hg : Gl X x := by rfl) (hdb : (x == ("__debug__" : Str)) = false := by decide)
    (he : starEach (e :: es) X.env = (false, eval e X.env) :: starEach es X.env := by rfl) (hpl : (backTo pos (starEach es X.env)).any (·.1) = false := by rfl) : wE X (.Call (.Name x p) (e :: es) [] pos) σ H Q := by
  obtain ⟨f, fd, ps, F, hm, kp, bd⟩ := c.ex
  refine ⟨_, pe_call F (hr.mono hk) hg hm kp bd .nil pass0 pA hdb he hpl, ?_⟩
  obtain ⟨t, pt, q⟩ := h
  refine ⟨t, pt, ?_⟩
  have hh : ∀ (f1 f2 : List V → Hp → Prop), f1 = f2 → t σ H f1 → t σ H f2 := fun f1 f2 e z => e ▸ z
  exact hh _ _ (by funext vs H1; rw [List.append_nil]) q
/-- a method of a built-in type, without and with arguments -/
theorem eM0 {T id : String} {name : Str} {apos : Pos} (pa : PlainAttrs T) (slot : Slot T name id) (hty : typeOf (.builtin id) = pure (.type "method_descriptor")) (h : wE X o σ H fun x H1 => tyV X.K T x H1 ∧ wM X id x [] H1 Q)
    (hbase : attributeBase o name X.env (eval o X.env) = eval o X.env := by rfl) (hline : (apos.endLine == pos.line) = true := by rfl) : wE X (.Call (.Attribute o name apos) [] [] pos) σ H Q := ⟨_, pe_bm0 pa slot hty pM pE hbase hline, h⟩
theorem eM {T id : String} {name : Str} {apos : Pos} (pa : PlainAttrs T) (slot : Slot T name id) (hty : typeOf (.builtin id) = pure (.type "method_descriptor")) (h : wE X o σ H fun x H1 => tyV X.K T x H1 ∧ wA X (e :: es) σ H1 fun xs H2 => wM X id x xs H2 Q)
    (hbase : attributeBase o name X.env (eval o X.env) = eval o X.env := by rfl)
    (hfew : ((backTo pos (starEach (e :: es) X.env)).all (fun x => !x.1) && (backToKw pos (keywordEach [] X.env)).all (fun x => x.1.isSome)
      && decide ((e :: es).length + ([] : List Keyword).length + (if ([] : List Keyword).isEmpty then 0 else 1) < 30)) = true := by rfl)
    (hline : (apos.endLine == pos.line) = true := by rfl) (hs : starEach (e :: es) X.env = (false, eval e X.env) :: starEach es X.env := by rfl) (hplain : (backTo pos (starEach es X.env)).any (·.1) = false := by rfl) :
    wE X (.Call (.Attribute o name apos) (e :: es) [] pos) σ H Q := ⟨_, pe_bm pa slot hty pM pE pA hbase hfew hline hs hplain, h⟩

/-! ### tests -/
theorem tCmp {op : CmpOp} (h : wE X a σ H fun x H1 => wE X b σ H1 fun y H2 => wC X op x y H2 fun z H3 => ∃ k, z = .bl k ∧ QT k H3) (hm : behindInMarks op b = false := by first | exact nomark _ | rfl) : wT X (.Compare a [op] [b] pos) σ H QT := ⟨_, pt_cmpR pC pE pE hm, h⟩
theorem tChain {op op' : CmpOp} (h : wE X a σ H fun x H1 => wE X b σ H1 fun y H2 => wC X op x y H2 fun z H3 => ∃ k, z = .bl k ∧ (if k = true then wE X c σ H3 fun w' H4 => wC X op' y w' H4 (fun z H3 => ∃ k, z = .bl k ∧ QT k H3) else ∃ k, V.bl false = .bl k ∧ QT k H3))
    (hm : lastMarks [op, op'] [b, c] = false := by with_unfolding_all rfl) : wT X (.Compare a [op, op'] [b, c] pos) σ H QT := ⟨_, pt_chain pC pC pE pE pE hm, h⟩
theorem tNot (h : wT X a σ H fun k H1 => QT (!k) H1) : wT X (.UnaryOp .Not a pos) σ H QT := ⟨_, pt_not pT, h⟩
theorem tP (h : wP X e σ H QT) : wT X e σ H QT := ⟨_, pP.pt, h⟩
theorem tPb {op} {es : List Expr} (h : wP X (.BoolOp op es pos) σ H QT) : wT X (.BoolOp op es pos) σ H QT := tP h
theorem pAnd1 (h : wT X a σ H QT) : wP X (.BoolOp .And [a] pos) σ H QT := ⟨_, pw_and1 pT, h⟩
theorem pOr1 (h : wT X a σ H QT) : wP X (.BoolOp .Or [a] pos) σ H QT := ⟨_, pw_or1 pT, h⟩
theorem pAnd (h : wT X a σ H fun k H1 => if k = true then wP X (.BoolOp .And (b :: rest) pos) σ H1 QT else QT false H1) : wP X (.BoolOp .And (a :: b :: rest) pos) σ H QT := ⟨_, pw_and pT pP, h⟩
theorem pOr (h : wT X a σ H fun k H1 => if k = true then QT true H1 else wP X (.BoolOp .Or (b :: rest) pos) σ H1 QT) : wP X (.BoolOp .Or (a :: b :: rest) pos) σ H QT := ⟨_, pw_or pT pP, h⟩
theorem tVal (h : wE X e σ H fun x H1 => ∃ k, x = .bl k ∧ QT k H1) (he : ∀ whole, isTrue e X.env whole = (do let v ← whole; standAt e.pos; holding [v] (truthy v)) := by intro _; rfl) : wT X e σ H QT := ⟨_, pt_val pE he, h⟩
theorem tTru (h : wE X e σ H fun x H1 => ∃ k, TruV X.K x H1 k ∧ QT k H1) (he : ∀ whole, isTrue e X.env whole = (do let v ← whole; standAt e.pos; holding [v] (truthy v)) := by intro _; rfl) : wT X e σ H QT := ⟨_, pt_truth pE he, h⟩

/-! ### statements -/
variable {st : Stmt} {sts : List Stmt}
theorem sNil (h : D.nx σ H) : wSs X [] D σ H := ⟨_, pss_nil, h⟩
theorem sCons (h : wS X st { D with nx := wSs X sts D } σ H) : wSs X (st :: sts) D σ H := ⟨_, pss_cons pS pSs, h⟩
theorem sSet (i : Nat) {x : Str} (hi : X.N[i]? = some x) (h : wE X e σ H fun v H1 => D.nx (σ.set i (some v)) H1) (hN : X.N.Nodup) (hx : Loc X.env.scope x) (hs : swapsWith e (some (.Name x pos')) pos.line X.env = pure false) (hf : X.fn x = true ∨ X.env.scope.names.lookup x = some .local) :
    wS X (.Assign [.Name x pos'] e pos) D σ H := ⟨_, ps_set (i := i) hN hi hx pE hs hf, h⟩
structure wSet (X : Cx) (x : Str) (e : Expr) (pos pos' : Pos) (D : Ends) (σ : L2.St) (H : Hp) : Prop where
  ex : ∃ i : Nat, X.N[i]? = some x ∧ wE X e σ H (fun v H1 => D.nx (σ.set i (some v)) H1) ∧ X.N.Nodup ∧ Loc X.env.scope x ∧ swapsWith e (some (.Name x pos')) pos.line X.env = pure false ∧ (X.fn x = true ∨ X.env.scope.names.lookup x = some .local)
theorem sStore {x : Str} (h : wSet X x e pos pos' D σ H) : wS X (.Assign [.Name x pos'] e pos) D σ H := by
  obtain ⟨i, hi, q, hN, hx, hs, hf⟩ := h
  exact sSet i hi q hN hx hs hf
theorem stAt (i : Nat) {x : Str} (hi : X.N[i]? = some x) (h : wE X e σ H fun v H1 => D.nx (σ.set i (some v)) H1) (hN : X.N.Nodup) (hx : Loc X.env.scope x) (hs : swapsWith e (some (.Name x pos')) pos.line X.env = pure false) (hf : X.fn x = true ∨ X.env.scope.names.lookup x = some .local) : wSet X x e pos pos' D σ H := ⟨i, hi, h, hN, hx, hs, hf⟩
theorem sAsg {tg : Expr} (h : wE X e σ H fun v H1 => wG X tg v σ H1 D.nx) (hs : swapsWithSole [tg] e pos.line X.env = pure false := by rfl) (hw : swappedStores [tg] e X.env = pure none := by rfl)
    (h1 : (assignEach [tg] X.env).map (·.2) = [assign tg X.env] := by rfl) : wS X (.Assign [tg] e pos) D σ H := ⟨_, ps_asg pE pG hs hw h1, h⟩
theorem sExpr (h : wE X e σ H fun _ H1 => D.nx σ H1) (hs : swapsWith e none pos.line X.env = pure false := by rfl) : wS X (.Expr e pos) D σ H := ⟨_, ps_expr pE hs, h⟩
theorem sRet (h : wE X e σ H D.rt) : wS X (.Return (some e) pos) D σ H := ⟨_, ps_ret pE, h⟩
theorem sRetN (h : D.rt .non H) : wS X (.Return none pos) D σ H := ⟨_, ps_retN, h⟩
theorem sIf {sa sb : List Stmt} (h : wT X c σ H fun k H1 => if k = true then wSs X sa D σ H1 else wSs X sb D σ H1) : wS X (.If c sa sb pos) D σ H := ⟨_, ps_if pT pSs pSs, h⟩
theorem sAug (i : Nat) {x : Str} {op : Operator} {v : V} (hi : X.N[i]? = some x) (hv : σ[i]? = some (some v)) (h : wE X e σ H fun y H1 => wIp X op v y H1 fun z H2 => D.nx (σ.set i (some z)) H2) (hN : X.N.Nodup) (hx : Loc X.env.scope x) (hf : X.fn x = true ∨ X.env.scope.names.lookup x = some .local) :
    wS X (.AugAssign (.Name x pos') op e pos) D σ H := ⟨_, ps_aug (i := i) hN hi hx pE pIp hf, v, hv, h⟩
theorem sWhile {body : List Stmt} (h : L2.tWhile (wT X c) (wSs X body) D σ H) (hp : PassesOwn (model X.prog X.w) X.A X.env X.xe := by exact PassesOwn.never) : wS X (.While c body [] pos) D σ H := ⟨_, ps_while hp pT pSs, h⟩
theorem sFor {tg iter : Expr} {body : List Stmt} (h : L2.tFor (wI X tg iter) (wG X tg) (wSs X body) D σ H) (hp : PassesOwn (model X.prog X.w) X.A X.env X.xe := by exact PassesOwn.never) (hc : X.calm = true := by rfl)
    (hs : ∀ x, foldedSetIterable iter X.env x = pure x := by intro _; rfl) : wS X (.For tg iter body [] pos) D σ H := ⟨_, ps_for hp hc pI pG pSs hs, h⟩
theorem sBreak (h : D.bk σ H) : wS X (.Break pos) D σ H := ⟨_, ps_break, h⟩
theorem sCont (h : D.ct σ H) : wS X (.Continue pos) D σ H := ⟨_, ps_continue, h⟩
theorem sPass (h : D.nx σ H) : wS X (.Pass pos) D σ H := ⟨_, ps_pass, h⟩

/-! ### targets -/
variable {v : V} {QG : L2.St → Hp → Prop}
theorem gNm (i : Nat) {x : Str} (hi : X.N[i]? = some x) (h : QG (σ.set i (some v)) H) (hN : X.N.Nodup) (hx : Loc X.env.scope x) (hf : X.fn x = true ∨ X.env.scope.names.lookup x = some .local) : wG X (.Name x pos) v σ H QG := ⟨_, pg_name (i := i) hN hi hx hf, h⟩
theorem gSub (h : wE X o σ H fun x H1 => wE X i σ H1 fun y H2 => wPt X x y v H2 fun H3 => QG σ H3) (ha : ∀ v, assign (.Subscript o i pos) X.env v = (do
      let ov ← holding [v] (eval o X.env)
      let iv ← holding [v, ov] (eval i X.env)
      standAt pos
      holding [v, ov, iv] (setItem ov iv v)
      release [v, ov, iv] []) := by intro _; rfl) : wG X (.Subscript o i pos) v σ H QG := ⟨_, pg_sub pE pE pPt ha, h⟩
theorem gTup {k : Nat} {n : Nat} (h : ∃ a xs, v = .ref a ∧ SqT X.K H a xs ∧ xs.length = n ∧ wGs X es xs σ H QG) (hc : X.calm = true := by rfl) (hn : (assignEach es X.env).length = n := by rfl) (hst : (assignEach es X.env).findIdx? (·.1) = none := by rfl) : wG X (.Tuple es k pos) v σ H QG := ⟨_, pg_tup hc pGs hn hst, h⟩
theorem gsNil (h : QG σ H) : wGs X [] [] σ H QG := ⟨_, pgs_nil, rfl, h⟩
theorem gsCons {vs : List V} (h : wG X e v σ H fun σ' H' => wGs X es vs σ' H' QG) (hs : (assignEach (e :: es) X.env).map (·.2) = assign e X.env :: (assignEach es X.env).map (·.2) := by rfl) : wGs X (e :: es) (v :: vs) σ H QG := ⟨_, pgs_cons pG pGs hs, v, vs, rfl, h⟩

/-! ### what is walked -/
variable {R : It → Hp → Prop} {tg : Expr}
theorem iLst (h : wE X e σ H fun x H1 => ∃ a, x = .ref a ∧ (∃ xs, SqL X.K H1 a xs) ∧ R (Itl X.K a) H1) : wI X tg e σ H R := ⟨_, pi_list pE, h⟩
theorem iTpl (h : wE X e σ H fun x H1 => ∃ a, x = .ref a ∧ (∃ xs, SqT X.K H1 a xs) ∧ R (Itt X.K a) H1) : wI X tg e σ H R := ⟨_, pi_tup pE, h⟩
theorem iRng1 {p : Pos} (hm : X.mg "range" = none) (h : wA X [a] σ H fun vs H1 => ∃ j : Int, vs = [.int j] ∧ -(2 ^ 62) ≤ j ∧ j < 2 ^ 62 ∧ R (Itr 0 j.toNat) H1) (hg : Gl X "range" := by rfl) (hs : starEach [a] X.env = [(false, eval a X.env)] := by rfl) :
    wI X tg (.Call (.Name "range" p) [a] [] pos) σ H R := ⟨_, pi_range1 hg hm pA hs, h⟩

/-! ### comprehensions -/
def bE (X : Cx) (scope : Scope) (e : Expr) : TE := fun σ H' Q => ∀ (s : Shared) (H : Hp) (C : Addr) (cl : List (Str × Addr)) (fp : List Addr), wE (X.blk s H scope (compEnvC scope cl C X.env) fp) e σ H' Q
def bG (X : Cx) (scope : Scope) (e : Expr) : TG := fun v σ H' Q => ∀ (s : Shared) (H : Hp) (C : Addr) (cl : List (Str × Addr)) (fp : List Addr), wG (X.blk s H scope (compEnvC scope cl C X.env) fp) e v σ H' Q
theorem pbE {scope : Scope} {e : Expr} (s : Shared) (H : Hp) (C : Addr) (cl : List (Str × Addr)) (fp : List Addr) : PE (X.blk s H scope (compEnvC scope cl C X.env) fp) e (bE X scope e) :=
  ⟨fun pins s' σ H' Q I h => pE.run pins s' σ H' Q I (h s H C cl fp)⟩
theorem pbG {scope : Scope} {e : Expr} (s : Shared) (H : Hp) (C : Addr) (cl : List (Str × Addr)) (fp : List Addr) : PG (X.blk s H scope (compEnvC scope cl C X.env) fp) e (bG X scope e) :=
  ⟨fun pins s' σ H' v u Q I r h => pG.run pins s' σ H' v u Q I r (h s H C cl fp)⟩
theorem eLc (own : List (Str × Nat)) {elt iter : Expr} {scope : Scope} (h : L2.tLc (wI X tg iter) (bG X scope tg) tYes (bE X scope elt) (own.map (·.2)) σ H Q) (hN : X.N.Nodup) (ok : BlkOk X.N X.env.scope scope own)
    (hc : X.calm = true := by rfl) (hs : ∀ x, foldedSetIterable iter X.env x = pure x := by intro _; rfl) : wE X (.ListComp elt [⟨tg, iter, [], 0⟩] scope pos) σ H Q :=
  ⟨_, pe_lc hc hN pI ok pbG (fun _ _ _ _ _ => pts_nil) pbE hs, h⟩
theorem sSetLc (i : Nat) (own : List (Str × Nat)) {y : Str} {py spos : Pos} {elt iter : Expr} {scope : Scope} (hy : X.N[i]? = some y) (h : L2.tLc (wI X tg iter) (bG X scope tg) tYes (bE X scope elt) (own.map (·.2)) σ H (fun v H1 => D.nx (σ.set i (some v)) H1)) (hN : X.N.Nodup) (ok : BlkOk X.N X.env.scope scope own)
    (hyl : X.env.scope.names.lookup y = some .local) (hsw : swapsWith (.ListComp elt [⟨tg, iter, [], 0⟩] scope pos) (some (.Name y py)) spos.line X.env = pure true)
    (hc : X.calm = true := by rfl) (hs : ∀ x, foldedSetIterable iter X.env x = pure x := by intro _; rfl) : wS X (.Assign [.Name y py] (.ListComp elt [⟨tg, iter, [], 0⟩] scope pos) spos) D σ H :=
  ⟨_, ps_setLc (i := i) hc hN hy hyl hsw pI ok pbG (fun _ _ _ _ _ => pts_nil) pbE hs, h⟩

/-! ### by values -/
variable {x y z : V} {m n : Int} {p q : Addr} {xs ys : List V} {s t : Str}
theorem bAdd (h : Q (.int (m + n)) H) : wB X .Add (.int m) (.int n) H Q := ⟨_, op_add, m, n, rfl, rfl, h⟩
theorem bSub (h : Q (.int (m - n)) H) : wB X .Sub (.int m) (.int n) H Q := ⟨_, op_sub, m, n, rfl, rfl, h⟩
theorem bMul (hc : CMul m n) (h : Q (.int (m * n)) H) : wB X .Mult (.int m) (.int n) H Q := ⟨_, op_mul, m, n, rfl, rfl, hc, h⟩
theorem bMod (hc : 0 < n) (h : Q (.int (m % n)) H) : wB X .Mod (.int m) (.int n) H Q := ⟨_, op_mod, m, n, rfl, rfl, hc, h⟩
theorem bDiv (hc : CDiv m n) (h : Q (.int (m / n)) H) : wB X .FloorDiv (.int m) (.int n) H Q := ⟨_, op_fdiv, m, n, rfl, rfl, hc, h⟩
theorem bPow (hc : CPow m n) (h : Q (.int (m ^ n.toNat)) H) : wB X .Pow (.int m) (.int n) H Q := ⟨_, op_pow, m, n, rfl, rfl, hc, h⟩
theorem bAddS (hz : s.length + t.length ≤ sizeLine) (h : Q (.str (s ++ t)) H) : wB X .Add (.str s) (.str t) H Q := ⟨_, op_add_str, s, t, rfl, rfl, hz, h⟩
theorem bAddL (hx : H p = some (.lst xs)) (hy : H q = some (.lst ys)) (hz : xs.length + ys.length ≤ sizeLine) (h : ∀ l, H l = none → Q (.ref l) (upd H l (.lst (xs ++ ys)))) : wB X .Add (.ref p) (.ref q) H Q := ⟨_, op_cat, p, q, xs, ys, rfl, rfl, hx, hy, hz, h⟩
theorem uNeg (h : Q (.int (-m)) H) : wU X .USub (.int m) H Q := ⟨_, un_neg, m, rfl, h⟩
theorem cEq (hs : scal x y = true) (h : Q (.bl (decide (x = y))) H) : wC X .Eq x y H Q := ⟨_, op_eq, hs, h⟩
theorem cNe (hs : scal x y = true) (h : Q (.bl (!decide (x = y))) H) : wC X .NotEq x y H Q := ⟨_, op_ne, hs, h⟩
theorem cEqD (hu : X.A.units + 64 < cLine) {d e : PyData} (hd : Dp X.K H x d) (he : Dp X.K H y e) (sd : SeqAt.shaped d = true) (se : SeqAt.shaped e = true) (h : Q (.bl (PyData.eqv d e)) H) : wC X .Eq x y H Q := ⟨_, op_eqD hu, d, e, hd, he, sd, se, h⟩
theorem cNeD (hu : X.A.units + 64 < cLine) {d e : PyData} (hd : Dp X.K H x d) (he : Dp X.K H y e) (sd : SeqAt.shaped d = true) (se : SeqAt.shaped e = true) (h : Q (.bl (!PyData.eqv d e)) H) : wC X .NotEq x y H Q := ⟨_, op_neD hu, d, e, hd, he, sd, se, h⟩
theorem cLt (h : Q (.bl (decide (m < n))) H) : wC X .Lt (.int m) (.int n) H Q := ⟨_, op_lt, m, n, rfl, rfl, h⟩
theorem cLe (h : Q (.bl (decide (m ≤ n))) H) : wC X .LtE (.int m) (.int n) H Q := ⟨_, op_le, m, n, rfl, rfl, h⟩
theorem cGt (h : Q (.bl (decide (n < m))) H) : wC X .Gt (.int m) (.int n) H Q := ⟨_, op_gt, m, n, rfl, rfl, h⟩
theorem cGe (h : Q (.bl (decide (n ≤ m))) H) : wC X .GtE (.int m) (.int n) H Q := ⟨_, op_ge, m, n, rfl, rfl, h⟩
theorem xL (hl : SqL X.K H p xs) (ha : atI xs n = some v) (h : Q v H) : wX X (.ref p) (.int n) H Q := ⟨_, ix_list, p, xs, n, v, rfl, rfl, hl, ha, h⟩
theorem xT (hl : SqT X.K H p xs) (ha : atI xs n = some v) (h : Q v H) : wX X (.ref p) (.int n) H Q := ⟨_, ix_tup, p, xs, n, v, rfl, rfl, hl, ha, h⟩
theorem xS {cc : Nat} (hl : s.length ≤ sizeLine) (ha : atI s.cps.toList n = some cc) (h : Q (.str ⟨#[cc]⟩) H) : wX X (.str s) (.int n) H Q := ⟨_, ix_str, s, n, cc, rfl, rfl, hl, ha, h⟩
theorem ptL {j : Nat} {QH : Hp → Prop} (hl : H p = some (.lst xs)) (hj : ixN xs.length n = some j) (h : QH (upd H p (.lst (xs.set j v)))) : wPt X (.ref p) (.int n) v H QH := ⟨_, set_list, p, xs, n, j, rfl, rfl, hl, hj, h⟩
theorem ipAdd (h : Q (.int (m + n)) H) : wIp X .Add (.int m) (.int n) H Q := ⟨_, ip_add, m, n, rfl, rfl, h⟩
theorem fLenL (hl : SqL X.K H p xs) (h : Q (.int xs.length) H) : wF X (.builtin "len") [.ref p] H Q := ⟨_, call_len_seq, p, xs, rfl, .inl hl, h⟩
theorem fLenT (hl : SqT X.K H p xs) (h : Q (.int xs.length) H) : wF X (.builtin "len") [.ref p] H Q := ⟨_, call_len_seq, p, xs, rfl, .inr hl, h⟩
theorem fLenS (hl : s.length ≤ sizeLine) (h : Q (.int s.length) H) : wF X (.builtin "len") [.str s] H Q := ⟨_, call_len_str, s, rfl, hl, h⟩
theorem fAbs (h : Q (.int (if m < 0 then -m else m)) H) : wF X (.builtin "abs") [.int m] H Q := ⟨_, call_abs, m, rfl, h⟩
theorem fInt (h : Q (.int m) H) : wF X (.type "int") [.int m] H Q := ⟨_, call_int1, .inl ⟨m, rfl, h⟩⟩
theorem fIntB {k : Bool} (h : Q (.int (if k then 1 else 0)) H) : wF X (.type "int") [.bl k] H Q := ⟨_, call_int1, .inr ⟨k, rfl, h⟩⟩
theorem fListL (hl : SqL X.K H p xs) (h : ∀ l, H l = none → Q (.ref l) (upd H l (.lst xs))) : wF X (.type "list") [.ref p] H Q := ⟨_, call_list_of, p, xs, rfl, .inl hl, h⟩
theorem fListT (hl : SqT X.K H p xs) (h : ∀ l, H l = none → Q (.ref l) (upd H l (.lst xs))) : wF X (.type "list") [.ref p] H Q := ⟨_, call_list_of, p, xs, rfl, .inr hl, h⟩
theorem fTupL (hl : SqL X.K H p xs) (h : ∀ l, H l = none → Q (.ref l) (upd H l (.tup xs))) : wF X (.type "tuple") [.ref p] H Q := ⟨_, call_tuple_of, p, xs, rfl, .inl ⟨hl, h⟩⟩
theorem fAll {bs : List Bool} (hl : SqL X.K H p (bs.map V.bl)) (h : Q (.bl (bs.all id)) H) (hc : X.calm = true := by rfl) : wF X (.builtin "all") [.ref p] H Q := ⟨_, cr_all hc, p, bs, rfl, hl, h⟩
theorem fIsi {T : String} {ty : Value} {k : Bool} (ht : TyX X.K H x ty) (hk : PySem.W.kitOne X.K ty (.type T) = some k) (h : Q (.bl k) H) : wF X (.builtin "isinstance") [x, .ty T] H Q := ⟨_, call_isi, x, .ty T, ty, .type T, k, rfl, .ty T, ht, hk, h⟩
end
end
/-- a def by its body -/
theorem cl_mk {P : Program} {w : World} {K : PySem.W.Frag} {mg : Str → Option Value} {base : Heap} {x : Str} {st : Stmt} {f : Addr} {fd : FuncData} {N ps : List Str} {k : Nat} {sp : Sp} {sc : Scope} {body : List Stmt} (F : Fun K x x st f fd) (hm : mg x = some (.ref f)) (bd : Binds K fd ps []) (S : FnScope N ps (defScope st)) (hsc : defScope st = sc) (hb : defBody st = body) (len : ∀ vs H Q E, sp vs H Q E → vs.length = ps.length)
    (hbody : ∀ (cdv : Value) (A : Around) (outer : List Env) (s : Shared) (H : Hp) (vs : List V) (Q : VK) (E : XK), Room k (A.deeper (envOfC x sc s.heap.objs.size f cdv)) → N.Nodup → sp vs H Q E →
      wSs (cxOf CX0 P w K mg base N x sc f cdv A outer s H E).nox body { nx := fun _ H' => Q .non H', rt := Q } (start N vs) H) : Cl P w K mg base (k + 1) x sp := by
  subst hsc hb
  exact ⟨f, fd, ps, F.ok S len (fun cdv A outer s H vs Q E hr h => (hbody cdv A outer s H vs Q E hr S.nd h).ex), hm, F.kp, bd⟩
end Wk

namespace Wk
open PySem PySem.Spec PyProof.Rows L2
/-! ### built-in names, once -/
section
variable {X : Cx} {σ : L2.St} {H : Hp} {Q : VK} {e : Expr} {es : List Expr} {pos p : Pos}
theorem kLen (hm : X.mg "len" = none) (h : wA X (e :: es) σ H fun vs H1 => wF X (.builtin "len") vs H1 Q) (hg : Gl X "len" := by rfl) (he : starEach (e :: es) X.env = (false, eval e X.env) :: starEach es X.env := by rfl) (hpl : (backTo pos (starEach es X.env)).any (·.1) = false := by rfl) : wE X (.Call (.Name "len" p) (e :: es) [] pos) σ H Q := eCallB hm PySem.boot_len h hg (by decide) (by decide) he hpl
theorem boot_abs' : bootBuiltins "abs" = some (.builtin "abs") := by decide +kernel
theorem boot_int' : bootBuiltins "int" = some (.type "int") := by decide +kernel
theorem boot_list' : bootBuiltins "list" = some (.type "list") := by decide +kernel
theorem boot_tuple' : bootBuiltins "tuple" = some (.type "tuple") := by decide +kernel
theorem boot_str' : bootBuiltins "str" = some (.type "str") := by decide +kernel
theorem boot_bool' : bootBuiltins "bool" = some (.type "bool") := by decide +kernel
theorem boot_all' : bootBuiltins "all" = some (.builtin "all") := by decide +kernel
theorem boot_isi' : bootBuiltins "isinstance" = some (.builtin "isinstance") := by decide +kernel
theorem kAbs (hm : X.mg "abs" = none) (h : wA X (e :: es) σ H fun vs H1 => wF X (.builtin "abs") vs H1 Q) (hg : Gl X "abs" := by rfl) (he : starEach (e :: es) X.env = (false, eval e X.env) :: starEach es X.env := by rfl) (hpl : (backTo pos (starEach es X.env)).any (·.1) = false := by rfl) : wE X (.Call (.Name "abs" p) (e :: es) [] pos) σ H Q := eCallB hm boot_abs' h hg (by decide) (by decide) he hpl
theorem kAll (hm : X.mg "all" = none) (h : wA X (e :: es) σ H fun vs H1 => wF X (.builtin "all") vs H1 Q) (hg : Gl X "all" := by rfl) (he : starEach (e :: es) X.env = (false, eval e X.env) :: starEach es X.env := by rfl) (hpl : (backTo pos (starEach es X.env)).any (·.1) = false := by rfl) : wE X (.Call (.Name "all" p) (e :: es) [] pos) σ H Q := eCallB hm boot_all' h hg (by decide) (by decide) he hpl
theorem kIsi (hm : X.mg "isinstance" = none) (h : wA X (e :: es) σ H fun vs H1 => wF X (.builtin "isinstance") vs H1 Q) (hg : Gl X "isinstance" := by rfl) (he : starEach (e :: es) X.env = (false, eval e X.env) :: starEach es X.env := by rfl) (hpl : (backTo pos (starEach es X.env)).any (·.1) = false := by rfl) : wE X (.Call (.Name "isinstance" p) (e :: es) [] pos) σ H Q := eCallB hm boot_isi' h hg (by decide) (by decide) he hpl
theorem kInt (hm : X.mg "int" = none) (h : wA X (e :: es) σ H fun vs H1 => wF X (.type "int") vs H1 Q) (hg : Gl X "int" := by rfl) (he : starEach (e :: es) X.env = (false, eval e X.env) :: starEach es X.env := by rfl) (hpl : (backTo pos (starEach es X.env)).any (·.1) = false := by rfl) : wE X (.Call (.Name "int" p) (e :: es) [] pos) σ H Q := eCallT hm boot_int' h hg (by decide) (by decide) he hpl
theorem kList (hm : X.mg "list" = none) (h : wA X (e :: es) σ H fun vs H1 => wF X (.type "list") vs H1 Q) (hg : Gl X "list" := by rfl) (he : starEach (e :: es) X.env = (false, eval e X.env) :: starEach es X.env := by rfl) (hpl : (backTo pos (starEach es X.env)).any (·.1) = false := by rfl) : wE X (.Call (.Name "list" p) (e :: es) [] pos) σ H Q := eCallT hm boot_list' h hg (by decide) (by decide) he hpl
theorem kTuple (hm : X.mg "tuple" = none) (h : wA X (e :: es) σ H fun vs H1 => wF X (.type "tuple") vs H1 Q) (hg : Gl X "tuple" := by rfl) (he : starEach (e :: es) X.env = (false, eval e X.env) :: starEach es X.env := by rfl) (hpl : (backTo pos (starEach es X.env)).any (·.1) = false := by rfl) : wE X (.Call (.Name "tuple" p) (e :: es) [] pos) σ H Q := eCallT hm boot_tuple' h hg (by decide) (by decide) he hpl
theorem tyInt (hm : X.mg "int" = none) (h : Q (.ty "int") H) (hg : Gl X "int" := by rfl) : wE X (.Name "int" pos) σ H Q := eTy hm boot_int' h hg (by decide) (by decide)
theorem tyBool (hm : X.mg "bool" = none) (h : Q (.ty "bool") H) (hg : Gl X "bool" := by rfl) : wE X (.Name "bool" pos) σ H Q := eTy hm boot_bool' h hg (by decide) (by decide)
theorem tyStr (hm : X.mg "str" = none) (h : Q (.ty "str") H) (hg : Gl X "str" := by rfl) : wE X (.Name "str" pos) σ H Q := eTy hm boot_str' h hg (by decide) (by decide)
theorem tyTuple (hm : X.mg "tuple" = none) (h : Q (.ty "tuple") H) (hg : Gl X "tuple" := by rfl) : wE X (.Name "tuple" pos) σ H Q := eTy hm boot_tuple' h hg (by decide) (by decide)
theorem tyList (hm : X.mg "list" = none) (h : Q (.ty "list") H) (hg : Gl X "list" := by rfl) : wE X (.Name "list" pos) σ H Q := eTy hm boot_list' h hg (by decide) (by decide)
end
/-! ### weaker wishes, cuts -/
theorem sp_mono {X : Cx} {pins : List (Addr × Obj)} {D1 D2 : Ends} {f : Flow} {s : Shared} (hn : ∀ σ H, D1.nx σ H → D2.nx σ H) (hr : ∀ v H, D1.rt v H → D2.rt v H) (hb : ∀ σ H, D1.bk σ H → D2.bk σ H) (hc : ∀ σ H, D1.ct σ H → D2.ct σ H) (h : SP X pins D1 f s) : SP X pins D2 f s := by
  cases f with
  | next => obtain ⟨σ', H', I, q⟩ := h; exact ⟨σ', H', I, hn _ _ q⟩
  | brk => obtain ⟨σ', H', I, q⟩ := h; exact ⟨σ', H', I, hb _ _ q⟩
  | cont => obtain ⟨σ', H', I, q⟩ := h; exact ⟨σ', H', I, hc _ _ q⟩
  | ret u => obtain ⟨v, σ', H', I, r, q⟩ := h; exact ⟨v, σ', H', I, r, hr _ _ q⟩
theorem wS_mono {X : Cx} {st : Stmt} {D1 D2 : Ends} {σ : L2.St} {H : Hp} (h : wS X st D1 σ H) (hn : ∀ σ H, D1.nx σ H → D2.nx σ H) (hr : ∀ v H, D1.rt v H → D2.rt v H) (hb : ∀ σ H, D1.bk σ H → D2.bk σ H) (hc : ∀ σ H, D1.ct σ H → D2.ct σ H) : wS X st D2 σ H := by
  refine ⟨fun D σ H => wS X st D1 σ H ∧ (∀ σ H, D1.nx σ H → D.nx σ H) ∧ (∀ v H, D1.rt v H → D.rt v H) ∧ (∀ σ H, D1.bk σ H → D.bk σ H) ∧ (∀ σ H, D1.ct σ H → D.ct σ H), ⟨fun pins s σ H D I q => ?_⟩, h, hn, hr, hb, hc⟩
  obtain ⟨h1, hn, hr, hb, hc⟩ := q
  exact thn (pS.run pins s σ H D1 I h1) fun f s' z => sp_mono hn hr hb hc z
theorem wE_mono {X : Cx} {e : Expr} {Q1 Q2 : VK} {σ : L2.St} {H : Hp} (h : wE X e σ H Q1) (hq : ∀ v H, Q1 v H → Q2 v H) : wE X e σ H Q2 := by
  refine ⟨fun σ H Q => wE X e σ H Q1 ∧ ∀ v H, Q1 v H → Q v H, ⟨fun pins s σ H Q I q => ?_⟩, h, hq⟩
  obtain ⟨h1, hq⟩ := q
  exact thn (pE.run pins s σ H Q1 I h1) fun u s' ⟨v, H', I', r, z⟩ => ⟨v, H', I', r, hq v H' z⟩
theorem wT_mono {X : Cx} {e : Expr} {Q1 Q2 : Bool → Hp → Prop} {σ : L2.St} {H : Hp} (h : wT X e σ H Q1) (hq : ∀ v H, Q1 v H → Q2 v H) : wT X e σ H Q2 := by
  refine ⟨fun σ H Q => wT X e σ H Q1 ∧ ∀ v H, Q1 v H → Q v H, ⟨fun pins s σ H Q I q => ?_⟩, h, hq⟩
  obtain ⟨h1, hq⟩ := q
  exact thn (pT.run pins s σ H Q1 I h1) fun u s' ⟨H', I', z⟩ => ⟨H', I', hq u H' z⟩
/-- a statement by what holds behind it -/
theorem sCut {X : Cx} {st : Stmt} {sts : List Stmt} {D : Ends} {σ : L2.St} {H : Hp} (W : L2.St → Hp → Prop) (h1 : wS X st { D with nx := W } σ H) (h2 : ∀ σ' H', W σ' H' → wSs X sts D σ' H') : wSs X (st :: sts) D σ H :=
  sCons (wS_mono h1 h2 (fun _ _ z => z) (fun _ _ z => z) fun _ _ z => z)
/-! ### heaps, apart from some addresses -/
def cut (as : List Addr) (H : Hp) : Hp := fun b => if b ∈ as then none else H b
theorem cut_same (as : List Addr) (H : Hp) : Same (cut as H) H := fun b o h => by
  unfold cut at h
  split at h
  · cases h
  · exact h
theorem cut_mono {as bs : List Addr} {H H' : Hp} (hs : ∀ b ∈ as, b ∈ bs) (h : Same (cut as H) H') : Same (cut bs H) (cut as H) := fun b o e => by
  unfold cut at e ⊢
  split at e
  · cases e
  · rename_i hn
    rw [if_neg fun z => hn (hs b z)]
    exact e
theorem Same.cut {as : List Addr} {H H' : Hp} (h : Same H H') : Same (Wk.cut as H) (Wk.cut as H') := fun b o e => by
  unfold Wk.cut at e ⊢
  split at e
  · cases e
  · rename_i hn
    rw [if_neg hn]
    exact h b o e
theorem same_new {H : Hp} {p : Addr} {o : HO} (h : H p = none) : Same H (upd H p o) := fun b x e => by
  rw [upd_ne (ne_of_none e h)]
  exact e
theorem cut_upd {as : List Addr} {H : Hp} {p : Addr} {o : HO} (h : p ∈ as) : cut as (upd H p o) = cut as H := by
  funext b
  unfold cut
  split
  · rfl
  · rename_i hn
    rw [upd_ne fun z => hn (by rw [z]; exact h)]
theorem cut_get {as : List Addr} {H : Hp} {p : Addr} {o : HO} (hn : p ∉ as) (h : H p = some o) : cut as H p = some o := by
  unfold cut
  rw [if_neg hn]
  exact h
/-! ### the stream -/
structure Strm (K : PySem.W.Frag) (H : Hp) (sa la : Addr) (ns : List Int) : Prop where
  ex : ∃ (a : Int) (b : Nat) (c : Int), H sa = some (.lst [.ref la, .int a, .int (b : Int), .int c]) ∧ SqL K (cut [sa] H) la (ns.map V.int) ∧ 0 ≤ a ∧ 0 ≤ c ∧ c < 2147483647 ∧ ns.length ≤ 100
/-- from H to H' nothing but the stream has changed -/
def Ext (sa : Addr) (H H' : Hp) : Prop := Same (cut [sa] H) (cut [sa] H')
theorem Ext.refl (sa : Addr) (H : Hp) : Ext sa H H := Same.refl _
theorem Ext.trans {sa : Addr} {H H1 H2 : Hp} (a : Ext sa H H1) (b : Ext sa H1 H2) : Ext sa H H2 := Same.trans a b
theorem Ext.of {sa : Addr} {H H' : Hp} (h : Same H H') : Ext sa H H' := Same.cut h
theorem Ext.get {sa p : Addr} {H H' : Hp} {o : HO} (x : Ext sa H H') (hp : p ≠ sa) (h : H p = some o) : H' p = some o := by
  have e := x p o (cut_get (by simpa using hp) h)
  exact cut_same _ _ _ _ e
theorem Ext.new {sa p : Addr} {H H' : Hp} {o : HO} (x : Ext sa H H') (h : H p = none) : Ext sa H (upd H' p o) := fun b u e => by
  have e1 := x b u e
  have hb : b ≠ p := fun z => by
    have e2 := cut_same _ _ _ _ e
    rw [z, h] at e2
    cases e2
  unfold cut at e1 ⊢
  split at e1
  · cases e1
  · rename_i hn
    rw [if_neg hn, upd_ne hb]
    exact e1
theorem Strm.same {K : PySem.W.Frag} {H H' : Hp} {sa la : Addr} {ns : List Int} (S : Strm K H sa la ns) (h : Same H H') : Strm K H' sa la ns := by
  obtain ⟨a, b, c, e1, e2, r⟩ := S.ex
  exact ⟨a, b, c, h _ _ e1, Same.seq (Same.cut h) e2, r⟩
theorem Strm.ne {K : PySem.W.Frag} {H : Hp} {sa la p : Addr} {ns : List Int} (S : Strm K H sa la ns) (h : H p = none) : p ≠ sa := fun z => by
  obtain ⟨a, b, c, e1, _⟩ := S.ex
  rw [z, e1] at h
  cases h
/-- the stream stands as in H3, all else of H1 is kept -/
theorem Strm.of {K : PySem.W.Frag} {H1 H3 H' : Hp} {sa la : Addr} {ns : List Int} (S1 : Strm K H1 sa la ns) (x : Ext sa H1 H') (S3 : Strm K H3 sa la ns) (e : H' sa = H3 sa) : Strm K H' sa la ns := by
  obtain ⟨_, _, _, _, e2, _⟩ := S1.ex
  obtain ⟨a, b, c, e1, _, r⟩ := S3.ex
  exact ⟨a, b, c, e.trans e1, Same.seq x e2, r⟩
theorem seq_mono {K : PySem.W.Frag} {H H' : Hp} {p : Addr} {xs : List V} (h : Same H H') (s : SqL K H p xs) : SqL K H' p xs := Same.seq h s
theorem seqT_mono {K : PySem.W.Frag} {H H' : Hp} {p : Addr} {xs : List V} (e : Same H H') (h : SqT K H p xs) : SqT K H' p xs := by
  rcases h with (h | ⟨o, h⟩) | h
  · exact .inl (.inl (e _ _ h))
  · exact .inl (.inr ⟨o, e _ _ h⟩)
  · exact .inr h
mutual
theorem dp_mono {K : PySem.W.Frag} {H H' : Hp} (s : Same H H') : ∀ {d : PyData} {v : V}, Dp K H v d → Dp K H' v d
  | _, _, .non => .non
  | _, _, .bl b => .bl b
  | _, _, .int b => .int b
  | _, _, .str b => .str b
  | _, _, .lst h r => .lst (seq_mono s h) (dpAll_mono s r)
  | _, _, .tup h r => .tup (seqT_mono s h) (dpAll_mono s r)
theorem dpAll_mono {K : PySem.W.Frag} {H H' : Hp} (s : Same H H') : ∀ {d : List PyData} {v : List V}, DpAll K H v d → DpAll K H' v d
  | _, _, .nil => .nil
  | _, _, .cons h r => .cons (dp_mono s h) (dpAll_mono s r)
end
/-! ### loops -/
section
variable {X : Cx} {σ : L2.St} {H : Hp} {D : Ends} {iter tg a : Expr} {body : List Stmt} {pos p pos' : Pos}
theorem sForL (h : wE X iter σ H fun v H1 => ∃ (a : Addr) (xs : List V), v = .ref a ∧ SqL X.K H1 a xs ∧ ∃ Pv : Nat → L2.St → Hp → Prop, Pv 0 σ H1 ∧ (∀ (i : Nat) σ' H', i ≤ xs.length → Pv i σ' H' → SqL X.K H' a xs) ∧
      (∀ (i : Nat) (x : V) σ' H', xs[i]? = some x → Pv i σ' H' → wG X tg x σ' H' fun σ2 H2 => wSs X body { D with nx := Pv (i + 1), ct := Pv (i + 1), bk := D.nx } σ2 H2) ∧ ∀ σ' H', Pv xs.length σ' H' → D.nx σ' H')
    (hp : PassesOwn (model X.prog X.w) X.A X.env X.xe := by exact PassesOwn.never) (hc : X.calm = true := by rfl) (hs : ∀ x, foldedSetIterable iter X.env x = pure x := by intro _; rfl) : wS X (.For tg iter body [] pos) D σ H := by
  refine sFor (iLst (wE_mono h ?_)) hp hc hs
  rintro v H1 ⟨a, xs, rfl, hq, Pv, p0, pl, ps, pd⟩
  exact ⟨a, rfl, ⟨xs, hq⟩, for_list Pv p0 pl ps pd⟩
theorem sForR (hm : X.mg "range" = none) (h : wA X [a] σ H fun vs H1 => ∃ n : Int, vs = [.int n] ∧ 0 ≤ n ∧ n ≤ 100000 ∧ ∃ Pv : Nat → L2.St → Hp → Prop, Pv 0 σ H1 ∧
      (∀ (i : Nat) σ' H', (i : Int) < n → Pv i σ' H' → wG X tg (.int (i : Int)) σ' H' fun σ2 H2 => wSs X body { D with nx := Pv (i + 1), ct := Pv (i + 1), bk := D.nx } σ2 H2) ∧ ∀ σ' H', Pv n.toNat σ' H' → D.nx σ' H')
    (hp : PassesOwn (model X.prog X.w) X.A X.env X.xe := by exact PassesOwn.never) (hc : X.calm = true := by rfl) (hg : Gl X "range" := by rfl) (hst : starEach [a] X.env = [(false, eval a X.env)] := by rfl)
    (hs : ∀ x, foldedSetIterable (.Call (.Name "range" p) [a] [] pos') X.env x = pure x := by intro _; rfl) : wS X (.For tg (.Call (.Name "range" p) [a] [] pos') body [] pos) D σ H := by
  refine sFor (iRng1 hm ?_ hg hst) hp hc hs
  obtain ⟨t, pt, q⟩ := h
  refine ⟨fun σ H Q' => ∃ Q0, t σ H Q0 ∧ ∀ vs H, Q0 vs H → Q' vs H, ⟨fun pos pins s σ H Q' I q' => ?_⟩, _, q, ?_⟩
  · obtain ⟨Q0, q0, m⟩ := q'
    exact thn (pt.run pos pins s σ H Q0 I q0) fun us s' ⟨vs, H', I', r, z⟩ => ⟨vs, H', I', r, m vs H' z⟩
  · rintro vs H1 ⟨n, rfl, n0, n1, Pv, p0, ps, pd⟩
    refine ⟨n, rfl, by omega, by omega, for_range (lo := 0) (n := n.toNat) Pv p0 (fun i σ' H' hi q => ?_) pd⟩
    have e0 : (0 : Int) + (i : Int) = (i : Int) := by omega
    rw [e0]
    exact ps i σ' H' (by omega) q
end
/-! ### comprehensions with a plain name -/
section
variable {X : Cx} {σ : L2.St} {H : Hp} {Q : VK} {scope : Scope} {elt iter : Expr} {pos pos' p : Pos} {x : Str} {a : Expr}
theorem bgName (j : Nat) {v : V} {QG : L2.St → Hp → Prop} (hi : X.N[j]? = some x) (hN : X.N.Nodup) (hx : ∀ (cl : List (Str × Addr)) (C : Addr), (compEnvC scope cl C X.env).scope.names.lookup x = some .local) (h : QG (σ.set j (some v)) H) : bG X scope (.Name x pos) v σ H QG := fun s H0 C cl fp => gNm j hi h hN (.inl (hx cl C)) (.inr (hx cl C))
theorem wipe1 (σ : L2.St) (j : Nat) (u : V) : wipe ((wipe σ [j]).set j (some u)) [j] = wipe σ [j] := by
  show (((σ.set j none).set j (some u)).set j none) = σ.set j none
  rw [List.set_set, List.set_set]
theorem lt_line {n : Nat} (h : n < 100000) : n < sizeLine := Nat.lt_of_lt_of_le h (by rw [PySem.sizeLine_eq]; decide)
theorem le_line {n : Nat} (h : n ≤ 100000) : n ≤ sizeLine := Nat.le_trans h (by rw [PySem.sizeLine_eq]; decide)
/-- what a turn of a pure comprehension asks -/
theorem pure_turn {te : TE} {D : Addr} {H H2 : Hp} {gs : List V} {i : Nat} {y : V} {σ2 : L2.St} (hD : H D = none) (hz : gs.length ≤ 1000) (hy : gs[i]? = some y) (s : Same H H2) (hd : H2 D = some (.lst (gs.take i)))
    (h : ∀ Q : VK, (∀ H3, Same H2 H3 → Q y H3) → te σ2 H2 Q) :
    te σ2 H2 fun z H3 => ∃ acc, H3 D = some (.lst acc) ∧ acc.length < sizeLine ∧ (Same H (upd H3 D (.lst (acc ++ [z]))) ∧ upd H3 D (.lst (acc ++ [z])) D = some (.lst (gs.take (i + 1)))) := by
  refine h _ fun H3 s3 => ⟨gs.take i, s3 _ _ hd, lt_line (by rw [List.length_take]; omega), fun b o e => ?_, ?_⟩
  · rw [upd_ne (ne_of_none e hD)]
    exact s3 _ _ (s _ _ e)
  · rw [upd_same, List.take_add_one, hy]
    rfl
theorem eLcT (j : Nat) (h : wE X iter σ H fun v H1 => ∃ (a : Addr) (xs gs : List V), v = .ref a ∧ SqT X.K H1 a xs ∧ gs.length = xs.length ∧ xs.length ≤ 1000 ∧
      (∀ (i : Nat) (u y : V) (H2 : Hp), xs[i]? = some u → gs[i]? = some y → Same H1 H2 → ∀ Q : VK, (∀ H3, Same H2 H3 → Q y H3) → bE X scope elt ((wipe σ [j]).set j (some u)) H2 Q) ∧
      (∀ D H2, H1 D = none → Same H1 H2 → H2 D = some (.lst gs) → Q (.ref D) H2))
    (hi : X.N[j]? = some x) (hN : X.N.Nodup) (hx : ∀ (cl : List (Str × Addr)) (C : Addr), (compEnvC scope cl C X.env).scope.names.lookup x = some .local) (ok : BlkOk X.N X.env.scope scope [(x, j)]) (hc : X.calm = true := by rfl) (hs : ∀ z, foldedSetIterable iter X.env z = pure z := by intro _; rfl) :
    wE X (.ListComp elt [⟨.Name x pos', iter, [], 0⟩] scope pos) σ H Q := by
  refine eLc [(x, j)] ?_ hN ok hc hs
  refine iTpl (wE_mono h ?_)
  rintro v H1 ⟨a, xs, gs, rfl, hq, hl, hz, hturn, hend⟩
  refine ⟨a, rfl, ⟨xs, hq⟩, fun D hD => ?_⟩
  refine lc_tup (xs := xs) (fun i H2 => Same H1 H2 ∧ H2 D = some (.lst (gs.take i))) ⟨same_new hD, by rw [upd_same]; rfl⟩ (fun i H2 _ q => seqT_mono q.1 hq) (fun i u H2 hu q => ?_) (fun H2 q => hend D H2 hD q.1 (by rw [q.2, ← hl, List.take_length]))
  refine bgName j hi hN hx ⟨wipe1 σ j u, ?_⟩
  (unfold tYes; simp only [↓reduceIte])
  have hlt : i < gs.length := by rw [hl]; exact (List.getElem?_eq_some_iff.mp hu).1
  exact pure_turn hD (by omega) (List.getElem?_eq_getElem hlt) q.1 q.2 (hturn i u gs[i] H2 hu (List.getElem?_eq_getElem hlt) q.1)
/-- over a text -/
theorem iTxt {tg : Expr} {R : It → Hp → Prop} (h : wE X iter σ H fun v H1 => ∃ z, v = .str z ∧ R (Its z) H1) : wI X tg iter σ H R := ⟨_, pi_str pE, h⟩
theorem eLcS (j : Nat) (h : wE X iter σ H fun v H1 => ∃ (z : Str) (gs : List V), v = .str z ∧ gs.length = z.cps.size ∧ gs.length ≤ 1000 ∧
      (∀ (i c : Nat) (y : V) (H2 : Hp), z.cps[i]? = some c → gs[i]? = some y → Same H1 H2 → ∀ Q : VK, (∀ H3, Same H2 H3 → Q y H3) → bE X scope elt ((wipe σ [j]).set j (some (.str ⟨#[c]⟩))) H2 Q) ∧
      (∀ D H2, H1 D = none → Same H1 H2 → H2 D = some (.lst gs) → Q (.ref D) H2))
    (hi : X.N[j]? = some x) (hN : X.N.Nodup) (hx : ∀ (cl : List (Str × Addr)) (C : Addr), (compEnvC scope cl C X.env).scope.names.lookup x = some .local) (ok : BlkOk X.N X.env.scope scope [(x, j)]) (hc : X.calm = true := by rfl) (hs : ∀ z, foldedSetIterable iter X.env z = pure z := by intro _; rfl) :
    wE X (.ListComp elt [⟨.Name x pos', iter, [], 0⟩] scope pos) σ H Q := by
  refine eLc [(x, j)] ?_ hN ok hc hs
  refine iTxt (wE_mono h ?_)
  rintro v H1 ⟨z, gs, rfl, hl, hz, hturn, hend⟩
  refine ⟨z, rfl, fun D hD => ?_⟩
  refine ⟨fun i m H2 => m = z.cps.size - i ∧ i ≤ z.cps.size ∧ Same H1 H2 ∧ H2 D = some (.lst (gs.take i)), ⟨z.cps.size, by omega, by omega, same_new hD, by rw [upd_same]; rfl⟩, ?_⟩
  rintro i m H2 ⟨rfl, hi2, q1, q2⟩
  by_cases hlt : i < z.cps.size
  · refine .inr ⟨hlt, fun H3 => Same H1 H3 ∧ H3 D = some (.lst (gs.take (i + 1))), fun H3 q => ⟨z.cps.size - (i + 1), by omega, rfl, hlt, q.1, q.2⟩, ?_⟩
    rintro v H' ⟨rfl, c, hc2, rfl⟩
    refine bgName j hi hN hx ⟨wipe1 σ j _, ?_⟩
    (unfold tYes; simp only [↓reduceIte])
    have hlt' : i < gs.length := by omega
    exact pure_turn hD hz (List.getElem?_eq_getElem hlt') q1 q2 (hturn i c gs[i] H' hc2 (List.getElem?_eq_getElem hlt') q1)
  · have e : i = z.cps.size := by omega
    subst e
    exact .inl ⟨Nat.le_refl _, hend D H2 hD q1 (by rw [q2, ← hl, List.take_length])⟩
/-- over range(n), any invariant -/
theorem eLcR (j : Nat) (hm : X.mg "range" = none) (h : wA X [a] σ H fun vs H1 => ∃ n : Int, vs = [.int n] ∧ 0 ≤ n ∧ n ≤ 1000 ∧ ∀ D, H1 D = none → ∃ Pv : Nat → Hp → Prop, Pv 0 (upd H1 D (.lst [])) ∧
      (∀ (i : Nat) (H2 : Hp), (i : Int) < n → Pv i H2 → bE X scope elt ((wipe σ [j]).set j (some (.int (i : Int)))) H2 fun y H3 => ∃ acc, H3 D = some (.lst acc) ∧ acc.length < sizeLine ∧ Pv (i + 1) (upd H3 D (.lst (acc ++ [y])))) ∧ ∀ H2, Pv n.toNat H2 → Q (.ref D) H2)
    (hi : X.N[j]? = some x) (hN : X.N.Nodup) (hx : ∀ (cl : List (Str × Addr)) (C : Addr), (compEnvC scope cl C X.env).scope.names.lookup x = some .local) (ok : BlkOk X.N X.env.scope scope [(x, j)]) (hg : Gl X "range" := by rfl) (hc : X.calm = true := by rfl) (hst : starEach [a] X.env = [(false, eval a X.env)] := by rfl) (hs : ∀ z, foldedSetIterable (.Call (.Name "range" p) [a] [] pos') X.env z = pure z := by intro _; rfl) {pos2 : Pos} :
    wE X (.ListComp elt [⟨.Name x pos2, .Call (.Name "range" p) [a] [] pos', [], 0⟩] scope pos) σ H Q := by
  refine eLc [(x, j)] ?_ hN ok hc hs
  refine iRng1 hm ?_ hg hst
  obtain ⟨t, pt, q⟩ := h
  refine ⟨fun σ H Q' => ∃ Q0, t σ H Q0 ∧ ∀ vs H, Q0 vs H → Q' vs H, ⟨fun pos pins s σ H Q' I q' => ?_⟩, _, q, ?_⟩
  · obtain ⟨Q0, q0, m⟩ := q'
    exact thn (pt.run pos pins s σ H Q0 I q0) fun us s' ⟨vs, H', I', r, z⟩ => ⟨vs, H', I', r, m vs H' z⟩
  · rintro vs H1 ⟨n, rfl, n0, n1, hD⟩
    refine ⟨n, rfl, by omega, by omega, fun D hn => ?_⟩
    obtain ⟨Pv, p0, ps, pe⟩ := hD D hn
    refine lc_range (lo := 0) (n := n.toNat) Pv p0 (fun i H2 hi2 q => ?_) pe
    have e0 : (0 : Int) + (i : Int) = (i : Int) := by omega
    rw [e0]
    refine bgName j hi hN hx ⟨wipe1 σ j _, ?_⟩
    (unfold tYes; simp only [↓reduceIte])
    exact ps i H2 (by omega) q
/-- y = [.. for x in range(n)] -/
theorem sSetLcR (k j : Nat) {y : Str} {py pos2 spos : Pos} {D : Ends} (hm : X.mg "range" = none) (h : wA X [a] σ H fun vs H1 => ∃ n : Int, vs = [.int n] ∧ 0 ≤ n ∧ n ≤ 1000 ∧ ∀ L, H1 L = none → ∃ Pv : Nat → Hp → Prop, Pv 0 (upd H1 L (.lst [])) ∧
      (∀ (i : Nat) (H2 : Hp), (i : Int) < n → Pv i H2 → bE X scope elt ((wipe σ [j]).set j (some (.int (i : Int)))) H2 fun y H3 => ∃ acc, H3 L = some (.lst acc) ∧ acc.length < sizeLine ∧ Pv (i + 1) (upd H3 L (.lst (acc ++ [y])))) ∧ ∀ H2, Pv n.toNat H2 → D.nx (σ.set k (some (.ref L))) H2)
    (hy : X.N[k]? = some y) (hi : X.N[j]? = some x) (hN : X.N.Nodup) (hx : ∀ (cl : List (Str × Addr)) (C : Addr), (compEnvC scope cl C X.env).scope.names.lookup x = some .local) (ok : BlkOk X.N X.env.scope scope [(x, j)])
    (hyl : X.env.scope.names.lookup y = some .local) (hsw : swapsWith (.ListComp elt [⟨.Name x pos2, .Call (.Name "range" p) [a] [] pos', [], 0⟩] scope pos) (some (.Name y py)) spos.line X.env = pure true)
    (hg : Gl X "range" := by rfl) (hc : X.calm = true := by rfl) (hst : starEach [a] X.env = [(false, eval a X.env)] := by rfl) (hs : ∀ z, foldedSetIterable (.Call (.Name "range" p) [a] [] pos') X.env z = pure z := by intro _; rfl) :
    wS X (.Assign [.Name y py] (.ListComp elt [⟨.Name x pos2, .Call (.Name "range" p) [a] [] pos', [], 0⟩] scope pos) spos) D σ H := by
  refine sSetLc k [(x, j)] hy ?_ hN ok hyl hsw hc hs
  refine iRng1 hm ?_ hg hst
  obtain ⟨t, pt, q⟩ := h
  refine ⟨fun σ H Q' => ∃ Q0, t σ H Q0 ∧ ∀ vs H, Q0 vs H → Q' vs H, ⟨fun pos pins s σ H Q' I q' => ?_⟩, _, q, ?_⟩
  · obtain ⟨Q0, q0, m⟩ := q'
    exact thn (pt.run pos pins s σ H Q0 I q0) fun us s' ⟨vs, H', I', r, z⟩ => ⟨vs, H', I', r, m vs H' z⟩
  · rintro vs H1 ⟨n, rfl, n0, n1, hD⟩
    refine ⟨n, rfl, by omega, by omega, fun L hn => ?_⟩
    obtain ⟨Pv, p0, ps, pe⟩ := hD L hn
    refine lc_range (lo := 0) (n := n.toNat) Pv p0 (fun i H2 hi2 q => ?_) pe
    have e0 : (0 : Int) + (i : Int) = (i : Int) := by omega
    rw [e0]
    refine bgName j hi hN hx ⟨wipe1 σ j _, ?_⟩
    (unfold tYes; simp only [↓reduceIte])
    exact ps i H2 (by omega) q
end
theorem ptL' {X : Cx} {H : Hp} {p : Addr} {n : Int} {v : V} {xs : List V} {j : Nat} {QH : Hp → Prop} (hl : H p = some (.lst xs)) (hj : ixN xs.length n = some j) (h : ∀ H', H' p = some (.lst (xs.set j v)) → cut [p] H' = cut [p] H → QH H') : wPt X (.ref p) (.int n) v H QH :=
  ptL hl hj (h _ upd_same (cut_upd (by simp)))
section
variable {X : Cx} {H : Hp} {Q : VK} {z : Str}
theorem mIsascii (h : Q (.bl (Txt.isascii z)) H) : wM X "str.isascii" (.str z) [] H Q := ⟨_, mt_isascii, z, rfl, rfl, trivial, h⟩
theorem mIsalnum (h : Q (.bl (Txt.isalnum z)) H) : wM X "str.isalnum" (.str z) [] H Q := ⟨_, mt_isalnum, z, rfl, rfl, trivial, h⟩
theorem mIsalpha (h : Q (.bl (Txt.isalpha z)) H) : wM X "str.isalpha" (.str z) [] H Q := ⟨_, mt_isalpha, z, rfl, rfl, trivial, h⟩
theorem mIslower (h : Q (.bl (Txt.islower z)) H) : wM X "str.islower" (.str z) [] H Q := ⟨_, mt_islower, z, rfl, rfl, trivial, h⟩
variable {σ : L2.St} {o : Expr} {apos pos : Pos}
theorem kIsascii (h : wE X o σ H fun x H1 => tyV X.K "str" x H1 ∧ wM X "str.isascii" x [] H1 Q) (hbase : attributeBase o "isascii" X.env (eval o X.env) = eval o X.env := by rfl) (hline : (apos.endLine == pos.line) = true := by rfl) : wE X (.Call (.Attribute o "isascii" apos) [] [] pos) σ H Q := eM0 PySem.F.plainAttrs_str PySem.F.slot_str_isascii PySem.F.type_str_isascii h hbase hline
theorem kIsalnum (h : wE X o σ H fun x H1 => tyV X.K "str" x H1 ∧ wM X "str.isalnum" x [] H1 Q) (hbase : attributeBase o "isalnum" X.env (eval o X.env) = eval o X.env := by rfl) (hline : (apos.endLine == pos.line) = true := by rfl) : wE X (.Call (.Attribute o "isalnum" apos) [] [] pos) σ H Q := eM0 PySem.F.plainAttrs_str PySem.F.slot_str_isalnum PySem.F.type_str_isalnum h hbase hline
theorem kIsalpha (h : wE X o σ H fun x H1 => tyV X.K "str" x H1 ∧ wM X "str.isalpha" x [] H1 Q) (hbase : attributeBase o "isalpha" X.env (eval o X.env) = eval o X.env := by rfl) (hline : (apos.endLine == pos.line) = true := by rfl) : wE X (.Call (.Attribute o "isalpha" apos) [] [] pos) σ H Q := eM0 PySem.F.plainAttrs_str PySem.F.slot_str_isalpha PySem.F.type_str_isalpha h hbase hline
theorem kIslower (h : wE X o σ H fun x H1 => tyV X.K "str" x H1 ∧ wM X "str.islower" x [] H1 Q) (hbase : attributeBase o "islower" X.env (eval o X.env) = eval o X.env := by rfl) (hline : (apos.endLine == pos.line) = true := by rfl) : wE X (.Call (.Attribute o "islower" apos) [] [] pos) σ H Q := eM0 PySem.F.plainAttrs_str PySem.F.slot_str_islower PySem.F.type_str_islower h hbase hline
end
/-! ### data and isinstance -/
def tyOf : PyData → String
  | .none => "NoneType" | .bool _ => "bool" | .int _ => "int" | .str _ => "str" | .list _ => "list" | .tuple _ => "tuple" | .dict _ => "dict"
theorem dp_ty {K : PySem.W.Frag} {H : Hp} {v : V} {d : PyData} (h : Dp K H v d) : TyX K H v (.type (tyOf d)) := by
  cases h with
  | non => exact .base .non
  | bl b => exact .base (.bl b)
  | int i => exact .base (.int i)
  | str x => exact .base (.str x)
  | lst h r =>
    rcases h with (h | ⟨o, h⟩) | ⟨o, its, n, h1, h2, _⟩
    · exact .base (.lst h)
    · exact .base (.frz h)
    · exact .kList h1 h2
  | tup h r =>
    rcases h with (h | ⟨o, h⟩) | ⟨o, its, n, h1, h2, _⟩
    · exact .base (.tup h)
    · exact .fTuple h
    · exact .kTuple h1 h2
def isInt : PyData → Bool | .int _ => true | .bool _ => true | _ => false
def isBool : PyData → Bool | .bool _ => true | _ => false
def isStr : PyData → Bool | .str _ => true | _ => false
def isTup : PyData → Bool | .tuple _ => true | _ => false
theorem kit_int (d : PyData) : kitB (tyOf d) "int" = some (isInt d) := by cases d <;> first | rfl | decide +kernel
theorem kit_bool (d : PyData) : kitB (tyOf d) "bool" = some (isBool d) := by cases d <;> first | rfl | decide +kernel
theorem kit_str (d : PyData) : kitB (tyOf d) "str" = some (isStr d) := by cases d <;> first | rfl | decide +kernel
theorem kit_tup (d : PyData) : kitB (tyOf d) "tuple" = some (isTup d) := by cases d <;> first | rfl | decide +kernel
section
variable {X : Cx} {H : Hp} {Q : VK} {v : V} {d : PyData}
theorem fIsInt (hd : Dp X.K H v d) (h : Q (.bl (isInt d)) H) : wF X (.builtin "isinstance") [v, .ty "int"] H Q := fIsi (dp_ty hd) (kit_ty (kit_int d)) h
theorem fIsBool (hd : Dp X.K H v d) (h : Q (.bl (isBool d)) H) : wF X (.builtin "isinstance") [v, .ty "bool"] H Q := fIsi (dp_ty hd) (kit_ty (kit_bool d)) h
theorem fIsStr (hd : Dp X.K H v d) (h : Q (.bl (isStr d)) H) : wF X (.builtin "isinstance") [v, .ty "str"] H Q := fIsi (dp_ty hd) (kit_ty (kit_str d)) h
theorem fIsTup (hd : Dp X.K H v d) (h : Q (.bl (isTup d)) H) : wF X (.builtin "isinstance") [v, .ty "tuple"] H Q := fIsi (dp_ty hd) (kit_ty (kit_tup d)) h
end
theorem ite2' {c : Prop} [Decidable c] {A B : Prop} (h1 : c → A) (h2 : ¬ c → B) : if decide c = true then A else B := by
  by_cases h : c
  · rw [if_pos (decide_eq_true h)]
    exact h1 h
  · rw [if_neg (by rw [decide_eq_false h]; exact Bool.false_ne_true)]
    exact h2 h
end Wk

namespace Wk
open PySem PySem.Spec PyProof.Rows L2
/-! ### new objects, the heap behind them by what is known of it -/
section
variable {X : Cx} {σ : L2.St} {H : Hp} {Q : VK} {es : List Expr} {pos : Pos} {p q : Addr} {xs ys : List V} {k : Int}
theorem wA_mono {Q1 Q2 : List V → Hp → Prop} (h : wA X es σ H Q1) (m : ∀ vs H, Q1 vs H → Q2 vs H) : wA X es σ H Q2 := by
  obtain ⟨t, pt, q⟩ := h
  refine ⟨fun σ H Q' => ∃ Q0, t σ H Q0 ∧ ∀ vs H, Q0 vs H → Q' vs H, ⟨fun pos pins s σ H Q' I q' => ?_⟩, _, q, m⟩
  obtain ⟨Q0, q0, m⟩ := q'
  exact thn (pt.run pos pins s σ H Q0 I q0) fun us s' ⟨vs, H', I', r, z⟩ => ⟨vs, H', I', r, m vs H' z⟩
theorem eTupN {x1} (h : wA X es σ H fun xs H1 => xs.length ≤ 100000 ∧ ∀ p H', H1 p = none → Same H1 H' → H' p = some (.tup xs) → Q (.ref p) H') : wE X (.Tuple es x1 pos) σ H Q :=
  eTup (wA_mono h fun _ _ z => ⟨le_line z.1, fun p hp => z.2 p _ hp (same_new hp) upd_same⟩)
theorem eLstN (h : wA X es σ H fun xs H1 => xs.length ≤ 100000 ∧ ∀ p H', H1 p = none → Same H1 H' → H' p = some (.lst xs) → Q (.ref p) H') : wE X (.List es pos) σ H Q :=
  eLst (wA_mono h fun _ _ z => ⟨le_line z.1, fun p hp => z.2 p _ hp (same_new hp) upd_same⟩)
theorem bRepT (hs : SqT X.K H p xs) (hne : xs ≠ []) (h2 : 2 ≤ k) (h1 : k ≤ 1000) (hz : xs.length ≤ 1000) (h : ∀ l H', H l = none → Same H H' → H' l = some (.tup (List.replicate k.toNat xs).flatten) → Q (.ref l) H') : wB X .Mult (.ref p) (.int k) H Q := ⟨_, op_repT, p, k, xs, rfl, rfl, hs, hne, h2, h1, hz, fun l hl => h l _ hl (same_new hl) upd_same⟩
theorem bAddLN (hx : H p = some (.lst xs)) (hy : H q = some (.lst ys)) (hz : xs.length + ys.length ≤ 100000) (h : ∀ l H', H l = none → Same H H' → H' l = some (.lst (xs ++ ys)) → Q (.ref l) H') : wB X .Add (.ref p) (.ref q) H Q := bAddL hx hy (le_line hz) fun l hl => h l _ hl (same_new hl) upd_same
theorem fListTN (hl : SqT X.K H p xs) (h : ∀ l H', H l = none → Same H H' → H' l = some (.lst xs) → Q (.ref l) H') : wF X (.type "list") [.ref p] H Q := fListT hl fun l hl => h l _ hl (same_new hl) upd_same
theorem fTupLN (hl : SqL X.K H p xs) (h : ∀ l H', H l = none → Same H H' → H' l = some (.tup xs) → Q (.ref l) H') : wF X (.type "tuple") [.ref p] H Q := fTupL hl fun l hl => h l _ hl (same_new hl) upd_same
theorem seqT_cut {K : PySem.W.Frag} {H : Hp} {as : List Addr} {p : Addr} {xs : List V} (h : SqT K (cut as H) p xs) : SqT K H p xs := seqT_mono (cut_same _ _) h
/-- a slice of a tuple, a sum of two, apart from some addresses -/
theorem lT {as : List Addr} {lo hi : Option Int} (hn : ∀ p, H p = none → p ∉ as) (hs : SqT X.K (cut as H) p xs) (h : ∀ p' H', Same H H' → SqT X.K (cut as H') p' (cutV xs lo hi) → Q (.ref p') H') : wL X (.ref p) lo hi H Q := by
  refine ⟨_, sl_tupA, p, xs, rfl, seqT_cut hs, fun hw => h p H (Same.refl _) ?_, fun _ l hl => h l _ (same_new hl) (SqT.of (cut_get (hn l hl) upd_same))⟩
  have e : cutV xs lo hi = xs := by
    unfold cutV
    rw [hw.1, hw.2]
    simp
  rw [e]
  exact hs
theorem bCatT {as : List Addr} (hn : ∀ p, H p = none → p ∉ as) (ha : SqT X.K (cut as H) p xs) (hb : SqT X.K (cut as H) q ys) (hz : xs.length + ys.length ≤ 100000) (h : ∀ p' H', Same H H' → SqT X.K (cut as H') p' (xs ++ ys) → Q (.ref p') H') : wB X .Add (.ref p) (.ref q) H Q := by
  refine ⟨_, op_catA, p, q, xs, ys, rfl, rfl, seqT_cut ha, seqT_cut hb, le_line hz, fun e => ?_, fun _ e => ?_, fun _ _ l hl => h l _ (same_new hl) (SqT.of (cut_get (hn l hl) upd_same))⟩
  · subst e
    exact h q H (Same.refl _) hb
  · subst e
    exact h p H (Same.refl _) (by rw [List.append_nil]; exact ha)
theorem cNotB {a b : Bool} (h : Q (.bl (!decide (a = b))) H) : wC X .IsNot (.bl a) (.bl b) H Q := ⟨_, op_notBl, a, b, rfl, rfl, h⟩
theorem cIsB {a b : Bool} (h : Q (.bl (decide (a = b))) H) : wC X .Is (.bl a) (.bl b) H Q := ⟨_, op_isBl, a, b, rfl, rfl, h⟩
end
/-- a def by its body, its own promise -/
theorem fn_mk {P : Program} {w : World} {K : PySem.W.Frag} {mg : Str → Option Value} {base : Heap} {x : Str} {st : Stmt} {f : Addr} {fd : FuncData} {N ps : List Str} {k : Nat} {sp : Sp} {sc : Scope} {body : List Stmt} (F : Fun K x x st f fd) (S : FnScope N ps (defScope st)) (hsc : defScope st = sc) (hb : defBody st = body) (len : ∀ vs H Q E, sp vs H Q E → vs.length = ps.length)
    (hbody : ∀ (cdv : Value) (A : Around) (outer : List Env) (s : Shared) (H : Hp) (vs : List V) (Q : VK) (E : XK), Room k (A.deeper (envOfC x sc s.heap.objs.size f cdv)) → N.Nodup → sp vs H Q E →
      wSs (cxOf CX0 P w K mg base N x sc f cdv A outer s H E).nox body { nx := fun _ H' => Q .non H', rt := Q } (start N vs) H) : FnOk P w K mg base CX0 (k + 1) f fd ps sp := by
  subst hsc hb
  exact F.ok S len fun cdv A outer s H vs Q E hr h => (hbody cdv A outer s H vs Q E hr S.nd h).ex
end Wk

/-! zip of two tuples, walked by a plain name: the pair stays out, so each turn makes a new one (or finds the old one gone) -/
namespace Wk
open PySem PySem.Spec PyProof.Rows L2
section
variable {prog : Program} {w : World} {A : Around} {E : Value → Shared → Prop} {s : Shared}
/-- the record of a zip: the pair that is out (or none), whether that is known -/
abbrev ZR (g : Heap) (z TI TO : Addr) (q : Value) (f : Bool) : Prop := g.get? z = some { cls := .type "zip", dict := none, data := .fields #[q, .bool f, .bool false, .ref TI, .ref TO], slots := #[] }
def Out (q : Value) : Prop := q = .none ∨ ∃ T : Addr, q = rawInt T
theorem alive_any {T : Addr} {Q : Option Obj → Shared → Prop} (h : Q (s.heap.get? T) s) : wpAny (model prog w) A (loadIfAlive T) Q E s := fun _ _ _ => h
theorem own_ask {z TI TO : Addr} {q : Value} {f : Bool} {Q : Bool → Shared → Prop} (hZ : ZR s.heap z TI TO q f) (hq : Out q) (yes : Q true s)
    (no : ∀ g, ZR g z TI TO q true → Heap.SameBut z s.heap g → Q false { s with heap := g }) : wpAny (model prog w) A (Builtin.SmallTypes.ownedTupleIsFree (.ref z)) Q E s := by
  unfold Builtin.SmallTypes.ownedTupleIsFree
  rcases hq with rfl | ⟨T, rfl⟩
  · exact wpAny_bind (wpAny_field hZ rfl (x := .none) rfl (wpAny_pure yes))
  · apply wpAny_bind
    refine wpAny_field hZ rfl (x := rawInt T) rfl ?_
    show wpAny (model prog w) A (loadIfAlive (Int.toNat ((T : Nat) : Int)) >>= _) Q E s
    rw [Int.toNat_natCast]
    refine wpAny_bind (alive_any ?_)
    cases s.heap.get? T with
    | none => exact wpAny_pure yes
    | some o =>
      simp only [Option.isNone_some, Bool.false_eq_true, if_false]
      apply wpAny_bind
      refine wpAny_field hZ rfl (x := .bool f) rfl ?_
      cases f with
      | true => exact wpAny_pure (no s.heap hZ (Heap.SameBut.refl _ _))
      | false =>
        show wpAny (model prog w) A (do setField (.ref z) 1 (.bool true); pure false) Q E s
        exact wpAny_bind (wpAny_setField_rec hZ (by simp) fun g hg hs => wpAny_pure (no g hg hs))
theorem zn_item {z TI TO i1 i2 l1 l2 : Addr} {k1 k2 : Nat} {xs ys : Array Value} {x y a b q : Value} {f : Bool} {Q : Value → Shared → Prop} (D : ZipApart z TI TO i1 i2 l1 l2)
    (hZ : ZR s.heap z TI TO q f) (hq : Out q) (hI : IsPair s.heap TI (.ref i1) (.ref i2)) (hO : IsPair s.heap TO a b)
    (J1 : s.heap.IsTupleIter i1 l1 k1) (J2 : s.heap.IsTupleIter i2 l2 k2) (M1 : s.heap.IsTuple l1 xs) (M2 : s.heap.IsTuple l2 ys) (ex : xs[k1]? = some x) (ey : ys[k2]? = some y)
    (hQ : ∀ g, (∃ q' f', ZR g z TI TO q' f' ∧ Out q') → (∃ a' b', IsPair g TO a' b') → g.IsTupleIter i1 l1 (k1 + 1) → g.IsTupleIter i2 l2 (k2 + 1) → IsPair g s.heap.objs.size x y → g.objs.size = s.heap.objs.size + 1 →
      (∀ c o, c ≠ z → c ≠ TO → c ≠ i1 → c ≠ i2 → s.heap.get? c = some o → g.get? c = some o) → Q (.ref s.heap.objs.size) { s with heap := g }) :
    wpAny (model prog w) A (Builtin.«zip.__next__» ⟨[.ref z], []⟩) (fun fin s' => ∃ v, fin = .done (.ret v) ∧ Q v s') E s := by
  show wpAny (model prog w) A (field (.ref z) 2 >>= _) _ E s
  apply wpAny_bind
  refine wpAny_field hZ rfl (x := .bool false) rfl ?_
  show wpAny (model prog w) A (field (.ref z) 3 >>= _) _ E s
  apply wpAny_bind
  refine wpAny_field hZ rfl (x := .ref TI) rfl ?_
  refine wpAny_bind (wpAny_seqItems hI rfl ?_)
  show wpAny (model prog w) A (Builtin.SmallTypes.ownedTupleIsFree (.ref z) >>= _) _ E s
  refine wpAny_bind (own_ask hZ hq ?_ fun g0 hZ0 hs0 => ?_)
  · -- the old pair is gone, or there was none: the kept one serves
    simp only [if_true]
    refine wpAny_bind (wpAny_rule (wpAny_bind (wpAny_field hZ rfl (x := .ref TO) rfl ?_)))
    apply wpAny_bind
    refine wpAny_setField_rec hZ (by simp) fun g1 hZ1 t1 => ?_
    replace hZ1 : ZR g1 z TI TO .ellipsis f := hZ1
    apply wpAny_bind
    simp only [List.zipIdx_cons, List.zipIdx_nil, List.forIn_cons, List.forIn_nil]
    apply wpAny_bind
    refine wpAny_bind (wpAny_onRaise ?_)
    show wpAny (model prog w) _ (Builtin.SmallTypes.nextOf (.ref i1) >>= _) _ _ _
    refine wpAny_bind (RZ.nextOf_tuple_item (J1.extBut t1.extBut D.i1z) (M1.extBut t1.extBut D.l1z) ex fun g2 N1 t2 => wpAny_pure ?_)
    have O2 : IsPair g2 TO a b := t2.extBut _ _ D.TOi1 (t1.extBut _ _ D.TOz hO)
    refine wpAny_bind (wpAny_seqItems O2 rfl (wpAny_bind (wpAny_updateSeq_pair O2 fun g3 O3 t3 => ?_)))
    replace O3 : IsPair g3 TO x b := O3
    refine wpAny_bind (wpAny_letGo (wpAny_pure (wpAny_bind ?_)))
    refine wpAny_bind (wpAny_onRaise ?_)
    show wpAny (model prog w) _ (Builtin.SmallTypes.nextOf (.ref i2) >>= _) _ _ _
    have J2' := ((J2.extBut t1.extBut D.i2z).extBut t2.extBut D.i12.symm).extBut t3.extBut D.TOi2.symm
    have M2' := ((M2.extBut t1.extBut D.l2z).extBut t2.extBut D.l2i1).extBut t3.extBut D.l2TO
    refine wpAny_bind (RZ.nextOf_tuple_item J2' M2' ey fun g4 N2 t4 => wpAny_pure ?_)
    have O4 : IsPair g4 TO x b := t4.extBut _ _ D.TOi2 O3
    refine wpAny_bind (wpAny_seqItems O4 rfl (wpAny_bind (wpAny_updateSeq_pair O4 fun g5 O5 t5 => ?_)))
    replace O5 : IsPair g5 TO x y := O5
    refine wpAny_bind (wpAny_letGo (wpAny_pure (wpAny_pure (wpAny_bind (wpAny_seqItems O5 rfl ?_)))))
    refine wpAny_bind (wpAny_newTuple ?_)
    have size5 : g5.objs.size = s.heap.objs.size := by rw [t5.1, t4.1, t3.1, t2.1, t1.1]
    have hZ5 : ZR g5 z TI TO .ellipsis f := t5.extBut _ _ D.TOz.symm (t4.extBut _ _ D.i2z.symm (t3.extBut _ _ D.TOz.symm (t2.extBut _ _ D.i1z.symm hZ1)))
    have keep5 : ∀ c o, c ≠ z → c ≠ TO → c ≠ i1 → c ≠ i2 → s.heap.get? c = some o → g5.get? c = some o := fun c o n1 n2 n3 n4 e => t5.extBut _ _ n2 (t4.extBut _ _ n4 (t3.extBut _ _ n2 (t2.extBut _ _ n3 (t1.extBut _ _ n1 e))))
    have K1 : g5.IsTupleIter i1 l1 (k1 + 1) := ((N1.extBut t3.extBut D.TOi1.symm).extBut t4.extBut D.i12).extBut t5.extBut D.TOi1.symm
    have K2 : g5.IsTupleIter i2 l2 (k2 + 1) := N2.extBut t5.extBut D.TOi2.symm
    have zlt : z < g5.objs.size := Heap.lt_size hZ5
    show wpAny (model prog w) A (Builtin.SmallTypes.ownedTupleHandOut (.ref z) (.ref g5.objs.size) >>= _) _ _ _
    apply wpAny_bind
    unfold Builtin.SmallTypes.ownedTupleHandOut
    have hZ6 : ZR (g5.push { cls := .type "tuple", data := .seq #[x, y] }) z TI TO .ellipsis f := Heap.get?_push_of_some _ hZ5
    apply wpAny_bind
    refine wpAny_setField_rec hZ6 (by simp) fun g7 hZ7 t7 => ?_
    replace hZ7 : ZR g7 z TI TO (rawInt g5.objs.size) f := hZ7
    refine wpAny_setField_rec hZ7 (by simp) fun g8 hZ8 t8 => ?_
    replace hZ8 : ZR g8 z TI TO (rawInt g5.objs.size) false := hZ8
    have lift : ∀ c o, c ≠ z → g5.get? c = some o → g8.get? c = some o := fun c o n1 e => t8.extBut _ _ n1 (t7.extBut _ _ n1 (Heap.get?_push_of_some _ e))
    have P8 : IsPair g8 g5.objs.size x y := t8.extBut _ _ (Nat.ne_of_gt zlt) (t7.extBut _ _ (Nat.ne_of_gt zlt) (Heap.get?_push_size _ rfl))
    have size8 : g8.objs.size = g5.objs.size + 1 := by rw [t8.1, t7.1, Heap.size_push]
    rw [size5] at P8 size8
    refine wpAny_pure ⟨_, rfl, ?_⟩
    show Q (.ref g5.objs.size) _
    rw [size5]
    exact hQ g8 ⟨_, _, hZ8, .inr ⟨_, rfl⟩⟩ ⟨_, _, lift _ _ D.TOz O5⟩ (K1.at fun o e => lift _ o D.i1z e) (K2.at fun o e => lift _ o D.i2z e) P8 size8 fun c o n1 n2 n3 n4 e => lift c o n1 (keep5 c o n1 n2 n3 n4 e)
  · -- it is still out: a new one
    simp only [Bool.false_eq_true, if_false]
    apply wpAny_bind
    rw [← Array.forIn_toList]
    simp only [List.forIn_cons, List.forIn_nil]
    apply wpAny_bind
    refine wpAny_bind (wpAny_holding ?_)
    show wpAny (model prog w) _ (Builtin.SmallTypes.nextOf (.ref i1) >>= _) _ _ _
    refine wpAny_bind (RZ.nextOf_tuple_item (s := { s with heap := g0 }) (J1.extBut hs0.extBut D.i1z) (M1.extBut hs0.extBut D.l1z) ex fun g2 N1 t2 => wpAny_pure (wpAny_pure ?_))
    apply wpAny_bind
    refine wpAny_bind (wpAny_holding ?_)
    show wpAny (model prog w) _ (Builtin.SmallTypes.nextOf (.ref i2) >>= _) _ _ _
    have J2' := (J2.extBut hs0.extBut D.i2z).extBut t2.extBut D.i12.symm
    have M2' := (M2.extBut hs0.extBut D.l2z).extBut t2.extBut D.l2i1
    refine wpAny_bind (RZ.nextOf_tuple_item (s := { s with heap := g2 }) J2' M2' ey fun g3 N2 t3 => wpAny_pure (wpAny_pure (wpAny_pure ?_)))
    show wpAny (model prog w) A (newTuple [x, y] >>= _) _ _ _
    refine wpAny_bind (wpAny_newTuple (wpAny_pure ⟨_, rfl, ?_⟩))
    show Q (.ref g3.objs.size) _
    have size3 : g3.objs.size = s.heap.objs.size := by rw [t3.1, t2.1, hs0.1]
    have hZ3 : ZR g3 z TI TO q true := t3.extBut _ _ D.i2z.symm (t2.extBut _ _ D.i1z.symm hZ0)
    have keep3 : ∀ c o, c ≠ z → c ≠ i1 → c ≠ i2 → s.heap.get? c = some o → g3.get? c = some o := fun c o n1 n3 n4 e => t3.extBut _ _ n4 (t2.extBut _ _ n3 (hs0.extBut _ _ n1 e))
    have K1 : g3.IsTupleIter i1 l1 (k1 + 1) := N1.extBut t3.extBut D.i12
    have P3 : IsPair (g3.push { cls := .type "tuple", data := .seq #[x, y] }) g3.objs.size x y := Heap.get?_push_size _ rfl
    have size4 : (g3.push { cls := .type "tuple", data := .seq #[x, y] }).objs.size = g3.objs.size + 1 := Heap.size_push ..
    have O3 : IsPair g3 TO a b := keep3 _ _ D.TOz D.TOi1 D.TOi2 hO
    rw [size3] at P3 size4 ⊢
    exact hQ _ ⟨_, _, Heap.get?_push_of_some _ hZ3, hq⟩ ⟨_, _, Heap.get?_push_of_some _ O3⟩ (K1.at fun o e => Heap.get?_push_of_some _ e) (N2.at fun o e => Heap.get?_push_of_some _ e) P3 size4 fun c o n1 _ n3 n4 e => Heap.get?_push_of_some _ (keep3 c o n1 n3 n4 e)
theorem zn_end {z TI TO i1 i2 l1 l2 : Addr} {k1 k2 : Nat} {xs ys : Array Value} {a b q : Value} {f : Bool} {Q : Fin → Shared → Prop} (hh : A.handled = none) (D : ZipApart z TI TO i1 i2 l1 l2)
    (hZ : ZR s.heap z TI TO q f) (hq : Out q) (hI : IsPair s.heap TI (.ref i1) (.ref i2)) (hO : IsPair s.heap TO a b)
    (J1 : s.heap.IsTupleIter i1 l1 k1) (J2 : s.heap.IsTupleIter i2 l2 k2) (M1 : s.heap.IsTuple l1 xs) (M2 : s.heap.IsTuple l2 ys) (fin : xs[k1]? = none ∨ ys[k2]? = none)
    (hE : ∀ g e, (∀ c o, c ≠ z → c ≠ TO → c ≠ i1 → c ≠ i2 → s.heap.get? c = some o → g.get? c = some o) → (∃ o, g.get? e = some o ∧ o.cls = .type "StopIteration") → E (.ref e) { s with heap := g }) :
    wpAny (model prog w) A (Builtin.«zip.__next__» ⟨[.ref z], []⟩) Q E s := by
  show wpAny (model prog w) A (field (.ref z) 2 >>= _) _ E s
  apply wpAny_bind
  refine wpAny_field hZ rfl (x := .bool false) rfl ?_
  show wpAny (model prog w) A (field (.ref z) 3 >>= _) _ E s
  apply wpAny_bind
  refine wpAny_field hZ rfl (x := .ref TI) rfl ?_
  refine wpAny_bind (wpAny_seqItems hI rfl ?_)
  show wpAny (model prog w) A (Builtin.SmallTypes.ownedTupleIsFree (.ref z) >>= _) _ E s
  refine wpAny_bind (own_ask hZ hq ?_ fun g0 hZ0 hs0 => ?_)
  · simp only [if_true]
    refine wpAny_bind (wpAny_rule (wpAny_bind (wpAny_field hZ rfl (x := .ref TO) rfl ?_)))
    apply wpAny_bind
    refine wpAny_setField_rec hZ (by simp) fun g1 hZ1 t1 => ?_
    replace hZ1 : ZR g1 z TI TO .ellipsis f := hZ1
    apply wpAny_bind
    simp only [List.zipIdx_cons, List.zipIdx_nil, List.forIn_cons, List.forIn_nil]
    apply wpAny_bind
    refine wpAny_bind (wpAny_onRaise ?_)
    show wpAny (model prog w) _ (Builtin.SmallTypes.nextOf (.ref i1) >>= _) _ _ _
    cases ex : xs[k1]? with
    | none =>
      refine wpAny_bind (RZ.nextOf_tuple_end hh (J1.extBut t1.extBut D.i1z) (M1.extBut t1.extBut D.l1z) ex fun g2 e t2 he => ?_)
      obtain ⟨oe, e1, e2⟩ := he
      have hZ2 : ZR g2 z TI TO .ellipsis f := t2 _ _ D.i1z.symm hZ1
      have apart : e ≠ z := fun x => by
        subst x
        rw [hZ2] at e1
        cases e1
        simp at e2
      refine wpAny_setField_rec hZ2 (by simp) fun g3 _ t3 => hE g3 e (fun c o n1 _ n3 _ x => t3.extBut _ _ n1 (t2 _ _ n3 (t1.extBut _ _ n1 x))) ⟨oe, t3.extBut _ _ apart e1, e2⟩
    | some x =>
      have ey : ys[k2]? = none := by
        rcases fin with h | h
        · rw [ex] at h
          cases h
        · exact h
      refine wpAny_bind (RZ.nextOf_tuple_item (J1.extBut t1.extBut D.i1z) (M1.extBut t1.extBut D.l1z) ex fun g2 N1 t2 => wpAny_pure ?_)
      have O2 : IsPair g2 TO a b := t2.extBut _ _ D.TOi1 (t1.extBut _ _ D.TOz hO)
      refine wpAny_bind (wpAny_seqItems O2 rfl (wpAny_bind (wpAny_updateSeq_pair O2 fun g3 O3 t3 => ?_)))
      refine wpAny_bind (wpAny_letGo (wpAny_pure (wpAny_bind ?_)))
      refine wpAny_bind (wpAny_onRaise ?_)
      show wpAny (model prog w) _ (Builtin.SmallTypes.nextOf (.ref i2) >>= _) _ _ _
      have J2' := ((J2.extBut t1.extBut D.i2z).extBut t2.extBut D.i12.symm).extBut t3.extBut D.TOi2.symm
      have M2' := ((M2.extBut t1.extBut D.l2z).extBut t2.extBut D.l2i1).extBut t3.extBut D.l2TO
      refine wpAny_bind (RZ.nextOf_tuple_end hh J2' M2' ey fun g4 e t4 he => ?_)
      obtain ⟨oe, e1, e2⟩ := he
      have hZ4 : ZR g4 z TI TO .ellipsis f := t4 _ _ D.i2z.symm (t3.extBut _ _ D.TOz.symm (t2.extBut _ _ D.i1z.symm hZ1))
      have apart : e ≠ z := fun x => by
        subst x
        rw [hZ4] at e1
        cases e1
        simp at e2
      refine wpAny_setField_rec hZ4 (by simp) fun g5 _ t5 => hE g5 e (fun c o n1 n2 n3 n4 x => t5.extBut _ _ n1 (t4 _ _ n4 (t3.extBut _ _ n2 (t2.extBut _ _ n3 (t1.extBut _ _ n1 x))))) ⟨oe, t5.extBut _ _ apart e1, e2⟩
  · simp only [Bool.false_eq_true, if_false]
    apply wpAny_bind
    rw [← Array.forIn_toList]
    simp only [List.forIn_cons, List.forIn_nil]
    apply wpAny_bind
    refine wpAny_bind (wpAny_holding ?_)
    show wpAny (model prog w) _ (Builtin.SmallTypes.nextOf (.ref i1) >>= _) _ _ _
    cases ex : xs[k1]? with
    | none =>
      refine wpAny_bind (RZ.nextOf_tuple_end (s := { s with heap := g0 }) hh (J1.extBut hs0.extBut D.i1z) (M1.extBut hs0.extBut D.l1z) ex fun g2 e t2 he => ?_)
      exact hE g2 e (fun c o n1 _ n3 _ x => t2 _ _ n3 (hs0.extBut _ _ n1 x)) he
    | some x =>
      have ey : ys[k2]? = none := by
        rcases fin with h | h
        · rw [ex] at h
          cases h
        · exact h
      refine wpAny_bind (RZ.nextOf_tuple_item (s := { s with heap := g0 }) (J1.extBut hs0.extBut D.i1z) (M1.extBut hs0.extBut D.l1z) ex fun g2 N1 t2 => wpAny_pure (wpAny_pure ?_))
      apply wpAny_bind
      refine wpAny_bind (wpAny_holding ?_)
      show wpAny (model prog w) _ (Builtin.SmallTypes.nextOf (.ref i2) >>= _) _ _ _
      have J2' := (J2.extBut hs0.extBut D.i2z).extBut t2.extBut D.i12.symm
      have M2' := (M2.extBut hs0.extBut D.l2z).extBut t2.extBut D.l2i1
      refine wpAny_bind (RZ.nextOf_tuple_end (s := { s with heap := g2 }) hh J2' M2' ey fun g3 e t3 he => ?_)
      exact hE g3 e (fun c o n1 _ n3 n4 x => t3 _ _ n4 (t2.extBut _ _ n3 (hs0.extBut _ _ n1 x))) he
theorem zn_next {z TI TO i1 i2 l1 l2 : Addr} {k1 k2 : Nat} {xs ys : Array Value} {x y a b q : Value} {f : Bool} {Q : Option Value → Shared → Prop} (D : ZipApart z TI TO i1 i2 l1 l2)
    (hZ : ZR s.heap z TI TO q f) (hq : Out q) (hI : IsPair s.heap TI (.ref i1) (.ref i2)) (hO : IsPair s.heap TO a b)
    (J1 : s.heap.IsTupleIter i1 l1 k1) (J2 : s.heap.IsTupleIter i2 l2 k2) (M1 : s.heap.IsTuple l1 xs) (M2 : s.heap.IsTuple l2 ys) (ex : xs[k1]? = some x) (ey : ys[k2]? = some y)
    (hQ : ∀ g, (∃ q' f', ZR g z TI TO q' f' ∧ Out q') → (∃ a' b', IsPair g TO a' b') → g.IsTupleIter i1 l1 (k1 + 1) → g.IsTupleIter i2 l2 (k2 + 1) → IsPair g s.heap.objs.size x y → g.objs.size = s.heap.objs.size + 1 →
      (∀ c o, c ≠ z → c ≠ TO → c ≠ i1 → c ≠ i2 → s.heap.get? c = some o → g.get? c = some o) → Q (some (.ref s.heap.objs.size)) { s with heap := g }) :
    wpAny (model prog w) A (pyNext (.ref z)) Q E s := by
  have ty : s.TypeIs (.ref z) "zip" := ⟨_, hZ, rfl⟩
  unfold pyNext
  refine wpAny_bind (wpAny_attempt (wpAny_callSpecial?_slot (name := Str.ofString "__next__") ty F.slot_zip_next ?_))
  exact wpAny_call_entry F.slot_zip_next ty F.entry_zip_next (zn_item D hZ hq hI hO J1 J2 M1 M2 ex ey fun g b1 b2 b3 b4 b5 b6 b7 => wpAny_pure (hQ g b1 b2 b3 b4 b5 b6 b7)) (F.args_zip_next_1 _)
theorem zn_stop {z TI TO i1 i2 l1 l2 : Addr} {k1 k2 : Nat} {xs ys : Array Value} {a b q : Value} {f : Bool} {Q : Option Value → Shared → Prop} (hh : A.handled = none) (D : ZipApart z TI TO i1 i2 l1 l2)
    (hZ : ZR s.heap z TI TO q f) (hq : Out q) (hI : IsPair s.heap TI (.ref i1) (.ref i2)) (hO : IsPair s.heap TO a b)
    (J1 : s.heap.IsTupleIter i1 l1 k1) (J2 : s.heap.IsTupleIter i2 l2 k2) (M1 : s.heap.IsTuple l1 xs) (M2 : s.heap.IsTuple l2 ys) (fin : xs[k1]? = none ∨ ys[k2]? = none)
    (hQ : ∀ g, (∀ c o, c ≠ z → c ≠ TO → c ≠ i1 → c ≠ i2 → s.heap.get? c = some o → g.get? c = some o) → Q none { s with heap := g }) : wpAny (model prog w) A (pyNext (.ref z)) Q E s := by
  have ty : s.TypeIs (.ref z) "zip" := ⟨_, hZ, rfl⟩
  unfold pyNext
  refine wpAny_bind (wpAny_attempt (wpAny_callSpecial?_slot (name := Str.ofString "__next__") ty F.slot_zip_next ?_))
  refine wpAny_call_entry F.slot_zip_next ty F.entry_zip_next (zn_end hh D hZ hq hI hO J1 J2 M1 M2 fin fun g e hk he => ?_) (F.args_zip_next_1 _)
  obtain ⟨o, ho, hc⟩ := he
  exact wpAny_bind (wpAny_isInstance (T := "StopIteration") (b := true) ⟨o, ho, hc⟩ isSubtype_stop (wpAny_pure (hQ g hk)))
theorem zn_self {z TI TO : Addr} {q : Value} {f : Bool} {Q : Value → Shared → Prop} (hZ : ZR s.heap z TI TO q f) (h : Q (.ref z) s) : wpAny (model prog w) A (pyIter (.ref z)) Q E s := by
  have ty : s.TypeIs (.ref z) "zip" := ⟨_, hZ, rfl⟩
  refine wpAny_pyIter_slot ty F.slot_zip_iter (wpAny_call_entry F.slot_zip_iter ty F.entry_zip_iter ?_ (F.args_zip_iter_1 _))
  show wpAny (model prog w) _ (ret (.ref z)) _ _ s
  exact wpAny_pure ⟨_, rfl, "zip", _, ty, F.slot_zip_next.lookup, h⟩
end
theorem turn_zn {P : Program} {w : World} {K : PySem.W.Frag} {x : Str} {tpos : Pos} {a b z TI TO i1 i2 : Addr} (D : ZipApart z TI TO i1 i2 a b) :
    Turn P w K (.Name x tpos) (RZ.ItzT K a b) [z, TI, TO, i1, i2] z (fun i g => (∃ q f, ZR g z TI TO q f ∧ Out q) ∧ IsPair g TI (.ref i1) (.ref i2) ∧ (∃ x y, IsPair g TO x y) ∧ g.IsTupleIter i1 a i ∧ g.IsTupleIter i2 b i) where
  mem := by simp
  obj := fun i g st c hc => by
    obtain ⟨⟨q, f, hZ, _⟩, hI, ⟨u, v, hO⟩, ⟨o1, e1, _, d1⟩, ⟨o2, e2, _, d2⟩⟩ := st
    simp only [List.mem_cons, List.not_mem_nil, or_false] at hc
    rcases hc with rfl | rfl | rfl | rfl | rfl
    · exact ⟨_, hZ, fun v q => nomatch q⟩
    · exact ⟨_, hI, fun v q => nomatch q⟩
    · exact ⟨_, hO, fun v q => nomatch q⟩
    · exact ⟨o1, e1, fun v q => by rw [d1] at q; cases q⟩
    · exact ⟨o2, e2, fun v q => by rw [d2] at q; cases q⟩
  keep := fun i g g' st k => by
    obtain ⟨⟨q, f, hZ, hq⟩, hI, ⟨u, v, hO⟩, J1, J2⟩ := st
    exact ⟨⟨q, f, k z (by simp) _ hZ, hq⟩, k TI (by simp) _ hI, ⟨u, v, k TO (by simp) _ hO⟩, J1.at fun o e => k i1 (by simp) o e, J2.at fun o e => k i2 (by simp) o e⟩
  item := by
    intro X hP hw hK hc i pins s σ H E I hf st hg
    subst hP hw hK
    obtain ⟨⟨q, f, hZ, hq⟩, hI, ⟨x0, y0, hO⟩, J1, J2⟩ := st
    obtain ⟨xs, ys, x, y, hqx, hqy, hx, hy⟩ := hg
    obtain ⟨us, rv, p1, _⟩ := I.tuple hqx
    obtain ⟨vs, rw2, p2, _⟩ := I.tuple hqy
    obtain ⟨u, hu, ru⟩ := rv.get hx
    obtain ⟨v, hv, rv2⟩ := rw2.get hy
    have zlt : z < s.heap.objs.size := Heap.lt_size hZ
    refine zn_next D hZ hq hI hO J1 J2 p1 p2 (x := u) (y := v) (by simpa using hu) (by simpa using hv) fun g hZ' hO' N1 N2 hT hsz hk => ?_
    refine ⟨_, rfl, wpAny_pure ?_⟩
    have new : ObjOk X.prog X.w (upd H s.heap.objs.size (.tup [x, y])) g s.heap.objs.size (.tup [x, y]) := by
      refine ⟨le_line (by decide : 2 ≤ 100000), [u, v], .cons ru (.cons rv2 .nil), ⟨_, hT, rfl, _, rfl⟩⟩
    have I1 : Inv X pins σ (upd H s.heap.objs.size (.tup [x, y])) { s with heap := g } := by
      refine I.turnedNew (t' := s.toks) (ch := [z, TI, TO, i1, i2]) (fun c o nb e => ?_) hf (Nat.le_refl _) new
      simp only [List.mem_cons, List.not_mem_nil, or_false, not_or] at nb
      exact hk c o nb.1 nb.2.2.1 nb.2.2.2.1 nb.2.2.2.2 e
    refine ⟨.ref s.heap.objs.size, _, I1, rfl, ⟨_, x, y, rfl, I.hok.fresh (Nat.le_refl _), rfl, fun l hl => ?_, fun l hl => ?_⟩, ⟨hZ', hk _ _ D.TIz D.TITO D.TIi1 D.TIi2 hI, hO', N1, N2⟩, fun c hcm => ?_⟩
    · rw [I.tuple_inj hl hqx]
      exact hx
    · rw [I.tuple_inj hl hqy]
      exact hy
    · have below : c < s.heap.objs.size := by
        simp only [List.mem_cons, List.not_mem_nil, or_false] at hcm
        rcases hcm with rfl | rfl | rfl | rfl | rfl
        · exact zlt
        · exact Heap.lt_size hI
        · exact Heap.lt_size hO
        · obtain ⟨_, e1, _⟩ := J1
          exact Heap.lt_size e1
        · obtain ⟨_, e2, _⟩ := J2
          exact Heap.lt_size e2
      rw [upd_ne (Nat.ne_of_lt below)]
      exact (hf c hcm).1
  done := by
    intro X hP hw hK hc i pins s σ H E I hf st hg
    subst hP hw hK
    obtain ⟨⟨q, f, hZ, hq⟩, hI, ⟨x0, y0, hO⟩, J1, J2⟩ := st
    obtain ⟨xs, ys, hqx, hqy, hend⟩ := hg
    obtain ⟨us, rv, p1, _⟩ := I.tuple hqx
    obtain ⟨vs, rw2, p2, _⟩ := I.tuple hqy
    have n1 := rv.length
    have n2 := rw2.length
    have fin : us.toArray[i]? = none ∨ vs.toArray[i]? = none := by
      rcases hend with h | h
      · left; simp; omega
      · right; simp; omega
    refine zn_stop (I.ok.hd hc) D hZ hq hI hO J1 J2 p1 p2 fin fun g hk => ⟨rfl, ?_⟩
    refine I.turnedL (t' := s.toks) (ch := [z, TI, TO, i1, i2]) (fun c o nb e => ?_) hf
    simp only [List.mem_cons, List.not_mem_nil, or_false, not_or] at nb
    exact hk c o nb.1 nb.2.2.1 nb.2.2.2.1 nb.2.2.2.2 e
  self := fun A i s Q E st h => by
    obtain ⟨⟨q, f, hZ, _⟩, _⟩ := st
    exact zn_self hZ h
/-- for x in zip(e, e2), two tuples -/
def iZn (K : PySem.W.Frag) (ta : TA) : L2.TI := fun σ H R => ta σ H fun vs H1 => ∃ a b xs ys, vs = [.ref a, .ref b] ∧ SqT K H1 a xs ∧ SqT K H1 b ys ∧ R (RZ.ItzT K a b) H1
theorem pi_zn {X : Cx} {e e2 : Expr} {ta : TA} {p pos tpos : Pos} {x : Str} (hg : Gl X "zip") (hm : X.mg "zip" = none) (ha : PA X [e, e2] ta)
    (hs : starEach [e, e2] X.env = (false, eval e X.env) :: starEach [e2] X.env := by rfl) (hpl : (backTo pos (starEach [e2] X.env)).any (·.1) = false := by rfl) :
    PI X (.Name x tpos) (.Call (.Name "zip" p) [e, e2] [] pos) (iZn X.K ta) := by
  refine ⟨fun pins s σ H R I h => ?_⟩
  refine Call_ (ld_blt I hg hm PyProof.Rows.boot_zip (PyProof.Rows.callWith_type1 (thn (ha.run pos pins s σ H _ I h) fun us s1 ⟨vs, H1, I1, r1, q1⟩ => ?_) hs hpl))
  obtain ⟨a, b, xs, ys, ex, hqx, hqy, q⟩ := q1
  subst ex
  cases r1 with
  | cons ra rr =>
    cases rr with
    | cons rb rr =>
      cases rr
      cases ra
      cases rb
      have fresh : ∀ c, s1.heap.objs.size ≤ c → FpOk X pins H1 c := fun c hle => I1.fpOk hle (I1.hok.fresh hle)
      obtain ⟨us, rv, p1, _⟩ := I1.tuple hqx
      obtain ⟨vs, rw2, p2, _⟩ := I1.tuple hqy
      obtain ⟨o1, lo1, _⟩ := id p1
      obtain ⟨o2, lo2, _⟩ := id p2
      refine RZ.call_zipT p1 p2 fun g hz hI hO J1 J2 hsz hk => ?_
      have hZ : ZR g (s1.heap.objs.size + 4) (s1.heap.objs.size + 2) (s1.heap.objs.size + 3) .none false := hz
      refine zn_self hZ ?_
      have I2 : Inv X pins σ H1 { s1 with heap := g } := I1.kept (t' := s1.toks) hk
      refine ⟨s1.heap.objs.size + 4, [s1.heap.objs.size + 4, s1.heap.objs.size + 2, s1.heap.objs.size + 3, s1.heap.objs.size, s1.heap.objs.size + 1], _, RZ.ItzT X.K a b, H1, rfl, I2, turn_zn (PySem.W.ktu_apart s1.heap.objs.size a b (Heap.lt_size lo1) (Heap.lt_size lo2)), ⟨⟨_, _, hZ, .inl rfl⟩, hI, ⟨_, _, hO⟩, J1, J2⟩, fun c hcm => fresh c ?_, q⟩
      simp only [List.mem_cons, List.not_mem_nil, or_false] at hcm
      rcases hcm with e | e | e | e | e <;> rw [e] <;> first | exact Nat.le_refl _ | exact Nat.le_add_right _ _
/-- the loop, by what holds ahead of each turn -/
theorem sForZ {X : Cx} {σ : L2.St} {H : Hp} {D : Ends} {e e2 : Expr} {x : Str} {p pos tpos pos2 : Pos} {body : List Stmt} (hm : X.mg "zip" = none)
    (h : wA X [e, e2] σ H fun vs H1 => ∃ (a b : Addr) (xs ys : List V), vs = [.ref a, .ref b] ∧ SqT X.K H1 a xs ∧ SqT X.K H1 b ys ∧ xs.length = ys.length ∧ ∃ Pv : Nat → L2.St → Hp → Prop, Pv 0 σ H1 ∧ (∀ (i : Nat) σ' H', Pv i σ' H' → SqT X.K H' a xs ∧ SqT X.K H' b ys) ∧
      (∀ (i : Nat) (u v : V) (T : Addr) σ' H0 H', xs[i]? = some u → ys[i]? = some v → Pv i σ' H0 → H0 T = none → Same H0 H' → H' = upd H0 T (.tup [u, v]) → wG X (.Name x tpos) (.ref T) σ' H' fun σ2 H2 => wSs X body { D with nx := Pv (i + 1), ct := Pv (i + 1), bk := D.nx } σ2 H2) ∧ ∀ σ' H', Pv xs.length σ' H' → D.nx σ' H')
    (hg : Gl X "zip" := by rfl) (hp : PassesOwn (model X.prog X.w) X.A X.env X.xe := by exact PassesOwn.never) (hc : X.calm = true := by rfl)
    (hs : starEach [e, e2] X.env = (false, eval e X.env) :: starEach [e2] X.env := by rfl) (hpl : (backTo pos (starEach [e2] X.env)).any (·.1) = false := by rfl)
    (hf : ∀ z, foldedSetIterable (.Call (.Name "zip" p) [e, e2] [] pos) X.env z = pure z := by intro _; rfl) : wS X (.For (.Name x tpos) (.Call (.Name "zip" p) [e, e2] [] pos) body [] pos2) D σ H := by
  refine sFor ⟨_, pi_zn hg hm pA hs hpl, ?_⟩ hp hc hf
  refine wA_mono h ?_
  rintro vs H1 ⟨a, b, xs, ys, rfl, h1, h2, hl, Pv, p0, pk, ps, pd⟩
  exact ⟨a, b, xs, ys, rfl, h1, h2, RZ.for_zipT hl Pv p0 pk (fun i u v T σ' H' hu hv q hT => ps i u v T σ' H' _ hu hv q hT (same_new hT) rfl) pd⟩
end Wk

/-! < of two tuples whose first difference decides -/
namespace Zb
open PySem PySem.SeqAt
open PySem.AutoSeq1 (wpAny_loadPart')
open PySem.MeetsSeq PySem.MeetsSeq2 PySem.MeetsSeq3
inductive Lx (A : Around) (s : Shared) (z : Bool) : List (Value × Value) → Bool → Prop
  | nil : Lx A s z [] z
  | same {x y : Value} {rest : List (Value × Value)} {v : Bool} : EqAt A s x y true → Lx A s z rest v → Lx A s z ((x, y) :: rest) v
  | less {x y : Value} {rest : List (Value × Value)} {v : Bool} : EqAt A s x y false → SeqAt.RcLt A s x y v → Lx A s z ((x, y) :: rest) v
theorem tup_lt (l b : Addr) (xs ys : Array Value) (n m : Nat) (dx dy : Option Addr) (sx sy : Array (Option Value)) (v : Bool) :
    Meets (Builtin.«tuple.__lt__» ⟨[.ref l, .ref b], []⟩)
      (fun A R s => s.heap.get? l = some { cls := .type "tuple", dict := dx, data := .seq xs n, slots := sx } ∧ s.heap.get? b = some { cls := .type "tuple", dict := dy, data := .seq ys m, slots := sy } ∧
        Lx A.in1 s (decide (xs.size < ys.size)) (xs.toList.zip ys.toList) v ∧ R (.ok (.ret (.bool v))) s) :=
  .of_wp fun prog w A R s h => by
    obtain ⟨hp, g, d, tk, os⟩ := s
    obtain ⟨hl, hb, hx, h⟩ := h
    have f2 := AutoSeq1.sub_tuple_tuple
    wp_walk using wpAny_loadPart' hl, wpAny_loadPart' hb, wpAny_forIn_list _ (fun rest c s' => c.1 = none ∧ s' = ⟨hp, g, d, tk, os⟩ ∧ Lx A.in1 ⟨hp, g, d, tk, os⟩ (decide (xs.size < ys.size)) rest v) _
    case turn =>
      rintro ⟨y, x⟩ rest c s' ⟨hc, rfl, hz⟩
      cases hz with
      | same e q =>
        refine wpAny_bind (e prog w _ _ ?_)
        wp_walk
        exact ⟨rfl, rfl, q⟩
      | less e q =>
        refine wpAny_bind (e prog w _ _ ?_)
        have hq := q prog w
        wp_walk using hq
        exact ⟨_, rfl, by simpa using h⟩
    case fin =>
      rintro ⟨c1, c2⟩ s' ⟨hc, rfl, hz⟩
      simp only at hc
      subst hc
      cases hz
      wp_walk
      exact ⟨_, rfl, by simpa [Builtin.Tuple.tupleCompareSizes] using h⟩
    case h =>
      exact ⟨rfl, rfl, by simpa using hx⟩
theorem RcLt.tup {A : Around} {s : Shared} {l b : Addr} {xs ys : Array Value} {v : Bool} (hl : s.heap.IsTuple l xs) (hb : s.heap.IsTuple b ys) (hu : A.units < cLine) (hx : Lx A.in1 s (decide (xs.size < ys.size)) (xs.toList.zip ys.toList) v) : SeqAt.RcLt A s (.ref l) (.ref b) v := fun prog w E Q h => by
  obtain ⟨⟨cls, dd, data, sl⟩, ho, hc, n, hd⟩ := id hl
  obtain ⟨⟨cls2, dd2, data2, sl2⟩, ho2, hc2, n2, hd2⟩ := id hb
  simp only at hc hd hc2 hd2
  subst hc hd hc2 hd2
  exact richCompare_meets_room (op := .Lt) ⟨_, ho, rfl⟩ ⟨_, ho2, rfl⟩ F.slot_tuple_lt F.entry_tuple_lt (F.args_tuple_lt_2 _ _) (tup_lt l b xs ys n n2 dd dd2 sl sl2 v)
    ⟨ho, ho2, hx, show Value.bool v ≠ Value.notImplemented ∧ Q (.bool v) s from ⟨(fun x => nomatch x), h⟩⟩ hu
end Zb

namespace Wk
open PySem PySem.Spec PyProof.Rows L2
def flatD : PyData → Bool
  | .int _ => true
  | .str s => PyData.strOk s
  | _ => false
def lt1 : PyData → PyData → Option Bool
  | .int m, .int n => some (decide (m < n))
  | .str s, .str t => some (decide (s.cps.toList < t.cps.toList))
  | _, _ => none
def lx (z : Bool) : List PyData → List PyData → Option Bool
  | d :: ds, e :: es => if PyData.eqv d e = true then lx z ds es else lt1 d e
  | _, _ => some z
theorem flat_lay {d : PyData} (h : flatD d = true) : d.canLay0 = true ∧ d.depth ≤ 1 := by
    cases d with
  | int _ => exact ⟨by simp [PyData.canLay0], by simp [PyData.depth]⟩
  | str s => exact ⟨by simpa [PyData.canLay0, flatD] using h, by simp [PyData.depth]⟩
  | _ => cases h
theorem lx_of {X : Cx} {pins : List (Addr × Obj)} {σ : L2.St} {H : Hp} {s : Shared} {A : Around} (I : Inv X pins σ H s) (hu : A.units + 1 < cLine) (z v : Bool) : ∀ (ds es : List PyData) (xs ys : List V) (us ws : List Value), DpAll X.K H xs ds → DpAll X.K H ys es → Vals xs us → Vals ys ws → ds.all flatD = true → es.all flatD = true → lx z ds es = some v → Zb.Lx A s z (us.zip ws) v
  | [], es, xs, ys, us, ws, hx, hy, rx, ry, _, _, h => by
    cases hx
    cases rx
    cases Option.some.inj (show some z = some v by simpa [lx] using h)
    exact .nil
  | d :: ds, [], xs, ys, us, ws, hx, hy, rx, ry, _, _, h => by
    cases hy
    cases ry
    cases Option.some.inj (show some z = some v by simpa [lx] using h)
    cases us <;> exact .nil
  | d :: ds, e :: es, xs, ys, us, ws, hx, hy, rx, ry, fd, fe, h => by
    cases hx with
    | cons hd hds =>
      cases hy with
      | cons he hes =>
        cases rx with
        | cons rd rds =>
          cases ry with
          | cons re res =>
            rw [List.all_cons, Bool.and_eq_true] at fd fe
            obtain ⟨as, r1⟩ := Dp.reads I d _ _ hd rd
            obtain ⟨bs, r2⟩ := Dp.reads I e _ _ he re
            have q := SeqAt.eqAt_reads d e A s _ _ as bs r1 r2 (flat_lay fd.1).1 (flat_lay fe.1).1 (by have := (flat_lay fd.1).2; omega)
            rw [lx] at h
            by_cases c : PyData.eqv d e = true
            · rw [if_pos c] at h
              rw [c] at q
              exact .same q (lx_of I hu z v ds es _ _ _ _ hds hes rds res fd.2 fe.2 h)
            · rw [if_neg c] at h
              rw [Bool.eq_false_iff.mpr c] at q
              refine .less q ?_
              cases hd with
              | int m =>
                cases he with
                | int n =>
                  obtain ⟨t, rfl⟩ := rd
                  obtain ⟨t', rfl⟩ := re
                  have hv : decide (m < n) = v := Option.some.inj h
                  rw [← hv]
                  exact fun prog w E Q hq => PyProof.Rows.lt_int hq
                | _ => cases h
              | str m =>
                cases he with
                | str n =>
                  obtain ⟨t, rfl⟩ := rd
                  obtain ⟨t', rfl⟩ := re
                  have hv : decide (m.cps.toList < n.cps.toList) = v := Option.some.inj h
                  rw [← hv]
                  exact fun prog w E Q hq => PyProof.Rows.lt_str hq
                | _ => cases h
              | _ => cases h
theorem dpLen {K : PySem.W.Frag} {H : Hp} : ∀ {vs : List V} {ds : List PyData}, DpAll K H vs ds → vs.length = ds.length
  | _, _, .nil => rfl
  | _, _, .cons _ r => by rw [List.length_cons, List.length_cons, dpLen r]
theorem op_ltLx {X : Cx} (hu : X.A.units + 64 < cLine) : OpR X (compareOp .Lt) (fun x y H Q => ∃ ds es v, Dp X.K H x (.tuple ds) ∧ Dp X.K H y (.tuple es) ∧ ds.all flatD = true ∧ es.all flatD = true ∧ lx (decide (ds.length < es.length)) ds es = some v ∧ Q (.bl v) H) := by
  intro pins s σ H x y v u Q I rx ry h
  obtain ⟨ds, es, k, hx, hy, fd, fe, hl, q⟩ := h
  cases hx with
  | tup sx ax =>
    cases hy with
    | tup sy ay =>
      cases rx
      cases ry
      obtain ⟨us, r1, p1, _⟩ := I.tuple sx
      obtain ⟨ws, r2, p2, _⟩ := I.tuple sy
      have l1 : us.length = ds.length := by rw [← r1.length]; exact dpLen ax
      have l2 : ws.length = es.length := by rw [← r2.length]; exact dpLen ay
      have z := Zb.RcLt.tup (A := X.A) (s := s) (v := k) p1 p2 (by omega) (by
        rw [List.size_toArray, List.size_toArray, l1, l2]
        simpa using lx_of (A := X.A.in1) I (by show X.A.units + 1 + 1 < cLine; omega) _ k ds es _ _ us ws ax ay r1 r2 fd fe hl)
      exact z X.prog X.w X.xe _ ⟨.bl k, H, I, rfl, q⟩
theorem op_ltLs {X : Cx} (hu : X.A.units + 64 < cLine) : OpR X (compareOp .Lt) (fun x y H Q => ∃ ds es, Dp X.K H x (.list ds) ∧ Dp X.K H y (.list es) ∧ PySem.W.alike (.list ds) (.list es) = true ∧ (PyData.list ds).depth ≤ 64 ∧ Q (.bl (PySem.W.dataLt (.list ds) (.list es))) H) := by
  intro pins s σ H x y v u Q I rx ry h
  obtain ⟨ds, es, hx, hy, ha, hd, q⟩ := h
  obtain ⟨as, r1⟩ := Dp.reads I _ _ _ hx rx
  obtain ⟨bs, r2⟩ := Dp.reads I _ _ _ hy ry
  exact PySem.W.lt_data r1 r2 ha (fun z => nomatch z) (by omega) ⟨.bl _, H, I, rfl, q⟩
theorem op_dnotin {X : Cx} (hu : X.A.units + 1 < cLine) : OpR X (compareOp .NotIn) (fun y x H Q => ∃ a o, x = .ref a ∧ DGet H a y o ∧ Q (.bl (!o.isSome)) H) := by
  intro pins s σ H y x u v Q I ry rx h
  obtain ⟨a, o, rfl, g, q⟩ := h
  cases rx
  exact d_notIn hu I g ry fun s3 I3 => ⟨.bl _, H, I3, rfl, q⟩
theorem set_dict {X : Cx} (hu : X.A.units + 1 < cLine) : PSet X (fun o i v H Q => ∃ a H', o = .ref a ∧ DPut H a i v H' ∧ Q H') := by
  intro pins s σ H o i v ov iv u Q I ro ri rv h
  obtain ⟨a, H', rfl, g, q⟩ := h
  cases ro
  exact d_setItem hu I g ri rv fun s' I' => ⟨H', I', q⟩
/-- {k: v}, k a tuple -/
def tDisp1 (tk tv : TE) : TE := fun σ H Q => ∀ p, H p = none → tk σ (upd H p (.dT [])) fun x H1 => tv σ H1 fun y H2 => H2 p = some (.dT []) ∧ ∃ b ks, x = .ref b ∧ H2 b = some (.tup (ks.map kV)) ∧ Q (.ref p) (upd H2 p (.dT [(ks, y)]))
theorem pe_disp1 {X : Cx} {pos : Pos} {k v : Expr} {tk tv : TE} (hu : X.A.units + 1 < cLine) (hk : PE X k tk) (hv : PE X v tv) : PE X (.Dict [some k] [v] pos) (tDisp1 tk tv) := by
  refine ⟨fun pins s σ H Q I q => ?_⟩
  have hn := I.hok.fresh (Nat.le_refl s.heap.objs.size)
  have I1 := I.laid (a := s.heap.objs.size) (o := .dT []) (h' := s.heap.push { cls := .type "dict", data := .dict #[] }) (t' := s.toks) (fun _ _ q => Heap.get?_push_of_some _ q) (Nat.le_refl _) (dt_empty s.heap I.big)
  have PP : PPs X pos [some k] [v] [(tk, tv)] := pps_cons hk hv pps_nil
  have hz := zip_pairTrees [some k] [v] X.env pos rfl rfl
  rw [arm_eval_Dict, hz, dictDisplay_pairs (pairTrees [some k] [v] X.env pos) (by unfold pairTrees; exact fun z => nomatch z) (by rw [pairTrees_length _ _ _ _ rfl rfl]; show 1 < 17; decide)]
  refine wpAny_bind (wpAny_standAt (wpAny_bind (wpAny_subDictH (knd := tupleKind (mixKind X.prog X.w)) (show X.A.units < cLine by omega) (by rw [pairTrees_length _ _ _ _ rfl rfl]; show 1 ≤ 15; decide) (thn (PP.run pins _ σ _ (fun ps H2 => match ps with | [(x, y)] => H2 s.heap.objs.size = some (.dT []) ∧ ∃ b ks, x = .ref b ∧ H2 b = some (.tup (ks.map kV)) ∧ Q (.ref s.heap.objs.size) (upd H2 s.heap.objs.size (.dT [(ks, y)])) | _ => False) I1 (q _ hn)) fun ws s2 ⟨ps, H2, I2, rel, qq⟩ => ?_))))
  match ps, qq, rel with
  | [(x, y)], q0, rel1 =>
    obtain ⟨e, b, ks, ex, eb, q2⟩ := q0
    subst ex
    cases rel1 with
    | @cons _ wv _ _ hp t =>
      cases t
      obtain ⟨w1, w2⟩ := wv
      obtain ⟨ra, rb⟩ := hp
      cases (show w1 = Value.ref b from ra)
      obtain ⟨z, hd, xs, rx, dd⟩ := dt_of I2.hok e
      cases rx
      refine ⟨[(ks, b, w2)], ⟨rfl, rfl, key_of I2.hok eb, trivial⟩, dd, fun h' tk' dd' hs => wpAny_pure ⟨.ref s.heap.objs.size, _, ?_, rfl, q2⟩⟩
      obtain ⟨ob, es, ep, hq, h2, h3, h4, _, h5⟩ := dd'
      refine d_write I2 (by rw [e]; exact True.intro) hs ⟨ob, hq⟩ ⟨by show 1 ≤ sizeLine; decide, hd, [(ks, b, w2)], .cons ⟨rfl, ?_, rb⟩ .nil, ob, es, ep, hq, h2, h3, h4, h5⟩
      rw [upd_ne (ne_of eb e (fun z => nomatch z))]
      exact eb

section
variable {X : Cx} {σ : L2.St} {H : Hp} {Q : VK} {QA : List V → Hp → Prop} {x y v : V} {e i o k : Expr} {es : List Expr} {pos pos' p p1 apos : Pos} {a b : Addr} {z : Str} {D : Ends}
theorem cLtT (hu : X.A.units + 64 < cLine) {ds es : List PyData} {c : Bool} (hx : Dp X.K H x (.tuple ds)) (hy : Dp X.K H y (.tuple es)) (fd : ds.all flatD = true) (fe : es.all flatD = true) (hl : lx (decide (ds.length < es.length)) ds es = some c) (h : Q (.bl c) H) : wC X .Lt x y H Q := ⟨_, op_ltLx hu, ds, es, c, hx, hy, fd, fe, hl, h⟩
theorem cLtL (hu : X.A.units + 64 < cLine) {ds es : List PyData} (hx : Dp X.K H x (.list ds)) (hy : Dp X.K H y (.list es)) (ha : PySem.W.alike (.list ds) (.list es) = true) (hd : (PyData.list ds).depth ≤ 64) (h : Q (.bl (PySem.W.dataLt (.list ds) (.list es))) H) : wC X .Lt x y H Q := ⟨_, op_ltLs hu, ds, es, hx, hy, ha, hd, h⟩
theorem cNotInL (hu : X.A.units + 65 < cLine) {d : PyData} {ds : List PyData} (hx : Dp X.K H x d) (hy : Dp X.K H y (.list ds)) (sd : SeqAt.shaped d = true) (se : SeqAt.shaped (.list ds) = true) (h : Q (.bl (!ds.any fun z => PyData.eqv z d)) H) : wC X .NotIn x y H Q := ⟨_, op_notInD hu, d, ds, hx, hy, sd, se, h⟩
theorem cNotInD (hu : X.A.units + 1 < cLine) {r : Option V} (g : DGet H a x r) (h : Q (.bl (!r.isSome)) H) : wC X .NotIn x (.ref a) H Q := ⟨_, op_dnotin hu, a, r, rfl, g, h⟩
theorem ptD (hu : X.A.units + 1 < cLine) {QH : Hp → Prop} {H' : Hp} (g : DPut H a y v H') (h : QH H') : wPt X (.ref a) y v H QH := ⟨_, set_dict hu, a, H', rfl, g, h⟩
theorem eDisp1 (hu : X.A.units + 1 < cLine) (h : ∀ p, H p = none → wE X k σ (upd H p (.dT [])) fun x H1 => wE X e σ H1 fun y H2 => H2 p = some (.dT []) ∧ ∃ b ks, x = .ref b ∧ H2 b = some (.tup (ks.map kV)) ∧ Q (.ref p) (upd H2 p (.dT [(ks, y)]))) : wE X (.Dict [some k] [e] pos) σ H Q := ⟨_, pe_disp1 hu pE pE, h⟩
theorem xKD (hk : KDct X.K X.w a z v) (h : Q v H) : wX X (.ref a) (.str z) H Q := ⟨_, ix_kdict, a, z, v, rfl, rfl, hk, h⟩
theorem aStar (h : wE X e σ H fun x H1 => ∃ p xs, x = V.ref p ∧ (SqT X.K H1 p xs ∨ SqL X.K H1 p xs) ∧ wA X es σ H1 fun ys H2 => QA (xs ++ ys) H2) (hs : starEach (.Starred e p1 :: es) X.env = (true, eval e X.env) :: starEach es X.env := by rfl) : wA X (.Starred e p1 :: es) σ H QA := ⟨_, StX.pa_star pE pA hs, h⟩
theorem mIndex {ys : List V} {j : Nat} {z : V} (hl : SqL X.K H a ys) (fy : flatV y = true) (fa : ys.all flatV = true) (hz : ys[j]? = some z) (e : eqV z y = true) (hn : ∀ (m : Nat) (z' : V), m < j → ys[m]? = some z' → eqV z' y = false) (h : Q (.int (j : Nat)) H) : wM X "list.index" (.ref a) [y] H Q := ⟨_, mt_index, a, ys, y, j, z, rfl, rfl, hl, fy, fa, hz, e, hn, h⟩
theorem kIndex (h : wE X o σ H fun x H1 => tyV X.K "list" x H1 ∧ wA X (e :: es) σ H1 fun xs H2 => wM X "list.index" x xs H2 Q) (hbase : attributeBase o "index" X.env (eval o X.env) = eval o X.env := by rfl) (hfew : ((backTo pos (starEach (e :: es) X.env)).all (fun x => !x.1) && (backToKw pos (keywordEach [] X.env)).all (fun x => x.1.isSome) && decide ((e :: es).length + ([] : List Keyword).length + (if ([] : List Keyword).isEmpty then 0 else 1) < 30)) = true := by rfl) (hline : (apos.endLine == pos.line) = true := by rfl)
    (he : starEach (e :: es) X.env = (false, eval e X.env) :: starEach es X.env := by rfl) (hpl : (backTo pos (starEach es X.env)).any (·.1) = false := by rfl) : wE X (.Call (.Attribute o "index" apos) (e :: es) [] pos) σ H Q := by
  exact eM PySem.F.plainAttrs_list PySem.F.slot_list_index PySem.F.type_list_index h hbase hfew hline he hpl
theorem mAppend {xs : List V} (hl : H a = some (.lst xs)) (hz : xs.length < sizeLine) (h : Q .non (upd H a (.lst (xs ++ [y])))) : wM X "list.append" (.ref a) [y] H Q := ⟨_, mt_append, a, xs, y, rfl, rfl, hl, hz, h⟩
theorem kAppend (h : wE X o σ H fun x H1 => tyV X.K "list" x H1 ∧ wA X (e :: es) σ H1 fun xs H2 => wM X "list.append" x xs H2 Q) (hbase : attributeBase o "append" X.env (eval o X.env) = eval o X.env := by rfl) (hfew : ((backTo pos (starEach (e :: es) X.env)).all (fun x => !x.1) && (backToKw pos (keywordEach [] X.env)).all (fun x => x.1.isSome) && decide ((e :: es).length + ([] : List Keyword).length + (if ([] : List Keyword).isEmpty then 0 else 1) < 30)) = true := by rfl) (hline : (apos.endLine == pos.line) = true := by rfl)
    (he : starEach (e :: es) X.env = (false, eval e X.env) :: starEach es X.env := by rfl) (hpl : (backTo pos (starEach es X.env)).any (·.1) = false := by rfl) : wE X (.Call (.Attribute o "append" apos) (e :: es) [] pos) σ H Q := by
  exact eM PySem.F.plainAttrs_list PySem.F.slot_list_append PySem.F.type_list_append h hbase hfew hline he hpl
/-- a, b = x, y -/
theorem sPar (i j : Nat) {x y : Str} {a b : Expr} {px py pt : Pos} {kt k2 pt2} (hi : X.N[i]? = some x) (hj : X.N[j]? = some y) (hij : i ≠ j) (h : wA X [a, b] σ H fun vs H1 => ∃ v w, vs = [v, w] ∧ D.nx ((σ.set i (some v)).set j (some w)) H1)
    (hN : X.N.Nodup) (hx : X.env.scope.names.lookup x = some .local) (hy : X.env.scope.names.lookup y = some .local) (hw : swappedStores [.Tuple [.Name x px, .Name y py] kt pt] (.Tuple [a, b] k2 pt2) X.env = pure (some [x, y]))
    (hs : swapsWithSole [.Tuple [.Name x px, .Name y py] kt pt] (.Tuple [a, b] k2 pt2) pos.line X.env = pure false := by rfl) (hc : X.calm = true := by rfl) : wS X (.Assign [.Tuple [.Name x px, .Name y py] kt pt] (.Tuple [a, b] k2 pt2) pos) D σ H := ⟨_, ps_par hc hN hi hj hij hx hy pA hw hs, h⟩
theorem tyL (h : ∃ xs, SqL X.K H a xs) : tyV X.K "list" (.ref a) H := .inl ⟨rfl, h⟩
end
end Wk

namespace K4
open PySem PySem.Spec PyProof.Rows L2 Wk
inductive Nd where
  | var (n : Int)
  | int (n : Int)
  | atom (a : Str)
  | name (a : Str) (n : Int)
  | tup (l : Str) (ps : List Nat)
def Nd.parts : Nd → List Nat
  | .tup _ ps => ps
  | _ => []
abbrev KY := Int × Int × Str × Int
def Nd.key : Nd → KY
  | .var n => (0, n, "", 0)
  | .int n => (1, n, "", 0)
  | .atom a => (2, 0, a, 0)
  | .tup l ps => (3, ps.length, l, 0)
  | .name a n => (4, 0, a, n)
def klt (a b : KY) : Bool := if a.1 = b.1 then (if a.2.1 = b.2.1 then (if a.2.2.1 = b.2.2.1 then decide (a.2.2.2 < b.2.2.2) else decide (a.2.2.1.cps.toList < b.2.2.1.cps.toList)) else decide (a.2.1 < b.2.1)) else decide (a.1 < b.1)
theorem str_ne {a b : Str} (h : a ≠ b) : a.cps.toList ≠ b.cps.toList := fun e => h (by
  cases a with
  | mk x => cases b with
    | mk y => exact congrArg _ (Array.toList_inj.mp e))
theorem list_flip {a b : List Nat} (h : a ≠ b) : decide (b < a) = !decide (a < b) := by
  by_cases l : a < b
  · rw [decide_eq_true l, decide_eq_false (List.lt_asymm l)]
    rfl
  · rw [decide_eq_false l]
    have l2 : b ≤ a := List.not_lt.mp l
    have l3 : b < a := by
      by_cases q : b < a
      · exact q
      · exact absurd (List.le_antisymm (List.not_lt.mp q) l2) h
    rw [decide_eq_true l3]
    rfl
theorem int_flip {a b : Int} (h : a ≠ b) : decide (b < a) = !decide (a < b) := by
  by_cases l : a < b
  · rw [decide_eq_true l, decide_eq_false (by omega)]
    rfl
  · rw [decide_eq_false l, decide_eq_true (by omega)]
    rfl
theorem klt_flip {a b : KY} (h : a ≠ b) : klt b a = !klt a b := by
  obtain ⟨a1, a2, a3, a4⟩ := a
  obtain ⟨b1, b2, b3, b4⟩ := b
  unfold klt
  by_cases h1 : a1 = b1
  · subst h1
    by_cases h2 : a2 = b2
    · subst h2
      by_cases h3 : a3 = b3
      · subst h3
        have h4 : a4 ≠ b4 := fun z => h (by rw [z])
        simp only [if_true]
        exact int_flip h4
      · simp only [if_true, if_neg h3, if_neg (Ne.symm h3)]
        exact list_flip (str_ne h3)
    · simp only [if_true, if_neg h2, if_neg (Ne.symm h2)]
      exact int_flip h2
  · simp only [if_neg h1, if_neg (Ne.symm h1)]
    exact int_flip h1
abbrev Pr := Nat × Nat
def push (rows : List Pr) (p : Pr) : List Pr := if p ∈ rows then rows else rows ++ [p]
def pushAll (rows qs : List Pr) : List Pr := qs.foldl push rows
inductive Goes (f g : List Nd) : List Pr → Nat → Int → Prop
  | stop {rows : List Pr} {i : Nat} : rows.length ≤ i → Goes f g rows i 0
  | diff {rows : List Pr} {i : Nat} {p : Pr} {a b : Nd} : rows[i]? = some p → f[p.1]? = some a → g[p.2]? = some b → a.key ≠ b.key → Goes f g rows i (if klt a.key b.key = true then -1 else 1)
  | step {rows : List Pr} {i : Nat} {p : Pr} {a b : Nd} {r : Int} : rows[i]? = some p → f[p.1]? = some a → g[p.2]? = some b → a.key = b.key → Goes f g (pushAll rows (a.parts.zip b.parts)) (i + 1) r → Goes f g rows i r
theorem no_stop {rows : List Pr} {i : Nat} {p : Pr} (h : rows.length ≤ i) (e : rows[i]? = some p) : False := by
  rw [List.getElem?_eq_none h] at e
  cases e
theorem Goes.det {f g : List Nd} {rows : List Pr} {i : Nat} {r r' : Int} (h : Goes f g rows i r) (h' : Goes f g rows i r') : r = r' := by
  induction h generalizing r' with
  | stop hl =>
    cases h' with
    | stop _ => rfl
    | diff e _ _ _ => exact (no_stop hl e).elim
    | step e _ _ _ _ => exact (no_stop hl e).elim
  | diff e ea eb hk =>
    cases h' with
    | stop hl => exact (no_stop hl e).elim
    | diff e' ea' eb' _ =>
      rw [e] at e'; cases e'
      rw [ea] at ea'; cases ea'
      rw [eb] at eb'; cases eb'
      rfl
    | step e' ea' eb' hk' _ =>
      rw [e] at e'; cases e'
      rw [ea] at ea'; cases ea'
      rw [eb] at eb'; cases eb'
      exact (hk hk').elim
  | step e ea eb hk _ ih =>
    cases h' with
    | stop hl => exact (no_stop hl e).elim
    | diff e' ea' eb' hk' =>
      rw [e] at e'; cases e'
      rw [ea] at ea'; cases ea'
      rw [eb] at eb'; cases eb'
      exact (hk' hk).elim
    | step e' ea' eb' _ q =>
      rw [e] at e'; cases e'
      rw [ea] at ea'; cases ea'
      rw [eb] at eb'; cases eb'
      exact ih q
def swp (p : Pr) : Pr := (p.2, p.1)
theorem swp_swp (p : Pr) : swp (swp p) = p := rfl
theorem mem_swp {rows : List Pr} {p : Pr} : swp p ∈ rows.map swp ↔ p ∈ rows := by
  constructor
  · intro h
    obtain ⟨q, hq, e⟩ := List.mem_map.mp h
    have : q = p := by
      have := congrArg swp e
      rwa [swp_swp, swp_swp] at this
    rwa [← this]
  · exact fun h => List.mem_map.mpr ⟨p, h, rfl⟩
theorem push_swp (rows : List Pr) (p : Pr) : push (rows.map swp) (swp p) = (push rows p).map swp := by
  unfold push
  by_cases h : p ∈ rows
  · rw [if_pos h, if_pos (mem_swp.mpr h)]
  · rw [if_neg h, if_neg fun z => h (mem_swp.mp z), List.map_append]
    rfl
theorem pushAll_swp : ∀ (qs rows : List Pr), pushAll (rows.map swp) (qs.map swp) = (pushAll rows qs).map swp
  | [], _ => rfl
  | p :: qs, rows => by
    show pushAll (push (rows.map swp) (swp p)) (qs.map swp) = (pushAll (push rows p) qs).map swp
    rw [push_swp]
    exact pushAll_swp qs (push rows p)
theorem zip_swp : ∀ (a b : List Nat), (a.zip b).map swp = b.zip a
  | [], b => by cases b <;> rfl
  | _ :: _, [] => rfl
  | x :: a, y :: b => by
    show swp (x, y) :: (a.zip b).map swp = (y, x) :: b.zip a
    rw [zip_swp a b]
    rfl
theorem Goes.flip {f g : List Nd} {rows : List Pr} {i : Nat} {r : Int} (h : Goes f g rows i r) : Goes g f (rows.map swp) i (-r) := by
  induction h with
  | stop hl => exact .stop (by rw [List.length_map]; exact hl)
  | @diff rows i p a b e ea eb hk =>
    have z : (-(if klt a.key b.key = true then (-1 : Int) else 1)) = if klt b.key a.key = true then -1 else 1 := by
      rw [klt_flip hk]
      cases klt a.key b.key <;> rfl
    rw [z]
    exact .diff (p := swp p) (by rw [List.getElem?_map, e]; rfl) eb ea (Ne.symm hk)
  | @step rows i p a b r e ea eb hk _ ih =>
    refine .step (p := swp p) (by rw [List.getElem?_map, e]; rfl) eb ea hk.symm ?_
    rw [← zip_swp, pushAll_swp]
    exact ih
theorem push_mem {rows : List Pr} {p x : Pr} (h : x ∈ push rows p) : x ∈ rows ∨ x = p := by
  unfold push at h
  split at h
  · exact .inl h
  · rcases List.mem_append.mp h with h | h
    · exact .inl h
    · exact .inr (List.mem_singleton.mp h)
theorem pushAll_mem : ∀ {qs rows : List Pr} {x : Pr}, x ∈ pushAll rows qs → x ∈ rows ∨ x ∈ qs
  | [], _, _, h => .inl h
  | p :: qs, rows, x, h => by
    rcases pushAll_mem (qs := qs) (rows := push rows p) h with h | h
    · rcases push_mem h with h | h
      · exact .inl h
      · exact .inr (by rw [h]; exact List.mem_cons_self)
    · exact .inr (List.mem_cons_of_mem _ h)
theorem push_nodup {rows : List Pr} (h : rows.Nodup) (p : Pr) : (push rows p).Nodup := by
  unfold push
  split
  · exact h
  · rename_i hn
    exact List.nodup_append.mpr ⟨h, List.nodup_cons.mpr ⟨List.not_mem_nil, List.nodup_nil⟩, fun a ha b hb => by
      rw [List.mem_singleton.mp hb]
      exact fun z => hn (z ▸ ha)⟩
theorem pushAll_nodup : ∀ {qs rows : List Pr}, rows.Nodup → (pushAll rows qs).Nodup
  | [], _, h => h
  | p :: qs, rows, h => pushAll_nodup (qs := qs) (push_nodup h p)
theorem zip_self_mem : ∀ {a : List Nat} {x : Pr}, x ∈ a.zip a → x.1 = x.2
  | y :: a, x, h => by
    rcases List.mem_cons.mp (show x ∈ (y, y) :: a.zip a from h) with h | h
    · rw [h]
    · exact zip_self_mem h
theorem Goes.diag {f : List Nd} {rows : List Pr} {i : Nat} {r : Int} (h : Goes f f rows i r) (hd : ∀ x ∈ rows, x.1 = x.2) : r = 0 := by
  induction h with
  | stop _ => rfl
  | @diff rows i p a b e ea eb hk =>
    have q := hd p (List.mem_of_getElem? e)
    rw [q, eb] at ea
    cases ea
    exact (hk rfl).elim
  | @step rows i p a b r e ea eb hk _ ih =>
    have q := hd p (List.mem_of_getElem? e)
    rw [q, eb] at ea
    cases ea
    refine ih fun x hx => ?_
    rcases pushAll_mem hx with h | h
    · exact hd x h
    · exact zip_self_mem h
/-! the bound -/
theorem nd_len : ∀ (N : Nat) (l : List Nat), l.Nodup → (∀ x ∈ l, x < N) → l.length ≤ N
  | 0, [], _, _ => Nat.le_refl _
  | 0, x :: l, _, h => absurd (h x List.mem_cons_self) (Nat.not_lt_zero _)
  | N + 1, l, hn, h => by
    by_cases m : N ∈ l
    · have e := List.length_erase_of_mem m
      have i := nd_len N (l.erase N) (hn.erase _) fun x hx => by
        have h1 := h x (List.mem_of_mem_erase hx)
        have h2 : x ≠ N := fun z => by
          rw [z] at hx
          exact (List.Nodup.not_mem_erase hn) hx
        omega
      omega
    · have i := nd_len N l hn fun x hx => by
        have h1 := h x hx
        have h2 : x ≠ N := fun z => m (z ▸ hx)
        omega
      omega
def In24 (rows : List Pr) (n m : Nat) : Prop := ∀ x ∈ rows, x.1 < n ∧ x.2 < m
theorem rows_len {rows : List Pr} {n m : Nat} (hn : rows.Nodup) (hi : In24 rows n m) (h1 : n ≤ 24) (h2 : m ≤ 24) : rows.length ≤ 576 := by
  have e := nd_len 576 (rows.map fun p => p.1 * 24 + p.2) (List.pairwise_map.mpr (List.Pairwise.imp_of_mem (fun {a b} ha hb hab z => hab (by
    have qa := hi a ha
    have qb := hi b hb
    have z1 : a.1 = b.1 := by omega
    have z2 : a.2 = b.2 := by omega
    exact Prod.ext z1 z2)) hn)) fun x hx => by
      obtain ⟨p, hp, rfl⟩ := List.mem_map.mp hx
      have q := hi p hp
      show p.1 * 24 + p.2 < 576
      omega
  rwa [List.length_map] at e
def Good (f : List Nd) : Prop := f ≠ [] ∧ f.length ≤ 24 ∧ ∀ a ∈ f, a.parts.length ≤ 6 ∧ ∀ k ∈ a.parts, k < f.length
theorem zip_mem : ∀ {a b : List Nat} {x : Pr}, x ∈ a.zip b → x.1 ∈ a ∧ x.2 ∈ b
  | [], b, _, h => by cases h
  | _ :: _, [], _, h => by cases h
  | y :: a, z :: b, x, h => by
    rcases List.mem_cons.mp (show x ∈ (y, z) :: a.zip b from h) with h | h
    · rw [h]; exact ⟨List.mem_cons_self, List.mem_cons_self⟩
    · obtain ⟨h1, h2⟩ := zip_mem h
      exact ⟨List.mem_cons_of_mem _ h1, List.mem_cons_of_mem _ h2⟩
theorem push_in {f g : List Nd} {rows : List Pr} {i j : Nat} {a b : Nd} (hf : Good f) (hg : Good g) (hr : In24 rows f.length g.length) (ea : f[i]? = some a) (eb : g[j]? = some b) : In24 (pushAll rows (a.parts.zip b.parts)) f.length g.length := fun x hx => by
  rcases pushAll_mem hx with h | h
  · exact hr x h
  · obtain ⟨h1, h2⟩ := zip_mem h
    exact ⟨(hf.2.2 a (List.mem_of_getElem? ea)).2 _ h1, (hg.2.2 b (List.mem_of_getElem? eb)).2 _ h2⟩
end K4

namespace K4
open PySem PySem.Spec PyProof.Rows L2 Wk
def topS (i : Nat) : Stmt := PySem.Challenge.pw_leatwork_k04_order_of_trees.main.body.getD i (.Pass ⟨0, 0, 0, 0⟩)
local macro_rules | `(tactic| none_booked) => `(tactic| first
  | refine eInt ?_ | refine eStr ?_ | (refine eNm ?_; first | refine nAt 0 (by rfl) (by rfl) (by first | exact Or.inl rfl | exact Or.inr (Or.inl rfl) | exact Or.inr (Or.inr rfl)) (by rfl) (by rfl) ?_ | refine nAt 1 (by rfl) (by rfl) (by first | exact Or.inl rfl | exact Or.inr (Or.inl rfl) | exact Or.inr (Or.inr rfl)) (by rfl) (by rfl) ?_ | refine nAt 2 (by rfl) (by rfl) (by first | exact Or.inl rfl | exact Or.inr (Or.inl rfl) | exact Or.inr (Or.inr rfl)) (by rfl) (by rfl) ?_ | refine nAt 3 (by rfl) (by rfl) (by first | exact Or.inl rfl | exact Or.inr (Or.inl rfl) | exact Or.inr (Or.inr rfl)) (by rfl) (by rfl) ?_ | refine nAt 4 (by rfl) (by rfl) (by first | exact Or.inl rfl | exact Or.inr (Or.inl rfl) | exact Or.inr (Or.inr rfl)) (by rfl) (by rfl) ?_ | refine nAt 5 (by rfl) (by rfl) (by first | exact Or.inl rfl | exact Or.inr (Or.inl rfl) | exact Or.inr (Or.inr rfl)) (by rfl) (by rfl) ?_ | refine nAt 6 (by rfl) (by rfl) (by first | exact Or.inl rfl | exact Or.inr (Or.inl rfl) | exact Or.inr (Or.inr rfl)) (by rfl) (by rfl) ?_ | refine nAt 7 (by rfl) (by rfl) (by first | exact Or.inl rfl | exact Or.inr (Or.inl rfl) | exact Or.inr (Or.inr rfl)) (by rfl) (by rfl) ?_ | refine nAt 8 (by rfl) (by rfl) (by first | exact Or.inl rfl | exact Or.inr (Or.inl rfl) | exact Or.inr (Or.inr rfl)) (by rfl) (by rfl) ?_ | refine nAt 9 (by rfl) (by rfl) (by first | exact Or.inl rfl | exact Or.inr (Or.inl rfl) | exact Or.inr (Or.inr rfl)) (by rfl) (by rfl) ?_ | refine nAt 10 (by rfl) (by rfl) (by first | exact Or.inl rfl | exact Or.inr (Or.inl rfl) | exact Or.inr (Or.inr rfl)) (by rfl) (by rfl) ?_ | refine nAt 11 (by rfl) (by rfl) (by first | exact Or.inl rfl | exact Or.inr (Or.inl rfl) | exact Or.inr (Or.inr rfl)) (by rfl) (by rfl) ?_) | refine sCons ?_ | refine sNil ?_ | refine sIf ?_ | refine sRet ?_ | (refine sStore ?_; first | refine stAt 0 (by rfl) ?_ (by assumption) (by first | exact Or.inl rfl | exact Or.inr rfl) (by rfl) (by first | exact Or.inl rfl | exact Or.inr rfl) | refine stAt 1 (by rfl) ?_ (by assumption) (by first | exact Or.inl rfl | exact Or.inr rfl) (by rfl) (by first | exact Or.inl rfl | exact Or.inr rfl) | refine stAt 2 (by rfl) ?_ (by assumption) (by first | exact Or.inl rfl | exact Or.inr rfl) (by rfl) (by first | exact Or.inl rfl | exact Or.inr rfl) | refine stAt 3 (by rfl) ?_ (by assumption) (by first | exact Or.inl rfl | exact Or.inr rfl) (by rfl) (by first | exact Or.inl rfl | exact Or.inr rfl) | refine stAt 4 (by rfl) ?_ (by assumption) (by first | exact Or.inl rfl | exact Or.inr rfl) (by rfl) (by first | exact Or.inl rfl | exact Or.inr rfl) | refine stAt 5 (by rfl) ?_ (by assumption) (by first | exact Or.inl rfl | exact Or.inr rfl) (by rfl) (by first | exact Or.inl rfl | exact Or.inr rfl) | refine stAt 6 (by rfl) ?_ (by assumption) (by first | exact Or.inl rfl | exact Or.inr rfl) (by rfl) (by first | exact Or.inl rfl | exact Or.inr rfl) | refine stAt 7 (by rfl) ?_ (by assumption) (by first | exact Or.inl rfl | exact Or.inr rfl) (by rfl) (by first | exact Or.inl rfl | exact Or.inr rfl) | refine stAt 8 (by rfl) ?_ (by assumption) (by first | exact Or.inl rfl | exact Or.inr rfl) (by rfl) (by first | exact Or.inl rfl | exact Or.inr rfl) | refine stAt 9 (by rfl) ?_ (by assumption) (by first | exact Or.inl rfl | exact Or.inr rfl) (by rfl) (by first | exact Or.inl rfl | exact Or.inr rfl) | refine stAt 10 (by rfl) ?_ (by assumption) (by first | exact Or.inl rfl | exact Or.inr rfl) (by rfl) (by first | exact Or.inl rfl | exact Or.inr rfl) | refine stAt 11 (by rfl) ?_ (by assumption) (by first | exact Or.inl rfl | exact Or.inr rfl) (by rfl) (by first | exact Or.inl rfl | exact Or.inr rfl)) | refine sExpr ?_
  | refine aNil ?_ | refine aCons ?_ | refine aStar ?_ | refine eBl ?_ | refine eNon ?_ | refine eBin ?_ | refine eCmp ?_ | refine eIx ?_ | refine eTupN ?_ | refine eLstN ?_ | refine eChain ?_
  | refine eSl ?_ | refine oNone ?_ | refine oSome ?_ | refine eNot ?_ | refine eUn ?_ | refine eAnd ?_ | refine eOr ?_ | refine eOne ?_ | refine eIf ?_
  | refine tCmp ?_ | refine tChain ?_ | refine tNot ?_ | refine pAnd1 ?_ | refine pOr1 ?_ | refine pAnd ?_ | refine pOr ?_
  | refine kLen (by assumption) ?_ | refine kAbs (by assumption) ?_ | refine kInt (by assumption) ?_ | refine kList (by assumption) ?_ | refine kTuple (by assumption) ?_ | refine kAll (by assumption) ?_ | refine kIsi (by assumption) ?_
  | refine tyInt (by assumption) ?_ | refine tyBool (by assumption) ?_ | refine tyStr (by assumption) ?_ | refine tyTuple (by assumption) ?_ | refine tyList (by assumption) ?_
  | refine eCall (by assumption) (by assumption) (by decide) ?_ | refine eGlobI (by assumption) ?_
  | refine tPb ?_
  | refine bAdd ?_ | refine bSub ?_ | refine uNeg ?_ | refine cLt ?_ | refine cLe ?_ | refine cGt ?_ | refine cGe ?_ | refine cEq (by rfl) ?_ | refine cNe (by rfl) ?_
  | refine fInt ?_ | refine fAbs ?_
  | refine kIndex ?_ | refine kAppend ?_ | refine kIsascii ?_ | refine kIsalnum ?_ | refine kIsalpha ?_ | refine kIslower ?_
  | refine ⟨rfl, mIsascii ?_⟩ | refine ⟨rfl, mIsalnum ?_⟩ | refine ⟨rfl, mIsalpha ?_⟩ | refine ⟨rfl, mIslower ?_⟩
  | refine gsNil ?_ | refine gsCons ?_ | (first | refine gNm 0 (by rfl) ?_ (by assumption) (by first | exact Or.inl rfl | exact Or.inr rfl) (by first | exact Or.inl rfl | exact Or.inr rfl) | refine gNm 1 (by rfl) ?_ (by assumption) (by first | exact Or.inl rfl | exact Or.inr rfl) (by first | exact Or.inl rfl | exact Or.inr rfl) | refine gNm 2 (by rfl) ?_ (by assumption) (by first | exact Or.inl rfl | exact Or.inr rfl) (by first | exact Or.inl rfl | exact Or.inr rfl) | refine gNm 3 (by rfl) ?_ (by assumption) (by first | exact Or.inl rfl | exact Or.inr rfl) (by first | exact Or.inl rfl | exact Or.inr rfl) | refine gNm 4 (by rfl) ?_ (by assumption) (by first | exact Or.inl rfl | exact Or.inr rfl) (by first | exact Or.inl rfl | exact Or.inr rfl) | refine gNm 5 (by rfl) ?_ (by assumption) (by first | exact Or.inl rfl | exact Or.inr rfl) (by first | exact Or.inl rfl | exact Or.inr rfl) | refine gNm 6 (by rfl) ?_ (by assumption) (by first | exact Or.inl rfl | exact Or.inr rfl) (by first | exact Or.inl rfl | exact Or.inr rfl) | refine gNm 7 (by rfl) ?_ (by assumption) (by first | exact Or.inl rfl | exact Or.inr rfl) (by first | exact Or.inl rfl | exact Or.inr rfl) | refine gNm 8 (by rfl) ?_ (by assumption) (by first | exact Or.inl rfl | exact Or.inr rfl) (by first | exact Or.inl rfl | exact Or.inr rfl) | refine gNm 9 (by rfl) ?_ (by assumption) (by first | exact Or.inl rfl | exact Or.inr rfl) (by first | exact Or.inl rfl | exact Or.inr rfl) | refine gNm 10 (by rfl) ?_ (by assumption) (by first | exact Or.inl rfl | exact Or.inr rfl) (by first | exact Or.inl rfl | exact Or.inr rfl) | refine gNm 11 (by rfl) ?_ (by assumption) (by first | exact Or.inl rfl | exact Or.inr rfl) (by first | exact Or.inl rfl | exact Or.inr rfl)))
def nums (ps : List Nat) : List V := ps.map fun k : Nat => V.int (k : Int)
def numsD (ps : List Nat) : List PyData := ps.map fun k : Nat => PyData.int (k : Int)
def Nd.items : Nd → List PyData
  | .var n => [.str "var", .int n]
  | .int n => [.str "int", .int n]
  | .atom a => [.str "atom", .str a]
  | .name a n => [.str "name", .str a, .int n]
  | .tup l ps => [.str "tuple", .str l, .tuple (numsD ps)]
def Nd.data (a : Nd) : PyData := .tuple a.items
def Nd.look : Nd → List PyData
  | .var n => [.int 0, .int n]
  | .int n => [.int 1, .int n]
  | .atom a => [.int 2, .str a]
  | .name a n => [.int 4, .str a, .int n]
  | .tup l ps => [.int 3, .int (ps.length : Nat), .str l]
section
variable {K : PySem.W.Frag} {H H' : Hp}
theorem dp_nums : ∀ {ps : List Nat} {xs : List V}, DpAll K H xs (numsD ps) → xs = nums ps
  | [], _, h => by cases h; rfl
  | k :: ps, _, h => by
    cases h with
    | cons h1 h2 =>
      cases h1
      rw [dp_nums h2]
      rfl
theorem nums_dp : ∀ (ps : List Nat), DpAll K H (nums ps) (numsD ps)
  | [] => .nil
  | k :: ps => .cons (.int _) (nums_dp ps)
/-- a node, by its places -/
theorem nd_at {a : Nd} {v : V} (h : Dp K H v a.data) : ∃ p xs, v = .ref p ∧ SqT K H p xs ∧ DpAll K H xs a.items := by
  cases h with
  | tup h r => exact ⟨_, _, rfl, h, r⟩
def Nd.isTup : Nd → Bool
  | .tup _ _ => true
  | _ => false
def Nd.kind : Nd → Str
  | .var _ => "var"
  | .int _ => "int"
  | .atom _ => "atom"
  | .name _ _ => "name"
  | .tup _ _ => "tuple"
def Nd.rank : Nd → Int
  | .var _ => 0
  | .int _ => 1
  | .atom _ => 2
  | .name _ _ => 4
  | .tup _ _ => 3
def Nd.tail : Nd → List V
  | .var n => [.int n]
  | .int n => [.int n]
  | .atom a => [.str a]
  | .name a n => [.str a, .int n]
  | .tup _ _ => []
theorem kind_tup (a : Nd) : decide (V.str a.kind = V.str "tuple") = a.isTup := by cases a <;> first | (show decide (V.str "var" = V.str "tuple") = false; decide +kernel) | (show decide (V.str "int" = V.str "tuple") = false; decide +kernel) | (show decide (V.str "atom" = V.str "tuple") = false; decide +kernel) | (show decide (V.str "name" = V.str "tuple") = false; decide +kernel) | (show decide (V.str "tuple" = V.str "tuple") = true; decide +kernel)
theorem nd_flat {a : Nd} {v : V} (h : Dp K H v a.data) (hf : a.isTup = false) : ∃ p, v = .ref p ∧ SqT K H p (.str a.kind :: a.tail) := by
  obtain ⟨p, xs, rfl, hs, ha⟩ := nd_at h
  refine ⟨p, rfl, ?_⟩
  cases a with
  | tup l ps => cases hf
  | name z n =>
    cases ha with
    | cons h1 ha => cases ha with
      | cons h2 ha => cases ha with
        | cons h3 ha => cases ha; cases h1; cases h2; cases h3; exact hs
  | _ =>
    cases ha with
    | cons h1 ha => cases ha with
      | cons h2 ha => cases ha; cases h1; cases h2; exact hs
theorem nd_tup {l : Str} {ps : List Nat} {v : V} (h : Dp K H v (Nd.tup l ps).data) : ∃ p b, v = .ref p ∧ SqT K H p [.str "tuple", .str l, .ref b] ∧ SqT K H b (nums ps) := by
  obtain ⟨p, xs, rfl, hs, ha⟩ := nd_at h
  cases ha with
  | cons h1 ha => cases ha with
    | cons h2 ha => cases ha with
      | cons h3 ha =>
        cases ha
        cases h1
        cases h2
        cases h3 with
        | tup hs3 ha3 =>
          cases dp_nums ha3
          exact ⟨p, _, rfl, hs, hs3⟩
/-- the first place -/
theorem nd_kind {a : Nd} {v : V} (h : Dp K H v a.data) : ∃ p xs, v = .ref p ∧ SqT K H p (.str a.kind :: xs) := by
  cases a with
  | tup l ps =>
    obtain ⟨p, b, rfl, h1, _⟩ := nd_tup h
    exact ⟨p, _, rfl, h1⟩
  | _ =>
    obtain ⟨p, rfl, h1⟩ := nd_flat h rfl
    exact ⟨p, _, rfl, h1⟩
theorem cut_nil (H : Hp) : cut [] H = H := by
  funext b
  exact if_neg (List.not_mem_nil)
end
section
variable {X : Cx} {H : Hp} {Q : VK} {p q : Addr} {xs ys : List V}
theorem lT0 {lo hi : Option Int} (hs : SqT X.K H p xs) (h : ∀ p' H', Same H H' → SqT X.K H' p' (cutV xs lo hi) → Q (.ref p') H') : wL X (.ref p) lo hi H Q :=
  lT (as := []) (fun _ _ => List.not_mem_nil) (by rw [cut_nil]; exact hs) fun p' H' s z => h p' H' s (by rw [cut_nil] at z; exact z)
end
abbrev sParts : Stmt := topS 2
abbrev sLook : Stmt := topS 3
theorem scParts : FnScope ["node"] ["node"] (defScope sParts) := ⟨rfl, rfl, rfl, by decide +kernel, rfl, by decide +kernel, by decide +kernel⟩
theorem scLook : FnScope ["node"] ["node"] (defScope sLook) := ⟨rfl, rfl, rfl, by decide +kernel, rfl, by decide +kernel, by decide +kernel⟩
section
variable {P : Program} {w : World} {K : PySem.W.Frag} {mg : Str → Option Value} {base : Heap}
def spParts (K : PySem.W.Frag) : Sp := fun vs H Q _ => ∃ (v : V) (a : Nd), vs = [v] ∧ Dp K H v a.data ∧ ∀ p H', Same H H' → SqT K H' p (nums a.parts) → Q (.ref p) H'
theorem ok_parts {f : Addr} {fd : FuncData} (F : Fun K "parts_of" "parts_of" sParts f fd) (hm : mg "parts_of" = some (.ref f)) (bd : Binds K fd ["node"] []) : Cl P w K mg base 1 "parts_of" (spParts K) := by
  refine cl_mk (sc := ?sc) (body := ?body) F hm bd scParts ?hsc ?hb (fun vs H Q E h => ?_) (fun cdv A outer s H vs Q E hr nd h => ?_)
  case hsc => conv => lhs; whnf
  case hb => conv => lhs; whnf
  · obtain ⟨v, a, rfl, _⟩ := h
    rfl
  · obtain ⟨v, a, rfl, hd, q⟩ := h
    cases a with
    | tup l ps =>
      obtain ⟨p, b, rfl, h1, h2⟩ := nd_tup hd
      repeat none_booked
      refine xT h1 (by rfl) ?_
      repeat none_booked
      refine ⟨_, rfl, ?_⟩
      rw [if_pos (by decide +kernel)]
      repeat none_booked
      refine xT h1 (by rfl) ?_
      exact q _ H (Same.refl _) h2
    | _ =>
      obtain ⟨p, rfl, h1⟩ := nd_flat hd rfl
      repeat none_booked
      refine xT h1 (by rfl) ?_
      repeat none_booked
      refine ⟨_, rfl, ?_⟩
      rw [if_neg (by rw [kind_tup]; exact Bool.false_ne_true)]
      repeat none_booked
      exact ⟨by decide, fun p' H' hp s' e => q p' H' s' (SqT.of e)⟩
def Ranks (K : PySem.W.Frag) (w : World) (mg : Str → Option Value) : Prop := ∃ rd, mg "RANKS" = some (.ref rd) ∧ KDct K w rd "var" (.int 0) ∧ KDct K w rd "int" (.int 1) ∧ KDct K w rd "atom" (.int 2) ∧ KDct K w rd "tuple" (.int 3) ∧ KDct K w rd "name" (.int 4)
def spLook (K : PySem.W.Frag) : Sp := fun vs H Q _ => ∃ (v : V) (a : Nd), vs = [v] ∧ Dp K H v a.data ∧ ∀ p H', Same H H' → Dp K H' (.ref p) (.tuple a.look) → Q (.ref p) H'
theorem ok_look {f : Addr} {fd : FuncData} (F : Fun K "look" "look" sLook f fd) (hm : mg "look" = some (.ref f)) (bd : Binds K fd ["node"] []) (R : Ranks K w mg) (m1 : mg "len" = none) : Cl P w K mg base 1 "look" (spLook K) := by
  refine cl_mk (sc := ?sc) (body := ?body) F hm bd scLook ?hsc ?hb (fun vs H Q E h => ?_) (fun cdv A outer s H vs Q E hr nd h => ?_)
  case hsc => conv => lhs; whnf
  case hb => conv => lhs; whnf
  · obtain ⟨v, a, rfl, _⟩ := h
    rfl
  · obtain ⟨v, a, rfl, hd, q⟩ := h
    obtain ⟨rd, mr, r0, r1, r2, r3, r4⟩ := R
    cases a with
    | tup l ps =>
      obtain ⟨p, b, rfl, h1, h2⟩ := nd_tup hd
      repeat none_booked
      refine xT h1 (by rfl) ?_
      repeat none_booked
      refine ⟨_, rfl, ?_⟩
      rw [if_pos (by decide +kernel)]
      repeat none_booked
      refine eGlob (v := .ref rd) mr rfl ?_
      repeat none_booked
      refine xKD r3 ?_
      repeat none_booked
      refine xT h1 (by rfl) ?_
      repeat none_booked
      refine fLenT h2 ?_
      repeat none_booked
      refine xT h1 (by rfl) ?_
      repeat none_booked
      refine ⟨by show 3 ≤ 100000; decide, fun p' H' hp s' e => q p' H' s' (.tup (SqT.of e) ?_)⟩
      have el : (nums ps).length = ps.length := List.length_map _
      rw [el]
      exact .cons (.int _) (.cons (.int _) (.cons (.str _) .nil))
    | var n =>
      obtain ⟨p, rfl, h1⟩ := nd_flat hd rfl
      repeat none_booked
      refine xT h1 (by rfl) ?_
      repeat none_booked
      refine ⟨_, rfl, ?_⟩
      rw [if_neg (by rw [kind_tup]; exact Bool.false_ne_true)]
      repeat none_booked
      refine eGlob (v := .ref rd) mr rfl ?_
      repeat none_booked
      refine xT h1 (by rfl) ?_
      refine xKD r0 ?_
      repeat none_booked
      refine ⟨_, rfl, ?_⟩
      repeat none_booked
      refine lT0 h1 (fun p1 H1 s1 z1 => ?_)
      refine ⟨p1, _, rfl, .inl z1, ?_⟩
      repeat none_booked
      exact ⟨by show 2 ≤ 100000; decide, fun p' H' hp s' e => q p' H' (s1.trans s') (.tup (SqT.of e) (.cons (.int _) (.cons (.int _) .nil)))⟩
    | int n =>
      obtain ⟨p, rfl, h1⟩ := nd_flat hd rfl
      repeat none_booked
      refine xT h1 (by rfl) ?_
      repeat none_booked
      refine ⟨_, rfl, ?_⟩
      rw [if_neg (by rw [kind_tup]; exact Bool.false_ne_true)]
      repeat none_booked
      refine eGlob (v := .ref rd) mr rfl ?_
      repeat none_booked
      refine xT h1 (by rfl) ?_
      refine xKD r1 ?_
      repeat none_booked
      refine ⟨_, rfl, ?_⟩
      repeat none_booked
      refine lT0 h1 (fun p1 H1 s1 z1 => ?_)
      refine ⟨p1, _, rfl, .inl z1, ?_⟩
      repeat none_booked
      exact ⟨by show 2 ≤ 100000; decide, fun p' H' hp s' e => q p' H' (s1.trans s') (.tup (SqT.of e) (.cons (.int _) (.cons (.int _) .nil)))⟩
    | atom z =>
      obtain ⟨p, rfl, h1⟩ := nd_flat hd rfl
      repeat none_booked
      refine xT h1 (by rfl) ?_
      repeat none_booked
      refine ⟨_, rfl, ?_⟩
      rw [if_neg (by rw [kind_tup]; exact Bool.false_ne_true)]
      repeat none_booked
      refine eGlob (v := .ref rd) mr rfl ?_
      repeat none_booked
      refine xT h1 (by rfl) ?_
      refine xKD r2 ?_
      repeat none_booked
      refine ⟨_, rfl, ?_⟩
      repeat none_booked
      refine lT0 h1 (fun p1 H1 s1 z1 => ?_)
      refine ⟨p1, _, rfl, .inl z1, ?_⟩
      repeat none_booked
      exact ⟨by show 2 ≤ 100000; decide, fun p' H' hp s' e => q p' H' (s1.trans s') (.tup (SqT.of e) (.cons (.int _) (.cons (.str _) .nil)))⟩
    | name z n =>
      obtain ⟨p, rfl, h1⟩ := nd_flat hd rfl
      repeat none_booked
      refine xT h1 (by rfl) ?_
      repeat none_booked
      refine ⟨_, rfl, ?_⟩
      rw [if_neg (by rw [kind_tup]; exact Bool.false_ne_true)]
      repeat none_booked
      refine eGlob (v := .ref rd) mr rfl ?_
      repeat none_booked
      refine xT h1 (by rfl) ?_
      refine xKD r4 ?_
      repeat none_booked
      refine ⟨_, rfl, ?_⟩
      repeat none_booked
      refine lT0 h1 (fun p1 H1 s1 z1 => ?_)
      refine ⟨p1, _, rfl, .inl z1, ?_⟩
      repeat none_booked
      exact ⟨by show 3 ≤ 100000; decide, fun p' H' hp s' e => q p' H' (s1.trans s') (.tup (SqT.of e) (.cons (.int _) (.cons (.str _) (.cons (.int _) .nil))))⟩
end
end K4

namespace K4
open PySem PySem.Spec PyProof.Rows L2 Wk
def Nd.fine : Nd → Bool
  | .atom z => PyData.strOk z
  | .name z _ => PyData.strOk z
  | .tup z _ => PyData.strOk z
  | _ => true
theorem eqv_str (s t : Str) : PyData.eqv (.str s) (.str t) = decide (s = t) := by
  simp only [PyData.eqv]
  by_cases h : s = t
  · subst h; simp
  · rw [decide_eq_false h]; exact beq_eq_false_iff_ne.mpr h
theorem eqv_int (s t : Int) : PyData.eqv (.int s) (.int t) = decide (s = t) := by
  simp only [PyData.eqv]
  by_cases h : s = t
  · subst h; simp
  · rw [decide_eq_false h]; exact beq_eq_false_iff_ne.mpr h
theorem look_flat {a : Nd} (h : a.fine = true) : a.look.all flatD = true := by
  cases a <;> simp [Nd.look, flatD, Nd.fine] at h ⊢ <;> exact h
theorem look_shaped {a : Nd} (h : a.fine = true) : SeqAt.shaped (.tuple a.look) = true := by
  cases a <;> simp [Nd.look, SeqAt.shaped, PyData.canLay0, PyData.canLayAll0, PyData.depth, PyData.depthAll, Nd.fine] at h ⊢ <;> exact h
def Nd.rest : Nd → List PyData
  | .var n => [.int n]
  | .int n => [.int n]
  | .atom a => [.str a]
  | .name a n => [.str a, .int n]
  | .tup l ps => [.int (ps.length : Nat), .str l]
theorem look_eq (a : Nd) : a.look = .int a.rank :: a.rest := by cases a <;> rfl
theorem key_rank (a : Nd) : a.key.1 = a.rank := by cases a <;> rfl
theorem eqvAll_cons (x y : PyData) (xs ys : List PyData) : PyData.eqvAll (x :: xs) (y :: ys) = (PyData.eqv x y && PyData.eqvAll xs ys) := by rw [PyData.eqvAll]
theorem eqvAll_nil : PyData.eqvAll [] [] = true := by rw [PyData.eqvAll]
theorem eqv_tup (xs ys : List PyData) : PyData.eqv (.tuple xs) (.tuple ys) = PyData.eqvAll xs ys := by rw [PyData.eqv]
theorem eqv_list (xs ys : List PyData) : PyData.eqv (.list xs) (.list ys) = PyData.eqvAll xs ys := by rw [PyData.eqv]
theorem dec2 {p q r : Prop} [Decidable p] [Decidable q] [Decidable r] (h : r ↔ p ∧ q) : (decide p && decide q) = decide r := by
  by_cases hp : p <;> by_cases hq : q <;> simp [hp, hq, h]
theorem rest_eqv {a b : Nd} (hr : a.rank = b.rank) : PyData.eqvAll a.rest b.rest = decide (a.key = b.key) := by
  cases a with
  | var n =>
    cases b with
    | var m =>
      show PyData.eqvAll [.int n] [.int m] = _
      rw [eqvAll_cons, eqvAll_nil, Bool.and_true, eqv_int]
      exact decide_eq_decide.mpr (by simp [Nd.key])
    | _ => exact absurd hr (by simp [Nd.rank])
  | int n =>
    cases b with
    | int m =>
      show PyData.eqvAll [.int n] [.int m] = _
      rw [eqvAll_cons, eqvAll_nil, Bool.and_true, eqv_int]
      exact decide_eq_decide.mpr (by simp [Nd.key])
    | _ => exact absurd hr (by simp [Nd.rank])
  | atom n =>
    cases b with
    | atom m =>
      show PyData.eqvAll [.str n] [.str m] = _
      rw [eqvAll_cons, eqvAll_nil, Bool.and_true, eqv_str]
      exact decide_eq_decide.mpr (by simp [Nd.key])
    | _ => exact absurd hr (by simp [Nd.rank])
  | name n k =>
    cases b with
    | name m l =>
      show PyData.eqvAll [.str n, .int k] [.str m, .int l] = _
      rw [eqvAll_cons, eqvAll_cons, eqvAll_nil, Bool.and_true, eqv_str, eqv_int]
      exact dec2 (by simp [Nd.key])
    | _ => exact absurd hr (by simp [Nd.rank])
  | tup n k =>
    cases b with
    | tup m l =>
      show PyData.eqvAll [.int (k.length : Nat), .str n] [.int (l.length : Nat), .str m] = _
      rw [eqvAll_cons, eqvAll_cons, eqvAll_nil, Bool.and_true, eqv_str, eqv_int]
      exact dec2 (by simp [Nd.key])
    | _ => exact absurd hr (by simp [Nd.rank])
theorem look_eqv (a b : Nd) : PyData.eqv (.tuple a.look) (.tuple b.look) = decide (a.key = b.key) := by
  rw [eqv_tup, look_eq, look_eq, eqvAll_cons, eqv_int]
  by_cases hr : a.rank = b.rank
  · rw [decide_eq_true hr, Bool.true_and, rest_eqv hr]
  · rw [decide_eq_false hr, Bool.false_and, decide_eq_false fun z => hr (by rw [← key_rank, ← key_rank, z])]
theorem lx_no {z : Bool} {d e : PyData} {ds es : List PyData} (h : PyData.eqv d e = false) : lx z (d :: ds) (e :: es) = lt1 d e := by
  rw [lx, if_neg (by rw [h]; exact Bool.false_ne_true)]
theorem lx_yes {z : Bool} {d e : PyData} {ds es : List PyData} (h : PyData.eqv d e = true) : lx z (d :: ds) (e :: es) = lx z ds es := by
  rw [lx, if_pos h]
theorem eqv_int_no {m n : Int} (h : m ≠ n) : PyData.eqv (.int m) (.int n) = false := by rw [eqv_int, decide_eq_false h]
theorem eqv_str_no {m n : Str} (h : m ≠ n) : PyData.eqv (.str m) (.str n) = false := by rw [eqv_str, decide_eq_false h]
theorem eqv_int_yes (m : Int) : PyData.eqv (.int m) (.int m) = true := by rw [eqv_int, decide_eq_true rfl]
theorem eqv_str_yes (m : Str) : PyData.eqv (.str m) (.str m) = true := by rw [eqv_str, decide_eq_true rfl]
theorem klt_1 {a b : KY} (h : a.1 ≠ b.1) : klt a b = decide (a.1 < b.1) := by unfold klt; rw [if_neg h]
theorem klt_2 {a b : KY} (h : a.1 = b.1) (h2 : a.2.1 ≠ b.2.1) : klt a b = decide (a.2.1 < b.2.1) := by unfold klt; rw [if_pos h, if_neg h2]
theorem klt_3 {a b : KY} (h : a.1 = b.1) (h2 : a.2.1 = b.2.1) (h3 : a.2.2.1 ≠ b.2.2.1) : klt a b = decide (a.2.2.1.cps.toList < b.2.2.1.cps.toList) := by unfold klt; rw [if_pos h, if_pos h2, if_neg h3]
theorem klt_4 {a b : KY} (h : a.1 = b.1) (h2 : a.2.1 = b.2.1) (h3 : a.2.2.1 = b.2.2.1) : klt a b = decide (a.2.2.2 < b.2.2.2) := by unfold klt; rw [if_pos h, if_pos h2, if_pos h3]
theorem rest_lt {z : Bool} {a b : Nd} (hr : a.rank = b.rank) (h : a.key ≠ b.key) : lx z a.rest b.rest = some (klt a.key b.key) := by
  cases a with
  | var n =>
    cases b with
    | var m =>
      have hn : n ≠ m := fun e => h (by rw [e])
      rw [klt_2 (a := (Nd.var n).key) (b := (Nd.var m).key) rfl hn]
      exact lx_no (eqv_int_no hn)
    | _ => exact absurd hr (by simp [Nd.rank])
  | int n =>
    cases b with
    | int m =>
      have hn : n ≠ m := fun e => h (by rw [e])
      rw [klt_2 (a := (Nd.int n).key) (b := (Nd.int m).key) rfl hn]
      exact lx_no (eqv_int_no hn)
    | _ => exact absurd hr (by simp [Nd.rank])
  | atom n =>
    cases b with
    | atom m =>
      have hn : n ≠ m := fun e => h (by rw [e])
      rw [klt_3 (a := (Nd.atom n).key) (b := (Nd.atom m).key) rfl rfl hn]
      exact lx_no (eqv_str_no hn)
    | _ => exact absurd hr (by simp [Nd.rank])
  | name n k =>
    cases b with
    | name m l =>
      by_cases hn : n = m
      · subst hn
        have hk : k ≠ l := fun e => h (by rw [e])
        rw [klt_4 (a := (Nd.name n k).key) (b := (Nd.name n l).key) rfl rfl rfl]
        exact (lx_yes (eqv_str_yes n)).trans (lx_no (eqv_int_no hk))
      · rw [klt_3 (a := (Nd.name n k).key) (b := (Nd.name m l).key) rfl rfl hn]
        exact lx_no (eqv_str_no hn)
    | _ => exact absurd hr (by simp [Nd.rank])
  | tup n k =>
    cases b with
    | tup m l =>
      by_cases hk : ((k.length : Nat) : Int) = ((l.length : Nat) : Int)
      · have hn : n ≠ m := fun e => h (by
          show ((3 : Int), ((k.length : Nat) : Int), n, (0 : Int)) = (3, ((l.length : Nat) : Int), m, 0)
          rw [e, hk])
        rw [klt_3 (a := (Nd.tup n k).key) (b := (Nd.tup m l).key) rfl hk hn]
        exact (lx_yes (by rw [hk]; exact eqv_int_yes _)).trans (lx_no (eqv_str_no hn))
      · rw [klt_2 (a := (Nd.tup n k).key) (b := (Nd.tup m l).key) rfl hk]
        exact lx_no (eqv_int_no hk)
    | _ => exact absurd hr (by simp [Nd.rank])
theorem look_lt {z : Bool} {a b : Nd} (h : a.key ≠ b.key) : lx z a.look b.look = some (klt a.key b.key) := by
  rw [look_eq, look_eq]
  by_cases hr : a.rank = b.rank
  · rw [hr, lx_yes (eqv_int_yes _)]
    exact rest_lt hr h
  · rw [lx_no (eqv_int_no hr), klt_1 (by rw [key_rank, key_rank]; exact hr), key_rank, key_rank]
    rfl
theorem key_parts {a b : Nd} (h : a.key = b.key) : a.parts.length = b.parts.length := by
  cases a <;> cases b <;> simp [Nd.key, Nd.parts] at h ⊢ <;> omega
/-! law's own key -/
def Nd.lkey (a : Nd) : List PyData := [.int a.key.1, .int a.key.2.1, .str a.key.2.2.1, .int a.key.2.2.2]
theorem lkey_eqv (a b : Nd) : PyData.eqv (.list a.lkey) (.list b.lkey) = decide (a.key = b.key) := by
  rw [eqv_list]
  unfold Nd.lkey
  rw [eqvAll_cons, eqvAll_cons, eqvAll_cons, eqvAll_cons, eqvAll_nil, Bool.and_true, eqv_int, eqv_int, eqv_str, eqv_int]
  obtain ⟨a1, a2, a3, a4⟩ := a.key
  obtain ⟨b1, b2, b3, b4⟩ := b.key
  have e1 := dec2 (p := a3 = b3) (q := a4 = b4) (r := (a3, a4) = (b3, b4)) (by simp)
  have e2 := dec2 (p := a2 = b2) (q := (a3, a4) = (b3, b4)) (r := (a2, a3, a4) = (b2, b3, b4)) (by simp)
  have e3 := dec2 (p := a1 = b1) (q := (a2, a3, a4) = (b2, b3, b4)) (r := (a1, a2, a3, a4) = (b1, b2, b3, b4)) (by simp)
  simp only
  rw [e1, e2, e3]
theorem lkey_alike (a b : Nd) : PySem.W.alike (.list a.lkey) (.list b.lkey) = true := by
  simp [Nd.lkey, PySem.W.alike, PySem.W.alikeAll]
theorem lkey_lt {a b : Nd} (h : a.key ≠ b.key) : PySem.W.dataLt (.list a.lkey) (.list b.lkey) = klt a.key b.key := by
  rw [PySem.W.dataLt_list]
  unfold Nd.lkey
  rw [PySem.W.dataLt_cons (by simp [PySem.W.alike]), PySem.W.dataLt_cons (by simp [PySem.W.alike]), PySem.W.dataLt_cons (by simp [PySem.W.alike]), PySem.W.dataLt_cons (by simp [PySem.W.alike])]
  rw [PySem.W.dataLt_int, PySem.W.dataLt_int, PySem.W.dataLt_str, PySem.W.dataLt_int, eqv_int, eqv_int, eqv_str, eqv_int]
  unfold klt
  generalize a.key = x at h ⊢
  generalize b.key = y at h ⊢
  obtain ⟨a1, a2, a3, a4⟩ := x
  obtain ⟨b1, b2, b3, b4⟩ := y
  simp only [decide_eq_true_eq]
  by_cases h1 : a1 = b1
  · by_cases h2 : a2 = b2
    · by_cases h3 : a3 = b3
      · have h4 : a4 ≠ b4 := fun e => h (by rw [h1, h2, h3, e])
        simp [h1, h2, h3, h4]
      · simp [h1, h2, h3]
    · simp [h1, h2]
  · simp [h1]
theorem lkey_shaped {a : Nd} (h : a.fine = true) : SeqAt.shaped (.list a.lkey) = true := by
  have e : PyData.strOk a.key.2.2.1 = true := by
    cases a <;> first | exact h | (show PyData.strOk "" = true; decide +kernel)
  simp [Nd.lkey, SeqAt.shaped, PyData.canLay0, PyData.canLayAll0, PyData.depth, PyData.depthAll, e]
theorem lkey_deep (a : Nd) : (PyData.list a.lkey).depth ≤ 64 := by
  simp [Nd.lkey, PyData.depth, PyData.depthAll]
end K4

namespace K4
open PySem PySem.Spec PyProof.Rows L2 Wk
def Gr (K : PySem.W.Frag) (H : Hp) (v : V) (f : List Nd) : Prop := Dp K H v (.tuple (f.map Nd.data))
def Goodk (f : List Nd) : Prop := Good f ∧ ∀ a ∈ f, a.fine = true
/-- the pairs' tuples -/
def PR (H : Hp) (bs : List Addr) (rows : List Pr) : Prop := bs.map H = rows.map fun p => some (HO.tup [.int (p.1 : Nat), .int (p.2 : Nat)])
theorem PR.len {H : Hp} {bs : List Addr} {rows : List Pr} (h : PR H bs rows) : bs.length = rows.length := by
  have e := congrArg List.length h
  rwa [List.length_map, List.length_map] at e
theorem PR.keep {H H' : Hp} (k : ∀ b t, H b = some (.tup t) → H' b = some (.tup t)) : ∀ {bs : List Addr} {rows : List Pr}, PR H bs rows → PR H' bs rows
  | [], [], _ => rfl
  | [], _ :: _, h => by have e := h.len; cases e
  | _ :: _, [], h => by have e := h.len; cases e
  | b :: bs, p :: rows, h => by
    have h1 : H b = _ := (List.cons.inj h).1
    have h2 : PR H bs rows := (List.cons.inj h).2
    show H' b :: bs.map H' = some (HO.tup [.int (p.1 : Nat), .int (p.2 : Nat)]) :: rows.map fun p => some (HO.tup [.int (p.1 : Nat), .int (p.2 : Nat)])
    rw [k b _ h1, show bs.map H' = rows.map (fun p => some (HO.tup [.int (p.1 : Nat), .int (p.2 : Nat)])) from PR.keep k h2]
theorem PR.get {H : Hp} {bs : List Addr} {rows : List Pr} {i : Nat} {p : Pr} (h : PR H bs rows) (e : rows[i]? = some p) : ∃ b, bs[i]? = some b ∧ H b = some (.tup [.int (p.1 : Nat), .int (p.2 : Nat)]) := by
  have q := congrArg (fun l => l[i]?) h
  simp only [List.getElem?_map] at q
  rw [e] at q
  cases hb : bs[i]? with
  | none => rw [hb] at q; cases q
  | some b => rw [hb] at q; exact ⟨b, rfl, Option.some.inj q⟩
theorem PR.snoc {H : Hp} {bs : List Addr} {rows : List Pr} {b : Addr} {p : Pr} (h : PR H bs rows) (e : H b = some (.tup [.int (p.1 : Nat), .int (p.2 : Nat)])) : PR H (bs ++ [b]) (rows ++ [p]) := by
  unfold PR at h ⊢
  rw [List.map_append, List.map_append, h, List.map_cons, List.map_cons, e]
  rfl
theorem keep_same {H H' : Hp} (s : Same H H') : ∀ b t, H b = some (.tup t) → H' b = some (.tup t) := fun b t e => s _ _ e
theorem keep_upd {H : Hp} {q : Addr} {o : HO} (hn : ∀ t, H q ≠ some (.tup t)) : ∀ b t, H b = some (.tup t) → upd H q o b = some (.tup t) := fun b t e => by
  rw [upd_ne fun z => hn t (by rw [← z]; exact e)]
  exact e
theorem same_put {H0 H : Hp} {q : Addr} {o : HO} (s : Same H0 H) (hq : H0 q = none) : Same H0 (upd H q o) := fun b u e => by
  rw [upd_ne fun z => by rw [z, hq] at e; cases e]
  exact s _ _ e
def kp (p : Pr) : List L2.Key := [.inl (p.1 : Nat), .inl (p.2 : Nat)]
theorem kp_inj {p q : Pr} (h : kp p = kp q) : p = q := by
  obtain ⟨a, b⟩ := p
  obtain ⟨c, d⟩ := q
  have h1 := (List.cons.inj h).1
  have h2 := (List.cons.inj (List.cons.inj h).2).1
  have e1 : ((a : Nat) : Int) = ((c : Nat) : Int) := Sum.inl.inj h1
  have e2 : ((b : Nat) : Int) = ((d : Nat) : Int) := Sum.inl.inj h2
  have e3 : a = c := by omega
  have e4 : b = d := by omega
  rw [e3, e4]
def tab (rows : List Pr) : List (List L2.Key × V) := rows.map fun p => (kp p, .bl true)
theorem tab_some (rows : List Pr) (p : Pr) : (valV (tab rows) (kp p)).isSome = decide (p ∈ rows) := by
  rw [← valV_any]
  unfold tab
  rw [List.any_map]
  by_cases h : p ∈ rows
  · rw [decide_eq_true h]
    exact List.any_eq_true.mpr ⟨p, h, decide_eq_true rfl⟩
  · rw [decide_eq_false h]
    refine Bool.eq_false_iff.mpr fun z => ?_
    obtain ⟨q, hq, e⟩ := List.any_eq_true.mp z
    have e' : kp q = kp p := of_decide_eq_true e
    rw [kp_inj e'] at hq
    exact h hq
theorem tab_put {rows : List Pr} {p : Pr} (h : p ∉ rows) : putK (tab rows) (kp p) (.bl true) = tab (rows ++ [p]) := by
  rw [putK_new]
  · unfold tab
    rw [List.map_append]
    rfl
  · have e := tab_some rows p
    rw [decide_eq_false h] at e
    cases q : valV (tab rows) (kp p) with
    | none => rfl
    | some x => rw [q] at e; cases e
section
variable {K : PySem.W.Frag} {H : Hp}
theorem dp_get : ∀ {vs : List V} {ds : List PyData} {i : Nat} {u : V} {d : PyData}, DpAll K H vs ds → vs[i]? = some u → ds[i]? = some d → Dp K H u d
  | _, _, _, _, _, .nil, h, _ => by cases h
  | _, _, 0, _, _, .cons h1 _, hu, hd => by cases hu; cases hd; exact h1
  | _, _, i + 1, _, _, .cons _ h2, hu, hd => dp_get (i := i) h2 hu hd
/-- a node of a graph -/
theorem gr_at {v : V} {f : List Nd} (h : Gr K H v f) : ∃ p xs, v = .ref p ∧ SqT K H p xs ∧ xs.length = f.length ∧ ∀ (i : Nat) (a : Nd), f[i]? = some a → ∃ u, xs[i]? = some u ∧ Dp K H u a.data := by
  cases h with
  | tup hs ha =>
    have hl := dpLen ha
    rw [List.length_map] at hl
    rename_i p xs
    refine ⟨p, xs, rfl, hs, hl, fun i a hi => ?_⟩
    have hlt : i < f.length := (List.getElem?_eq_some_iff.mp hi).1
    obtain ⟨u, hu⟩ : ∃ u, xs[i]? = some u := ⟨_, List.getElem?_eq_getElem (by rw [hl]; exact hlt)⟩
    exact ⟨u, hu, dp_get ha hu (by rw [List.getElem?_map, hi]; rfl)⟩
theorem gr_mono {H' : Hp} {v : V} {f : List Nd} (s : Same H H') (h : Gr K H v f) : Gr K H' v f := dp_mono s h
end
theorem zip_get {xs ys : List Nat} {i : Nat} {x y : Nat} (h1 : xs[i]? = some x) (h2 : ys[i]? = some y) : (xs.zip ys)[i]? = some (x, y) := by
  rw [List.getElem?_zip_eq_some]
  exact ⟨h1, h2⟩
theorem push_take {rows qs : List Pr} {i : Nat} {p : Pr} (h : qs[i]? = some p) : pushAll rows (qs.take (i + 1)) = push (pushAll rows (qs.take i)) p := by
  rw [List.take_add_one, h]
  unfold pushAll
  rw [List.foldl_append]
  rfl
theorem nums_get {ps : List Nat} {i : Nat} {u : V} (h : (nums ps)[i]? = some u) : ∃ k, ps[i]? = some k ∧ u = .int (k : Nat) := by
  unfold nums at h
  rw [List.getElem?_map] at h
  cases e : ps[i]? with
  | none => rw [e] at h; cases h
  | some k => rw [e] at h; exact ⟨k, rfl, (Option.some.inj h).symm⟩
end K4

namespace K4
open PySem PySem.Spec PyProof.Rows L2 Wk
local macro_rules | `(tactic| none_booked) => `(tactic| first
  | refine eInt ?_ | refine eStr ?_ | (refine eNm ?_; first | refine nAt 0 (by rfl) (by rfl) (by first | exact Or.inl rfl | exact Or.inr (Or.inl rfl) | exact Or.inr (Or.inr rfl)) (by rfl) (by rfl) ?_ | refine nAt 1 (by rfl) (by rfl) (by first | exact Or.inl rfl | exact Or.inr (Or.inl rfl) | exact Or.inr (Or.inr rfl)) (by rfl) (by rfl) ?_ | refine nAt 2 (by rfl) (by rfl) (by first | exact Or.inl rfl | exact Or.inr (Or.inl rfl) | exact Or.inr (Or.inr rfl)) (by rfl) (by rfl) ?_ | refine nAt 3 (by rfl) (by rfl) (by first | exact Or.inl rfl | exact Or.inr (Or.inl rfl) | exact Or.inr (Or.inr rfl)) (by rfl) (by rfl) ?_ | refine nAt 4 (by rfl) (by rfl) (by first | exact Or.inl rfl | exact Or.inr (Or.inl rfl) | exact Or.inr (Or.inr rfl)) (by rfl) (by rfl) ?_ | refine nAt 5 (by rfl) (by rfl) (by first | exact Or.inl rfl | exact Or.inr (Or.inl rfl) | exact Or.inr (Or.inr rfl)) (by rfl) (by rfl) ?_ | refine nAt 6 (by rfl) (by rfl) (by first | exact Or.inl rfl | exact Or.inr (Or.inl rfl) | exact Or.inr (Or.inr rfl)) (by rfl) (by rfl) ?_ | refine nAt 7 (by rfl) (by rfl) (by first | exact Or.inl rfl | exact Or.inr (Or.inl rfl) | exact Or.inr (Or.inr rfl)) (by rfl) (by rfl) ?_ | refine nAt 8 (by rfl) (by rfl) (by first | exact Or.inl rfl | exact Or.inr (Or.inl rfl) | exact Or.inr (Or.inr rfl)) (by rfl) (by rfl) ?_) | refine sCons ?_ | refine sNil ?_ | refine sIf ?_ | refine sRet ?_ | (refine sStore ?_; first | refine stAt 0 (by rfl) ?_ (by assumption) (by first | exact Or.inl rfl | exact Or.inr rfl) (by rfl) (by first | exact Or.inl rfl | exact Or.inr rfl) | refine stAt 1 (by rfl) ?_ (by assumption) (by first | exact Or.inl rfl | exact Or.inr rfl) (by rfl) (by first | exact Or.inl rfl | exact Or.inr rfl) | refine stAt 2 (by rfl) ?_ (by assumption) (by first | exact Or.inl rfl | exact Or.inr rfl) (by rfl) (by first | exact Or.inl rfl | exact Or.inr rfl) | refine stAt 3 (by rfl) ?_ (by assumption) (by first | exact Or.inl rfl | exact Or.inr rfl) (by rfl) (by first | exact Or.inl rfl | exact Or.inr rfl) | refine stAt 4 (by rfl) ?_ (by assumption) (by first | exact Or.inl rfl | exact Or.inr rfl) (by rfl) (by first | exact Or.inl rfl | exact Or.inr rfl) | refine stAt 5 (by rfl) ?_ (by assumption) (by first | exact Or.inl rfl | exact Or.inr rfl) (by rfl) (by first | exact Or.inl rfl | exact Or.inr rfl) | refine stAt 6 (by rfl) ?_ (by assumption) (by first | exact Or.inl rfl | exact Or.inr rfl) (by rfl) (by first | exact Or.inl rfl | exact Or.inr rfl) | refine stAt 7 (by rfl) ?_ (by assumption) (by first | exact Or.inl rfl | exact Or.inr rfl) (by rfl) (by first | exact Or.inl rfl | exact Or.inr rfl) | refine stAt 8 (by rfl) ?_ (by assumption) (by first | exact Or.inl rfl | exact Or.inr rfl) (by rfl) (by first | exact Or.inl rfl | exact Or.inr rfl)) | refine sExpr ?_
  | refine aNil ?_ | refine aCons ?_ | refine eBl ?_ | refine eNon ?_ | refine eBin ?_ | refine eCmp ?_ | refine eIx ?_ | refine eTup ?_ | refine eLst ?_ | refine eChain ?_
  | refine eSl ?_ | refine oNone ?_ | refine oSome ?_ | refine eNot ?_ | refine eUn ?_ | refine eAnd ?_ | refine eOr ?_ | refine eOne ?_ | refine eIf ?_
  | refine tCmp ?_ | refine tChain ?_ | refine tNot ?_ | refine pAnd1 ?_ | refine pOr1 ?_ | refine pAnd ?_ | refine pOr ?_
  | refine kLen (by assumption) ?_ | refine kAbs (by assumption) ?_ | refine kInt (by assumption) ?_ | refine kList (by assumption) ?_ | refine kTuple (by assumption) ?_ | refine kAll (by assumption) ?_ | refine kIsi (by assumption) ?_
  | refine tyInt (by assumption) ?_ | refine tyBool (by assumption) ?_ | refine tyStr (by assumption) ?_ | refine tyTuple (by assumption) ?_ | refine tyList (by assumption) ?_
  | refine eCall (by assumption) (by assumption) (by decide) ?_ | refine eGlobI (by assumption) ?_
  | refine tPb ?_
  | refine bAdd ?_ | refine bSub ?_ | refine uNeg ?_ | refine cLt ?_ | refine cLe ?_ | refine cGt ?_ | refine cGe ?_ | refine cEq (by rfl) ?_ | refine cNe (by rfl) ?_
  | refine fInt ?_ | refine fAbs ?_
  | refine kIsascii ?_ | refine kIsalnum ?_ | refine kIsalpha ?_ | refine kIslower ?_
  | refine ⟨rfl, mIsascii ?_⟩ | refine ⟨rfl, mIsalnum ?_⟩ | refine ⟨rfl, mIsalpha ?_⟩ | refine ⟨rfl, mIslower ?_⟩
  | refine gsNil ?_ | refine gsCons ?_ | (first | refine gNm 0 (by rfl) ?_ (by assumption) (by first | exact Or.inl rfl | exact Or.inr rfl) (by first | exact Or.inl rfl | exact Or.inr rfl) | refine gNm 1 (by rfl) ?_ (by assumption) (by first | exact Or.inl rfl | exact Or.inr rfl) (by first | exact Or.inl rfl | exact Or.inr rfl) | refine gNm 2 (by rfl) ?_ (by assumption) (by first | exact Or.inl rfl | exact Or.inr rfl) (by first | exact Or.inl rfl | exact Or.inr rfl) | refine gNm 3 (by rfl) ?_ (by assumption) (by first | exact Or.inl rfl | exact Or.inr rfl) (by first | exact Or.inl rfl | exact Or.inr rfl) | refine gNm 4 (by rfl) ?_ (by assumption) (by first | exact Or.inl rfl | exact Or.inr rfl) (by first | exact Or.inl rfl | exact Or.inr rfl) | refine gNm 5 (by rfl) ?_ (by assumption) (by first | exact Or.inl rfl | exact Or.inr rfl) (by first | exact Or.inl rfl | exact Or.inr rfl) | refine gNm 6 (by rfl) ?_ (by assumption) (by first | exact Or.inl rfl | exact Or.inr rfl) (by first | exact Or.inl rfl | exact Or.inr rfl) | refine gNm 7 (by rfl) ?_ (by assumption) (by first | exact Or.inl rfl | exact Or.inr rfl) (by first | exact Or.inl rfl | exact Or.inr rfl) | refine gNm 8 (by rfl) ?_ (by assumption) (by first | exact Or.inl rfl | exact Or.inr rfl) (by first | exact Or.inl rfl | exact Or.inr rfl)))
def isLet (c : Nat) : Bool := decide (97 ≤ c) && decide (c ≤ 122)
def isDig (c : Nat) : Bool := decide (48 ≤ c) && decide (c ≤ 57)
def strAtom (s : Str) : Bool := decide (1 ≤ s.length) && decide (s.length ≤ 12) && ((s.cps.toList.head?.map isLet).getD false && s.cps.toList.all fun c => isLet c || isDig c)
abbrev sDraw : Stmt := topS 7
theorem scDraw : FnScope ["stream", "many", "value"] ["stream", "many"] (defScope sDraw) := ⟨rfl, rfl, rfl, by decide +kernel, rfl, by decide +kernel, by decide +kernel⟩
section
variable {P : Program} {w : World} {K : PySem.W.Frag} {mg : Str → Option Value} {base : Heap}
def spDraw (K : PySem.W.Frag) : Sp := fun vs H Q _ => ∃ (sa la : Addr) (ns : List Int) (many : Int), vs = [.ref sa, .int many] ∧ Strm K H sa la ns ∧ 0 < many ∧ many < 1073741824 ∧ ∀ (H' : Hp) (r : Int), Ext sa H H' → Strm K H' sa la ns → 0 ≤ r → r < many → Q (.int r) H'
theorem ok_draw {f : Addr} {fd : FuncData} (F : Fun K "_law_draw" "_law_draw" sDraw f fd) (hm : mg "_law_draw" = some (.ref f)) (bd : Binds K fd ["stream", "many"] []) (mabs : mg "abs" = none) (mint : mg "int" = none) (mlen : mg "len" = none) : Cl P w K mg base 1 "_law_draw" (spDraw K) := by
  refine cl_mk (sc := ?sc) (body := ?body) F hm bd scDraw ?hsc ?hb (fun vs H Q E h => ?_) (fun cdv A outer s H vs Q E hr nd h => ?_)
  case hsc =>
    conv => lhs; whnf
  case hb =>
    conv => lhs; whnf
  · obtain ⟨sa, la, ns, many, rfl, _⟩ := h
    rfl
  · obtain ⟨sa, la, ns, many, rfl, S, m0, m1, q⟩ := h
    obtain ⟨a, b, c, e1, e2, a0, c0, c1, nl⟩ := S.ex
    refine sCut (fun σ' H' => σ' = start ["stream", "many", "value"] [V.ref sa, V.int many] ∧ Ext sa H H' ∧ Strm K H' sa la ns) ?_ ?_
    · have e2' : SqL K H la (ns.map V.int) := seq_mono (cut_same _ _) e2
      repeat none_booked
      refine xL (SqL.of e1) (by rfl) ?_
      repeat none_booked
      refine ⟨_, rfl, ?_⟩
      refine ite2' (fun h => ?_) (fun h => ?_)
      · repeat none_booked
        refine xL (SqL.of e1) (by rfl) ?_
        repeat none_booked
        refine xL (SqL.of e1) (by rfl) ?_
        repeat none_booked
        refine fLenL e2' ?_
        repeat none_booked
        refine ⟨_, rfl, ?_⟩
        refine ite2' (fun h => ?_) (fun h => ?_)
        · repeat none_booked
          refine sAsg ?_
          repeat none_booked
          refine xL (SqL.of e1) (by rfl) ?_
          repeat none_booked
          refine xL (SqL.of e1) (by rfl) ?_
          have hb : b < ns.length := by
            rw [List.length_map] at h
            omega
          refine xL e2' (atI_nat (j := b) (by rw [List.getElem?_map, List.getElem?_eq_getElem hb]; rfl)) ?_
          repeat none_booked
          refine gSub ?_
          repeat none_booked
          refine ptL' e1 (by rfl) (fun H1 g1 k1 => ?_)
          repeat none_booked
          refine sAsg ?_
          repeat none_booked
          refine xL (SqL.of g1) (by rfl) ?_
          repeat none_booked
          refine gSub ?_
          repeat none_booked
          refine ptL' g1 (by rfl) (fun H2 g2 k2 => ?_)
          repeat none_booked
          have k3 : cut [sa] H2 = cut [sa] H := k2.trans k1
          refine ⟨rfl, by unfold Ext; rw [k3]; exact Same.refl _, _, b + 1, c, g2, by rw [k3]; exact e2, ?_, c0, c1, nl⟩
          split <;> omega
        · repeat none_booked
          exact ⟨rfl, Ext.refl _ _, S⟩
      · rw [if_neg Bool.false_ne_true]
        repeat none_booked
        exact ⟨rfl, Ext.refl _ _, S⟩
    · rintro σ' H1 ⟨rfl, x1, S1⟩
      obtain ⟨a, b, c, e1, e2, a0, c0, c1, nl⟩ := S1.ex
      repeat none_booked
      refine xL (SqL.of e1) (by rfl) ?_
      repeat none_booked
      refine ⟨_, rfl, ?_⟩
      refine ite2' (fun h => ?_) (fun h => ?_)
      · repeat none_booked
        refine sAsg ?_
        repeat none_booked
        refine xL (SqL.of e1) (by rfl) ?_
        repeat none_booked
        refine bMul (.inl ⟨by omega, by omega⟩) ?_
        repeat none_booked
        refine bMod (by decide) ?_
        refine gSub ?_
        repeat none_booked
        refine ptL' e1 (by rfl) (fun H2 g2 k2 => ?_)
        repeat none_booked
        refine xL (SqL.of g2) (by rfl) ?_
        repeat none_booked
        refine bDiv ⟨by decide, by decide⟩ ?_
        repeat none_booked
        refine bMod m0 ?_
        refine q _ _ (x1.trans (by unfold Ext; rw [k2]; exact Same.refl _)) ⟨a, b, _, g2, by rw [k2]; exact e2, a0, by omega, by omega, nl⟩ (Int.emod_nonneg _ (by omega)) (Int.emod_lt_of_pos _ m0)
      · repeat none_booked
        repeat none_booked
        refine xL (SqL.of e1) (by rfl) ?_
        repeat none_booked
        refine bMod m0 ?_
        repeat none_booked
        refine sAsg ?_
        repeat none_booked
        refine xL (SqL.of e1) (by rfl) ?_
        repeat none_booked
        refine bDiv ⟨m0, m1⟩ ?_
        refine gSub ?_
        repeat none_booked
        refine ptL' e1 (by rfl) (fun H2 g2 k2 => ?_)
        repeat none_booked
        refine q _ _ (x1.trans (by unfold Ext; rw [k2]; exact Same.refl _)) ⟨_, b, c, g2, by rw [k2]; exact e2, Int.ediv_nonneg a0 (by omega), c0, c1, nl⟩ (Int.emod_nonneg _ (by omega)) (Int.emod_lt_of_pos _ m0)
abbrev sStream : Stmt := topS 6
abbrev sFar : Stmt := topS 8
abbrev sLaAtom : Stmt := topS 9
theorem scStream : FnScope ["script", "mixed", "cell"] ["script"] (defScope sStream) := ⟨rfl, rfl, rfl, by decide +kernel, rfl, by decide +kernel, by decide +kernel⟩
theorem scFar : FnScope ["stream"] ["stream"] (defScope sFar) := ⟨rfl, rfl, rfl, by decide +kernel, rfl, by decide +kernel, by decide +kernel⟩
theorem scLaAtom : FnScope ["stream", "atom", "k"] ["stream"] (defScope sLaAtom) := ⟨rfl, rfl, rfl, by decide +kernel, rfl, by decide +kernel, by decide +kernel⟩
def spStream (K : PySem.W.Frag) : Sp := fun vs H Q _ => ∃ (a : Addr) (ns : List Int), vs = [.ref a] ∧ SqL K H a (ns.map V.int) ∧ ns.length ≤ 63 ∧ ∀ (H' : Hp) (sa la : Addr), H sa = none → Same H H' → Strm K H' sa la ns → Q (.ref sa) H'
theorem ok_stream {f : Addr} {fd : FuncData} (F : Fun K "_law_stream" "_law_stream" sStream f fd) (hm : mg "_law_stream" = some (.ref f)) (bd : Binds K fd ["script"] []) (mint : mg "int" = none) (mlist : mg "list" = none) : Cl P w K mg base 1 "_law_stream" (spStream K) := by
  refine cl_mk (sc := ?sc) (body := ?body) F hm bd scStream ?hsc ?hb (fun vs H Q E h => ?_) (fun cdv A outer s H vs Q E hr nd h => ?_)
  case hsc => conv => lhs; whnf
  case hb => conv => lhs; whnf
  · obtain ⟨a, ns, rfl, _⟩ := h
    rfl
  · obtain ⟨a, ns, rfl, hS, hl, q⟩ := h
    repeat none_booked
    refine sForL ?_
    repeat none_booked
    refine ⟨a, ns.map V.int, rfl, hS, fun i σ' H' => ∃ m c, σ' = [some (.ref a), some (.int m), c] ∧ H' = H ∧ 0 ≤ m ∧ m < 2147483647, ⟨17, none, rfl, rfl, by omega, by omega⟩, fun i σ' H' _ p => ?_, fun i x σ' H' hx p => ?_, fun σ' H' p => ?_⟩
    · obtain ⟨_, _, _, rfl, _⟩ := p
      exact hS
    · obtain ⟨m, c, rfl, rfl, m0, m1⟩ := p
      obtain ⟨z, rfl⟩ : ∃ z, x = .int z := by
        rw [List.getElem?_map] at hx
        cases e : ns[i]? with
        | none => rw [e] at hx; cases hx
        | some z => rw [e] at hx; exact ⟨z, (Option.some.inj hx).symm⟩
      repeat none_booked
      refine bMul (.inl ⟨by omega, by omega⟩) ?_
      repeat none_booked
      refine bMod (by decide) ?_
      repeat none_booked
      refine bMod (by decide) ?_
      repeat none_booked
      exact ⟨_, _, rfl, rfl, Int.emod_nonneg _ (by omega), Int.emod_lt_of_pos _ (by omega)⟩
    · obtain ⟨m, c, rfl, rfl, m0, m1⟩ := p
      repeat none_booked
      refine fListL hS (fun l hl2 => ?_)
      repeat none_booked
      refine ⟨by show 4 ≤ sizeLine; decide, fun p hp => ?_⟩
      have s1 : Same H' (upd H' l (.lst (ns.map V.int))) := same_new hl2
      have s2 := s1.trans (same_new (o := .lst [.ref l, .int 0, .int 0, .int m]) hp)
      refine q _ p l (s1.free hp) s2 ⟨0, 0, m, upd_same, .inl (.inl (cut_get ?_ ?_)), by omega, m0, m1, by omega⟩
      · intro z
        have e : l = p := by simpa using z
        rw [e, ← e, upd_same] at hp
        cases hp
      · rw [upd_ne fun e => by rw [← e, upd_same] at hp; cases hp]
        exact upd_same
def spFar (K : PySem.W.Frag) : Sp := fun vs H Q _ => ∃ (sa la : Addr) (ns : List Int), vs = [.ref sa] ∧ Strm K H sa la ns ∧ ∀ (H' : Hp) (r : Int), Ext sa H H' → Strm K H' sa la ns → 0 ≤ r → r ≤ 1000000000 → Q (.int r) H'
theorem ok_far {f : Addr} {fd : FuncData} (F : Fun K "_law_far" "_law_far" sFar f fd) (hm : mg "_law_far" = some (.ref f)) (bd : Binds K fd ["stream"] []) (c1 : Cl P w K mg base 1 "_law_draw" (spDraw K)) : Cl P w K mg base 2 "_law_far" (spFar K) := by
  refine cl_mk (sc := ?sc) (body := ?body) F hm bd scFar ?hsc ?hb (fun vs H Q E h => ?_) (fun cdv A outer s H vs Q E hr nd h => ?_)
  case hsc => conv => lhs; whnf
  case hb => conv => lhs; whnf
  · obtain ⟨sa, la, ns, rfl, _⟩ := h
    rfl
  · obtain ⟨sa, la, ns, rfl, S, q⟩ := h
    repeat none_booked
    refine ⟨sa, la, ns, 4, rfl, S, by decide, by decide, fun H1 r x1 S1 r0 r1 => ?_⟩
    repeat none_booked
    refine ⟨_, rfl, ?_⟩
    refine ite2' (fun h => ?_) (fun h => ?_)
    · repeat none_booked
      exact ⟨sa, la, ns, 3, rfl, S1, by decide, by decide, fun H2 r x2 S2 r0 r1 => q _ _ (x1.trans x2) S2 r0 (by omega)⟩
    · repeat none_booked
      refine bPow ⟨by decide, by decide, by decide⟩ ?_
      repeat none_booked
      refine bPow ⟨by decide, by decide, by decide⟩ ?_
      repeat none_booked
      refine ⟨sa, la, ns, _, rfl, S1, by decide, by decide, fun H2 r2 x2 S2 r20 r21 => ?_⟩
      repeat none_booked
      refine ⟨by show 4 ≤ sizeLine; decide, fun p hp => ?_⟩
      have n1 := S2.ne hp
      repeat none_booked
      refine ⟨sa, la, ns, 4, rfl, S2.same (same_new hp), by decide, by decide, fun H3 r3 x3 S3 r30 r31 => ?_⟩
      have g := x3.get n1 upd_same
      have xx : Ext sa H H3 := (x1.trans x2).trans ((Ext.of (same_new hp)).trans x3)
      have cs : r3 = 0 ∨ r3 = 1 ∨ r3 = 2 ∨ r3 = 3 := by omega
      have r21' : r2 < 1000000000 := r21
      rcases cs with rfl | rfl | rfl | rfl
      · exact xL (SqL.of g) (atI_nat (j := 0) rfl) (q _ _ xx S3 (by decide) (by decide))
      · exact xL (SqL.of g) (atI_nat (j := 1) rfl) (q _ _ xx S3 (by decide) (by decide))
      · exact xL (SqL.of g) (atI_nat (j := 2) rfl) (q _ _ xx S3 (by decide) (by decide))
      · exact xL (SqL.of g) (atI_nat (j := 3) rfl) (q _ _ xx S3 r20 (by omega))
theorem atom_push {z : Str} {c : Nat} (h : strAtom z = true) (hl : z.length ≤ 11) (hc : (isLet c || isDig c) = true) : strAtom (z ++ (⟨#[c]⟩ : Str)) = true := by
  have e : (z ++ (⟨#[c]⟩ : Str)).cps.toList = z.cps.toList ++ [c] := by
    show (z.cps ++ #[c]).toList = _
    simp
  have el : (z ++ (⟨#[c]⟩ : Str)).length = z.length + 1 := by
    show (z.cps ++ #[c]).size = _
    simp [Str.length]
  unfold strAtom at h ⊢
  rw [e, el]
  simp only [Bool.and_eq_true, decide_eq_true_eq, List.all_append] at h ⊢
  obtain ⟨⟨h1, h2⟩, h3, h4⟩ := h
  refine ⟨⟨by omega, by omega⟩, ?_, h4, by simp [hc]⟩
  cases hz : z.cps.toList with
  | nil =>
    have : z.length = 0 := by show z.cps.size = 0; rw [← Array.length_toList, hz]; rfl
    omega
  | cons a r => rw [hz] at h3; exact h3
def spLaAtom (K : PySem.W.Frag) : Sp := fun vs H Q _ => ∃ (sa la : Addr) (ns : List Int), vs = [.ref sa] ∧ Strm K H sa la ns ∧ ∀ (H' : Hp) (z : Str), Ext sa H H' → Strm K H' sa la ns → strAtom z = true → Q (.str z) H'
theorem ok_laatom {f : Addr} {fd : FuncData} (F : Fun K "_law_atom" "_law_atom" sLaAtom f fd) (hm : mg "_law_atom" = some (.ref f)) (bd : Binds K fd ["stream"] []) (c1 : Cl P w K mg base 1 "_law_draw" (spDraw K)) (mr : mg "range" = none) : Cl P w K mg base 2 "_law_atom" (spLaAtom K) := by
  refine cl_mk (sc := ?sc) (body := ?body) F hm bd scLaAtom ?hsc ?hb (fun vs H Q E h => ?_) (fun cdv A outer s H vs Q E hr nd h => ?_)
  case hsc => conv => lhs; whnf
  case hb => conv => lhs; whnf
  · obtain ⟨sa, la, ns, rfl, _⟩ := h
    rfl
  · obtain ⟨sa, la, ns, rfl, S, q⟩ := h
    repeat none_booked
    refine ⟨sa, la, ns, 3, rfl, S, by decide, by decide, fun H1 r x1 S1 r0 r1 => ?_⟩
    repeat none_booked
    refine ⟨_, rfl, ?_⟩
    refine ite2' (fun h => ?_) (fun h => ?_)
    · repeat none_booked
      refine ⟨by show 8 ≤ sizeLine; decide, fun p hp => ?_⟩
      have n1 := S1.ne hp
      repeat none_booked
      refine ⟨sa, la, ns, 8, rfl, S1.same (same_new hp), by decide, by decide, fun H3 r3 x3 S3 r30 r31 => ?_⟩
      have g := x3.get n1 upd_same
      have xx : Ext sa H H3 := x1.trans ((Ext.of (same_new hp)).trans x3)
      have cs : r3 = 0 ∨ r3 = 1 ∨ r3 = 2 ∨ r3 = 3 ∨ r3 = 4 ∨ r3 = 5 ∨ r3 = 6 ∨ r3 = 7 := by omega
      rcases cs with rfl | rfl | rfl | rfl | rfl | rfl | rfl | rfl
      · exact xL (SqL.of g) (atI_nat (j := 0) rfl) (q _ _ xx S3 (by decide +kernel))
      · exact xL (SqL.of g) (atI_nat (j := 1) rfl) (q _ _ xx S3 (by decide +kernel))
      · exact xL (SqL.of g) (atI_nat (j := 2) rfl) (q _ _ xx S3 (by decide +kernel))
      · exact xL (SqL.of g) (atI_nat (j := 3) rfl) (q _ _ xx S3 (by decide +kernel))
      · exact xL (SqL.of g) (atI_nat (j := 4) rfl) (q _ _ xx S3 (by decide +kernel))
      · exact xL (SqL.of g) (atI_nat (j := 5) rfl) (q _ _ xx S3 (by decide +kernel))
      · exact xL (SqL.of g) (atI_nat (j := 6) rfl) (q _ _ xx S3 (by decide +kernel))
      · exact xL (SqL.of g) (atI_nat (j := 7) rfl) (q _ _ xx S3 (by decide +kernel))
    · repeat none_booked
      refine ⟨sa, la, ns, 3, rfl, S1, by decide, by decide, fun H2 r2 x2 S2 r20 r21 => ?_⟩
      obtain ⟨c0, hc0, hat0⟩ : ∃ c, atI (Str.ofString "abz").cps.toList r2 = some c ∧ strAtom ⟨#[c]⟩ = true := by
        have cs : r2 = 0 ∨ r2 = 1 ∨ r2 = 2 := by omega
        rcases cs with rfl | rfl | rfl
        · exact ⟨97, by decide +kernel, by decide +kernel⟩
        · exact ⟨98, by decide +kernel, by decide +kernel⟩
        · exact ⟨122, by decide +kernel, by decide +kernel⟩
      refine xS (cc := c0) (le_line (by decide +kernel)) hc0 ?_
      repeat none_booked
      refine sForR mr ?_
      repeat none_booked
      refine ⟨sa, la, ns, 3, rfl, S2, by decide, by decide, fun H3 r3 x3 S3 r30 r31 => ?_⟩
      repeat none_booked
      have xx : Ext sa H H3 := (x1.trans x2).trans x3
      refine ⟨r3, rfl, r30, by omega, fun i σ' H' => ∃ z y, σ' = [some (.ref sa), some (.str z), y] ∧ strAtom z = true ∧ z.length = 1 + i ∧ Ext sa H H' ∧ Strm K H' sa la ns, ⟨_, none, rfl, hat0, rfl, xx, S3⟩, fun i σ' H' hi p => ?_, fun σ' H' p => ?_⟩
      · obtain ⟨z, y, rfl, hz, hzl, x4, S4⟩ := p
        repeat none_booked
        refine ⟨sa, la, ns, 6, rfl, S4, by decide, by decide, fun H5 r5 x5 S5 r50 r51 => ?_⟩
        obtain ⟨c5, hc5, hat5⟩ : ∃ c, atI (Str.ofString "abz019").cps.toList r5 = some c ∧ (isLet c || isDig c) = true := by
          have cs : r5 = 0 ∨ r5 = 1 ∨ r5 = 2 ∨ r5 = 3 ∨ r5 = 4 ∨ r5 = 5 := by omega
          rcases cs with rfl | rfl | rfl | rfl | rfl | rfl
          · exact ⟨97, by decide +kernel, by decide +kernel⟩
          · exact ⟨98, by decide +kernel, by decide +kernel⟩
          · exact ⟨122, by decide +kernel, by decide +kernel⟩
          · exact ⟨48, by decide +kernel, by decide +kernel⟩
          · exact ⟨49, by decide +kernel, by decide +kernel⟩
          · exact ⟨57, by decide +kernel, by decide +kernel⟩
        refine xS (cc := c5) (le_line (by decide +kernel)) hc5 ?_
        refine bAddS (le_line (by rw [hzl]; show 1 + i + 1 ≤ 100000; omega)) ?_
        repeat none_booked
        refine ⟨_, _, rfl, atom_push hz (by omega) hat5, ?_, x4.trans x5, S5⟩
        show (z.cps ++ #[c5]).size = _
        have : z.cps.size = 1 + i := hzl
        simp [this]
        omega
      · obtain ⟨z, y, rfl, hz, hzl, x4, S4⟩ := p
        repeat none_booked
        exact q _ _ x4 S4 hz
end
end K4

namespace K4
open PySem PySem.Spec PyProof.Rows L2 Wk
local macro_rules | `(tactic| none_booked) => `(tactic| first
  | refine eInt ?_ | refine eStr ?_ | (refine eNm ?_; first | refine nAt 0 (by rfl) (by rfl) (by first | exact Or.inl rfl | exact Or.inr (Or.inl rfl) | exact Or.inr (Or.inr rfl)) (by rfl) (by rfl) ?_ | refine nAt 1 (by rfl) (by rfl) (by first | exact Or.inl rfl | exact Or.inr (Or.inl rfl) | exact Or.inr (Or.inr rfl)) (by rfl) (by rfl) ?_ | refine nAt 2 (by rfl) (by rfl) (by first | exact Or.inl rfl | exact Or.inr (Or.inl rfl) | exact Or.inr (Or.inr rfl)) (by rfl) (by rfl) ?_ | refine nAt 3 (by rfl) (by rfl) (by first | exact Or.inl rfl | exact Or.inr (Or.inl rfl) | exact Or.inr (Or.inr rfl)) (by rfl) (by rfl) ?_ | refine nAt 4 (by rfl) (by rfl) (by first | exact Or.inl rfl | exact Or.inr (Or.inl rfl) | exact Or.inr (Or.inr rfl)) (by rfl) (by rfl) ?_ | refine nAt 5 (by rfl) (by rfl) (by first | exact Or.inl rfl | exact Or.inr (Or.inl rfl) | exact Or.inr (Or.inr rfl)) (by rfl) (by rfl) ?_ | refine nAt 6 (by rfl) (by rfl) (by first | exact Or.inl rfl | exact Or.inr (Or.inl rfl) | exact Or.inr (Or.inr rfl)) (by rfl) (by rfl) ?_ | refine nAt 7 (by rfl) (by rfl) (by first | exact Or.inl rfl | exact Or.inr (Or.inl rfl) | exact Or.inr (Or.inr rfl)) (by rfl) (by rfl) ?_ | refine nAt 8 (by rfl) (by rfl) (by first | exact Or.inl rfl | exact Or.inr (Or.inl rfl) | exact Or.inr (Or.inr rfl)) (by rfl) (by rfl) ?_) | refine sCons ?_ | refine sNil ?_ | refine sIf ?_ | refine sRet ?_ | (refine sStore ?_; first | refine stAt 0 (by rfl) ?_ (by assumption) (by first | exact Or.inl rfl | exact Or.inr rfl) (by rfl) (by first | exact Or.inl rfl | exact Or.inr rfl) | refine stAt 1 (by rfl) ?_ (by assumption) (by first | exact Or.inl rfl | exact Or.inr rfl) (by rfl) (by first | exact Or.inl rfl | exact Or.inr rfl) | refine stAt 2 (by rfl) ?_ (by assumption) (by first | exact Or.inl rfl | exact Or.inr rfl) (by rfl) (by first | exact Or.inl rfl | exact Or.inr rfl) | refine stAt 3 (by rfl) ?_ (by assumption) (by first | exact Or.inl rfl | exact Or.inr rfl) (by rfl) (by first | exact Or.inl rfl | exact Or.inr rfl) | refine stAt 4 (by rfl) ?_ (by assumption) (by first | exact Or.inl rfl | exact Or.inr rfl) (by rfl) (by first | exact Or.inl rfl | exact Or.inr rfl) | refine stAt 5 (by rfl) ?_ (by assumption) (by first | exact Or.inl rfl | exact Or.inr rfl) (by rfl) (by first | exact Or.inl rfl | exact Or.inr rfl) | refine stAt 6 (by rfl) ?_ (by assumption) (by first | exact Or.inl rfl | exact Or.inr rfl) (by rfl) (by first | exact Or.inl rfl | exact Or.inr rfl) | refine stAt 7 (by rfl) ?_ (by assumption) (by first | exact Or.inl rfl | exact Or.inr rfl) (by rfl) (by first | exact Or.inl rfl | exact Or.inr rfl) | refine stAt 8 (by rfl) ?_ (by assumption) (by first | exact Or.inl rfl | exact Or.inr rfl) (by rfl) (by first | exact Or.inl rfl | exact Or.inr rfl)) | refine sExpr ?_
  | refine aNil ?_ | refine aCons ?_ | refine eBl ?_ | refine eNon ?_ | refine eBin ?_ | refine eCmp ?_ | refine eIx ?_ | refine eTup ?_ | refine eLst ?_ | refine eChain ?_
  | refine eSl ?_ | refine oNone ?_ | refine oSome ?_ | refine eNot ?_ | refine eUn ?_ | refine eAnd ?_ | refine eOr ?_ | refine eOne ?_ | refine eIf ?_
  | refine tCmp ?_ | refine tChain ?_ | refine tNot ?_ | refine pAnd1 ?_ | refine pOr1 ?_ | refine pAnd ?_ | refine pOr ?_
  | refine kLen (by assumption) ?_ | refine kAbs (by assumption) ?_ | refine kInt (by assumption) ?_ | refine kList (by assumption) ?_ | refine kTuple (by assumption) ?_ | refine kAll (by assumption) ?_ | refine kIsi (by assumption) ?_
  | refine tyInt (by assumption) ?_ | refine tyBool (by assumption) ?_ | refine tyStr (by assumption) ?_ | refine tyTuple (by assumption) ?_ | refine tyList (by assumption) ?_
  | refine eCall (by assumption) (by assumption) (by decide) ?_ | refine eGlobI (by assumption) ?_
  | refine tPb ?_
  | refine bAdd ?_ | refine bSub ?_ | refine uNeg ?_ | refine cLt ?_ | refine cLe ?_ | refine cGt ?_ | refine cGe ?_ | refine cEq (by rfl) ?_ | refine cNe (by rfl) ?_
  | refine fInt ?_ | refine fAbs ?_
  | refine kIsascii ?_ | refine kIsalnum ?_ | refine kIsalpha ?_ | refine kIslower ?_
  | refine ⟨rfl, mIsascii ?_⟩ | refine ⟨rfl, mIsalnum ?_⟩ | refine ⟨rfl, mIsalpha ?_⟩ | refine ⟨rfl, mIslower ?_⟩
  | refine gsNil ?_ | refine gsCons ?_ | (first | refine gNm 0 (by rfl) ?_ (by assumption) (by first | exact Or.inl rfl | exact Or.inr rfl) (by first | exact Or.inl rfl | exact Or.inr rfl) | refine gNm 1 (by rfl) ?_ (by assumption) (by first | exact Or.inl rfl | exact Or.inr rfl) (by first | exact Or.inl rfl | exact Or.inr rfl) | refine gNm 2 (by rfl) ?_ (by assumption) (by first | exact Or.inl rfl | exact Or.inr rfl) (by first | exact Or.inl rfl | exact Or.inr rfl) | refine gNm 3 (by rfl) ?_ (by assumption) (by first | exact Or.inl rfl | exact Or.inr rfl) (by first | exact Or.inl rfl | exact Or.inr rfl) | refine gNm 4 (by rfl) ?_ (by assumption) (by first | exact Or.inl rfl | exact Or.inr rfl) (by first | exact Or.inl rfl | exact Or.inr rfl) | refine gNm 5 (by rfl) ?_ (by assumption) (by first | exact Or.inl rfl | exact Or.inr rfl) (by first | exact Or.inl rfl | exact Or.inr rfl) | refine gNm 6 (by rfl) ?_ (by assumption) (by first | exact Or.inl rfl | exact Or.inr rfl) (by first | exact Or.inl rfl | exact Or.inr rfl) | refine gNm 7 (by rfl) ?_ (by assumption) (by first | exact Or.inl rfl | exact Or.inr rfl) (by first | exact Or.inl rfl | exact Or.inr rfl) | refine gNm 8 (by rfl) ?_ (by assumption) (by first | exact Or.inl rfl | exact Or.inr rfl) (by first | exact Or.inl rfl | exact Or.inr rfl)))
/-! ### data without lists -/
def tupN : Nat → PyData → Bool
  | _, .none => true
  | _, .bool _ => true
  | _, .int _ => true
  | _, .str z => decide (z.length ≤ 1000) && PySem.PyData.strOk z
  | n + 1, .tuple ds => decide (ds.length ≤ 1000) && ds.all (tupN n)
  | _, _ => false
theorem seqT_avoid {K : PySem.W.Frag} {H : Hp} {L a : Addr} {xs ys : List V} (hL : H L = some (.lst xs)) (h : SqT K H a ys) : SqT K (cut [L] H) a ys := by
  have hn : ∀ o, H a = some o → o ≠ .lst xs → a ∉ [L] := fun o ho hne z => by
    have e : a = L := by simpa using z
    rw [e, hL] at ho
    exact hne (Option.some.inj ho).symm
  rcases h with (h | ⟨o, h⟩) | h
  · exact .inl (.inl (cut_get (hn _ h fun z => nomatch z) h))
  · exact .inl (.inr ⟨o, cut_get (hn _ h fun z => nomatch z) h⟩)
  · exact .inr h
theorem dp_avoid {K : PySem.W.Frag} {H : Hp} {L : Addr} {xs : List V} (hL : H L = some (.lst xs)) : ∀ (n : Nat) (d : PyData) (v : V), tupN n d = true → Dp K H v d → Dp K (cut [L] H) v d
  | _, .none, _, _, .non => .non
  | _, .bool _, _, _, .bl b => .bl b
  | _, .int _, _, _, .int b => .int b
  | _, .str _, _, _, .str b => .str b
  | 0, .list _, _, h, _ => nomatch h
  | _ + 1, .list _, _, h, _ => nomatch h
  | 0, .tuple _, _, h, _ => nomatch h
  | n + 1, .tuple ds, _, h, .tup hs ha => by
    have h' : (decide (ds.length ≤ 1000) && ds.all (tupN n)) = true := h
    rw [Bool.and_eq_true, List.all_eq_true] at h'
    refine .tup (seqT_avoid hL hs) ?_
    have key : ∀ (l : List PyData) (vs : List V), (∀ x ∈ l, tupN n x = true) → DpAll K H vs l → DpAll K (cut [L] H) vs l := by
      intro l
      induction l with
      | nil => intro vs _ h; cases h; exact .nil
      | cons a r ih =>
        intro vs hl h
        cases h with
        | cons h1 h2 => exact .cons (dp_avoid hL n a _ (hl a (by simp)) h1) (ih _ (fun x hx => hl x (by simp [hx])) h2)
    exact key ds _ h'.2 ha
theorem cut_cut (a b : Addr) (H : Hp) : cut [a] (cut [b] H) = cut [a, b] H := by
  funext c
  unfold cut
  by_cases h1 : c = a
  · subst h1; simp
  · by_cases h2 : c = b
    · subst h2; simp
    · simp [h1, h2]
theorem dpAll_push {K : PySem.W.Frag} {H : Hp} : ∀ {vs : List V} {ds : List PyData} {v : V} {d : PyData}, DpAll K H vs ds → Dp K H v d → DpAll K H (vs ++ [v]) (ds ++ [d])
  | _, _, _, _, .nil, h => .cons h .nil
  | _, _, _, _, .cons h r, h2 => .cons h (dpAll_push r h2)
theorem dp_new {K : PySem.W.Frag} {H : Hp} {as : List Addr} {p : Addr} {vs : List V} {ds : List PyData} (hp : H p = none) (hn : p ∉ as) (h : DpAll K (cut as H) vs ds) : Dp K (cut as (upd H p (.tup vs))) (.ref p) (.tuple ds) :=
  .tup (SqT.of (cut_get hn upd_same)) (dpAll_mono (Same.cut (same_new hp)) h)
theorem not_mem1 {p a : Addr} (h : p ≠ a) : p ∉ [a] := by simpa using h
theorem atom_lay {z : Str} (h : strAtom z = true) : (decide (z.length ≤ 1000) && PySem.PyData.strOk z) = true := by
  unfold strAtom at h
  simp only [Bool.and_eq_true, decide_eq_true_eq, List.all_eq_true] at h
  obtain ⟨⟨_, h2⟩, _, h4⟩ := h
  rw [decide_eq_true (show z.length ≤ 1000 by omega), Bool.true_and]
  unfold PySem.PyData.strOk
  rw [← Array.all_toList, List.all_eq_true]
  intro c hc
  have := h4 c hc
  unfold isLet isDig at this
  simp only [Bool.or_eq_true, Bool.and_eq_true, decide_eq_true_eq] at this
  exact decide_eq_true (by omega)
theorem tup_two {a b : PyData} (ha : tupN 2 a = true) (hb : tupN 2 b = true) : tupN 3 (.tuple [a, b]) = true := by
  show (decide _ && (tupN 2 a && (tupN 2 b && true))) = true
  rw [ha, hb]; rfl
theorem tup_three {a b c : PyData} (ha : tupN 2 a = true) (hb : tupN 2 b = true) (hc : tupN 2 c = true) : tupN 3 (.tuple [a, b, c]) = true := by
  show (decide _ && (tupN 2 a && (tupN 2 b && (tupN 2 c && true)))) = true
  rw [ha, hb, hc]; rfl
theorem atom_ok {z : Str} (h : strAtom z = true) : PyData.strOk z = true := (Bool.and_eq_true_iff.mp (atom_lay h)).2
structure NdOk (many : Int) (a : Nd) : Prop where
  fine : a.fine = true
  six : a.parts.length ≤ 6
  low : ∀ k ∈ a.parts, (k : Int) < many
  tup : tupN 3 a.data = true
theorem nums_int {many : Int} : ∀ {rs : List Int}, (∀ r ∈ rs, 0 ≤ r ∧ r < many) → rs.map V.int = nums (rs.map Int.toNat) ∧ ∀ k ∈ rs.map Int.toNat, (k : Int) < many
  | [], _ => ⟨rfl, fun k h => by cases h⟩
  | r :: rs, h => by
    obtain ⟨h1, h2⟩ := nums_int (rs := rs) fun x hx => h x (List.mem_cons_of_mem _ hx)
    have hr := h r List.mem_cons_self
    refine ⟨?_, fun k hk => ?_⟩
    · show V.int r :: rs.map V.int = V.int ((r.toNat : Nat) : Int) :: nums (rs.map Int.toNat)
      rw [h1, Int.toNat_of_nonneg hr.1]
    · rcases List.mem_cons.mp hk with e | hk
      · rw [e, Int.toNat_of_nonneg hr.1]
        exact hr.2
      · exact h2 k hk
abbrev sLaNode : Stmt := topS 10
abbrev sLaGraph : Stmt := topS 11
theorem scLaNode : FnScope ["stream", "many", "pick", "number", "parts", "label", "k"] ["stream", "many"] (defScope sLaNode) := ⟨rfl, rfl, rfl, by decide +kernel, rfl, by decide +kernel, by decide +kernel⟩
theorem scLaGraph : FnScope ["stream", "most", "many", "k"] ["stream", "most"] (defScope sLaGraph) := ⟨rfl, rfl, rfl, by decide +kernel, rfl, by decide +kernel, by decide +kernel⟩
section
variable {P : Program} {w : World} {K : PySem.W.Frag} {mg : Str → Option Value} {base : Heap}
def spLaNode (K : PySem.W.Frag) : Sp := fun vs H Q _ => ∃ (sa la : Addr) (ns : List Int) (many : Int), vs = [.ref sa, .int many] ∧ Strm K H sa la ns ∧ 1 ≤ many ∧ many ≤ 1000 ∧ ∀ (H' : Hp) (v : V) (a : Nd), Ext sa H H' → Strm K H' sa la ns → Dp K (cut [sa] H') v a.data → NdOk many a → Q v H'
theorem ok_lanode {f : Addr} {fd : FuncData} (F : Fun K "_law_node" "_law_node" sLaNode f fd) (hm : mg "_law_node" = some (.ref f)) (bd : Binds K fd ["stream", "many"] []) (c1 : Cl P w K mg base 1 "_law_draw" (spDraw K)) (c2 : Cl P w K mg base 2 "_law_far" (spFar K)) (c3 : Cl P w K mg base 2 "_law_atom" (spLaAtom K)) (mr : mg "range" = none) (mt : mg "tuple" = none) : Cl P w K mg base 3 "_law_node" (spLaNode K) := by
  refine cl_mk (sc := ?sc) (body := ?body) F hm bd scLaNode ?hsc ?hb (fun vs H Q E h => ?_) (fun cdv A outer s H vs Q E hr nd h => ?_)
  case hsc => conv => lhs; whnf
  case hb => conv => lhs; whnf
  · obtain ⟨sa, la, ns, many, rfl, _⟩ := h
    rfl
  · obtain ⟨sa, la, ns, many, rfl, S, n0, n1, q⟩ := h
    repeat none_booked
    refine ⟨sa, la, ns, 9, rfl, S, by decide, by decide, fun H1 r x1 S1 r0 r1 => ?_⟩
    repeat none_booked
    refine ⟨_, rfl, ?_⟩
    refine ite2' (fun h => ?_) (fun h => ?_)
    · repeat none_booked
      refine ⟨sa, la, ns, rfl, S1, fun H2 r2 x2 S2 r20 r21 => ?_⟩
      repeat none_booked
      refine ⟨by show 2 ≤ sizeLine; decide, fun p hp => ?_⟩
      refine q _ _ (.var r2) ((x1.trans x2).trans (Ext.of (same_new hp))) (S2.same (same_new hp)) (dp_new hp (not_mem1 (S2.ne hp)) (.cons (.str _) (.cons (.int _) .nil))) ⟨rfl, by show 0 ≤ 6; decide, (fun k hk => nomatch hk), tup_two (by decide +kernel) rfl⟩
    · repeat none_booked
      refine ⟨_, rfl, ?_⟩
      refine ite2' (fun h => ?_) (fun h => ?_)
      · repeat none_booked
        refine ⟨sa, la, ns, 2001, rfl, S1, by decide, by decide, fun H9 r9 x9 S9 r90 r91 => ?_⟩
        repeat none_booked
        refine bPow ⟨by decide, by decide, by decide⟩ ?_
        repeat none_booked
        refine bPow ⟨by decide, by decide, by decide⟩ ?_
        repeat none_booked
        refine ⟨by show 8 ≤ sizeLine; decide, fun p hp => ?_⟩
        have n1' := S9.ne hp
        repeat none_booked
        refine ⟨sa, la, ns, 8, rfl, S9.same (same_new hp), by decide, by decide, fun H3 r3 x3 S3 r30 r31 => ?_⟩
        have g := x3.get n1' upd_same
        have xx : Ext sa H H3 := (x1.trans x9).trans ((Ext.of (same_new hp)).trans x3)
        have fin : ∀ (i : Int) p2, H3 p2 = none → Q (.ref p2) (upd H3 p2 (.tup [.str "int", .int i])) := fun i p2 hp2 => by
          exact q _ _ (.int i) (xx.trans (Ext.of (same_new hp2))) (S3.same (same_new hp2)) (dp_new hp2 (not_mem1 (S3.ne hp2)) (.cons (.str _) (.cons (.int _) .nil))) ⟨rfl, by show 0 ≤ 6; decide, (fun k hk => nomatch hk), tup_two (by decide +kernel) rfl⟩
        have cs : r3 = 0 ∨ r3 = 1 ∨ r3 = 2 ∨ r3 = 3 ∨ r3 = 4 ∨ r3 = 5 ∨ r3 = 6 ∨ r3 = 7 := by omega
        rcases cs with rfl | rfl | rfl | rfl | rfl | rfl | rfl | rfl
        · refine xL (SqL.of g) (atI_nat (j := 0) rfl) ?_
          repeat none_booked
          exact ⟨by show 2 ≤ sizeLine; decide, fun p2 hp2 => fin _ p2 hp2⟩
        · refine xL (SqL.of g) (atI_nat (j := 1) rfl) ?_
          repeat none_booked
          exact ⟨by show 2 ≤ sizeLine; decide, fun p2 hp2 => fin _ p2 hp2⟩
        · refine xL (SqL.of g) (atI_nat (j := 2) rfl) ?_
          repeat none_booked
          exact ⟨by show 2 ≤ sizeLine; decide, fun p2 hp2 => fin _ p2 hp2⟩
        · refine xL (SqL.of g) (atI_nat (j := 3) rfl) ?_
          repeat none_booked
          exact ⟨by show 2 ≤ sizeLine; decide, fun p2 hp2 => fin _ p2 hp2⟩
        · refine xL (SqL.of g) (atI_nat (j := 4) rfl) ?_
          repeat none_booked
          exact ⟨by show 2 ≤ sizeLine; decide, fun p2 hp2 => fin _ p2 hp2⟩
        · refine xL (SqL.of g) (atI_nat (j := 5) rfl) ?_
          repeat none_booked
          exact ⟨by show 2 ≤ sizeLine; decide, fun p2 hp2 => fin _ p2 hp2⟩
        · refine xL (SqL.of g) (atI_nat (j := 6) rfl) ?_
          repeat none_booked
          exact ⟨by show 2 ≤ sizeLine; decide, fun p2 hp2 => fin _ p2 hp2⟩
        · refine xL (SqL.of g) (atI_nat (j := 7) rfl) ?_
          repeat none_booked
          exact ⟨by show 2 ≤ sizeLine; decide, fun p2 hp2 => fin _ p2 hp2⟩
      · repeat none_booked
        refine ⟨_, rfl, ?_⟩
        refine ite2' (fun h => ?_) (fun h => ?_)
        · repeat none_booked
          refine ⟨sa, la, ns, rfl, S1, fun H2 z x2 S2 hz => ?_⟩
          repeat none_booked
          refine ⟨by show 2 ≤ sizeLine; decide, fun p hp => ?_⟩
          refine q _ _ (.atom z) ((x1.trans x2).trans (Ext.of (same_new hp))) (S2.same (same_new hp)) (dp_new hp (not_mem1 (S2.ne hp)) (.cons (.str _) (.cons (.str _) .nil))) ⟨atom_ok hz, by show 0 ≤ 6; decide, (fun k hk => nomatch hk), tup_two (by decide +kernel) (atom_lay hz)⟩
        · repeat none_booked
          refine ⟨_, rfl, ?_⟩
          refine ite2' (fun h => ?_) (fun h => ?_)
          · repeat none_booked
            refine ⟨sa, la, ns, rfl, S1, fun H2 z x2 S2 hz => ?_⟩
            repeat none_booked
            refine ⟨sa, la, ns, rfl, S2, fun H3 r3 x3 S3 r30 r31 => ?_⟩
            repeat none_booked
            refine ⟨by show 3 ≤ sizeLine; decide, fun p hp => ?_⟩
            refine q _ _ (.name z r3) (((x1.trans x2).trans x3).trans (Ext.of (same_new hp))) (S3.same (same_new hp)) (dp_new hp (not_mem1 (S3.ne hp)) (.cons (.str _) (.cons (.str _) (.cons (.int _) .nil)))) ⟨atom_ok hz, by show 0 ≤ 6; decide, (fun k hk => nomatch hk), tup_three (by decide +kernel) (atom_lay hz) rfl⟩
          · repeat none_booked
            refine sSetLcR 4 6 mr ?_ (by rfl) (by rfl) (by assumption) (by intros; rfl) (blkOk_by (by rfl)) (by rfl) (sw_true rfl rfl rfl (by rfl))
            repeat none_booked
            refine ⟨by show 7 ≤ sizeLine; decide, fun p hp => ?_⟩
            have np := S1.ne hp
            repeat none_booked
            refine ⟨sa, la, ns, 7, rfl, S1.same (same_new hp), by decide, by decide, fun H3 r3 x3 S3 r30 r31 => ?_⟩
            have g := x3.get np upd_same
            have xx : Ext sa H H3 := x1.trans ((Ext.of (same_new hp)).trans x3)
            obtain ⟨n, hat, hn0, hn6⟩ : ∃ n : Int, atI [V.int 1, V.int 2, V.int 2, V.int 3, V.int 4, V.int 5, V.int 6] r3 = some (.int n) ∧ 1 ≤ n ∧ n ≤ 6 := by
              have cs : r3 = 0 ∨ r3 = 1 ∨ r3 = 2 ∨ r3 = 3 ∨ r3 = 4 ∨ r3 = 5 ∨ r3 = 6 := by omega
              rcases cs with rfl | rfl | rfl | rfl | rfl | rfl | rfl
              · exact ⟨1, rfl, by decide, by decide⟩
              · exact ⟨2, rfl, by decide, by decide⟩
              · exact ⟨2, rfl, by decide, by decide⟩
              · exact ⟨3, rfl, by decide, by decide⟩
              · exact ⟨4, rfl, by decide, by decide⟩
              · exact ⟨5, rfl, by decide, by decide⟩
              · exact ⟨6, rfl, by decide, by decide⟩
            refine xL (SqL.of g) hat ?_
            repeat none_booked
            refine ⟨n, rfl, by omega, by omega, fun L hL => ?_⟩
            have nL := S3.ne hL
            refine ⟨fun i H2 => ∃ rs : List Int, H2 L = some (.lst (rs.map V.int)) ∧ rs.length = i ∧ (∀ r ∈ rs, 0 ≤ r ∧ r < many) ∧ Ext sa H3 H2 ∧ Strm K H2 sa la ns, ⟨[], upd_same, rfl, fun r hr => by simp at hr, Ext.of (same_new hL), S3.same (same_new hL)⟩, fun i H2 hi p => ?_, fun H2 p => ?_⟩
            · obtain ⟨rs, g2, hl2, hb2, x2, S2⟩ := p
              intro s0 H0 C cl fp
              repeat none_booked
              refine ⟨sa, la, ns, many, rfl, S2, by omega, by omega, fun H4 r4 x4 S4 r40 r41 => ?_⟩
              have x34 := (x2.trans x4).new (o := .lst (rs.map V.int ++ [.int r4])) hL
              refine ⟨rs.map V.int, x4.get nL g2, lt_line (by rw [List.length_map]; omega), rs ++ [r4], by rw [upd_same, List.map_append]; rfl, by simp [hl2], fun r hr => ?_, x34, S3.of x34 S4 (upd_ne (fun z => nL z.symm))⟩
              rcases List.mem_append.mp hr with hr | hr
              · exact hb2 r hr
              · have : r = r4 := by simpa using hr
                subst this
                exact ⟨r40, r41⟩
            · obtain ⟨rs, g2, hl2, hb2, x2, S2⟩ := p
              repeat none_booked
              refine ⟨sa, la, ns, rfl, S2, fun H8 z8 x8 S8 hz8 => ?_⟩
              repeat none_booked
              refine ⟨by show 6 ≤ sizeLine; decide, fun p5 hp5 => ?_⟩
              have np5 := S8.ne hp5
              repeat none_booked
              refine ⟨sa, la, ns, 6, rfl, S8.same (same_new hp5), by decide, by decide, fun H6 r6 x6 S6 r60 r61 => ?_⟩
              have g6 := x6.get np5 upd_same
              have gL : H6 L = some (.lst (rs.map V.int)) := x6.get nL (same_new hp5 _ _ (x8.get nL g2))
              have xx6 : Ext sa H H6 := xx.trans (x2.trans (x8.trans ((Ext.of (same_new hp5)).trans x6)))
              obtain ⟨z, hat6, hz6⟩ : ∃ z : Str, atI [V.str "f", V.str "f", V.str "fa", V.str "cons", V.str "cell", V.str z8] r6 = some (.str z) ∧ strAtom z = true := by
                have cs : r6 = 0 ∨ r6 = 1 ∨ r6 = 2 ∨ r6 = 3 ∨ r6 = 4 ∨ r6 = 5 := by omega
                rcases cs with rfl | rfl | rfl | rfl | rfl | rfl
                · exact ⟨_, rfl, by decide +kernel⟩
                · exact ⟨_, rfl, by decide +kernel⟩
                · exact ⟨_, rfl, by decide +kernel⟩
                · exact ⟨_, rfl, by decide +kernel⟩
                · exact ⟨_, rfl, by decide +kernel⟩
                · exact ⟨_, rfl, hz8⟩
              refine xL (SqL.of g6) hat6 ?_
              repeat none_booked
              refine fTupL (SqL.of gL) (fun t ht => ?_)
              repeat none_booked
              refine ⟨by show 3 ≤ sizeLine; decide, fun p7 hp7 => ?_⟩
              have ht7 : t ≠ p7 := fun e => by rw [← e, upd_same] at hp7; cases hp7
              obtain ⟨hn1, hn2⟩ := nums_int hb2
              have hlen : (rs.map Int.toNat).length ≤ 6 := by rw [List.length_map]; omega
              refine q _ _ (.tup z (rs.map Int.toNat)) (xx6.trans ((Ext.of (same_new ht)).trans (Ext.of (same_new hp7)))) ((S6.same (same_new ht)).same (same_new hp7)) (dp_new hp7 (not_mem1 ((S6.same (same_new ht)).ne hp7)) (.cons (.str _) (.cons (.str _) (.cons (dp_new ht (not_mem1 (S6.ne ht)) (by rw [hn1]; exact nums_dp _)) .nil)))) ⟨atom_ok hz6, hlen, hn2, ?_⟩
              refine tup_three (by decide +kernel) (atom_lay hz6) ?_
              show (decide ((numsD (rs.map Int.toNat)).length ≤ 1000) && (numsD (rs.map Int.toNat)).all (tupN 1)) = true
              have hl4 : (numsD (rs.map Int.toNat)).length ≤ 1000 := by unfold numsD; rw [List.length_map]; omega
              rw [decide_eq_true hl4, Bool.true_and, List.all_eq_true]
              intro d hd
              obtain ⟨r, hr, rfl⟩ := List.mem_map.mp hd
              rfl
def spLaGraph (K : PySem.W.Frag) : Sp := fun vs H Q _ => ∃ (sa la : Addr) (ns : List Int) (most : Int), vs = [.ref sa, .int most] ∧ Strm K H sa la ns ∧ 1 ≤ most ∧ most ≤ 100 ∧ ∀ (H' : Hp) (v : V) (ds : List Nd), Ext sa H H' → Strm K H' sa la ns → Gr K (cut [sa] H') v ds → 1 ≤ ds.length → ds.length ≤ most → (∀ d ∈ ds, NdOk ds.length d) → Q v H'
theorem ok_lagraph {f : Addr} {fd : FuncData} (F : Fun K "_law_graph" "_law_graph" sLaGraph f fd) (hm : mg "_law_graph" = some (.ref f)) (bd : Binds K fd ["stream", "most"] []) (c1 : Cl P w K mg base 1 "_law_draw" (spDraw K)) (c2 : Cl P w K mg base 3 "_law_node" (spLaNode K)) (mr : mg "range" = none) (mt : mg "tuple" = none) : Cl P w K mg base 4 "_law_graph" (spLaGraph K) := by
  refine cl_mk (sc := ?sc) (body := ?body) F hm bd scLaGraph ?hsc ?hb (fun vs H Q E h => ?_) (fun cdv A outer s H vs Q E hr nd h => ?_)
  case hsc => conv => lhs; whnf
  case hb => conv => lhs; whnf
  · obtain ⟨sa, la, ns, most, rfl, _⟩ := h
    rfl
  · obtain ⟨sa, la, ns, most, rfl, S, n0, n1, q⟩ := h
    repeat none_booked
    refine ⟨sa, la, ns, most, rfl, S, by omega, by omega, fun H1 r x1 S1 r0 r1 => ?_⟩
    repeat none_booked
    refine eLcR 3 mr ?_ (by rfl) (by assumption) (by intros; rfl) (blkOk_by (by rfl))
    repeat none_booked
    refine ⟨1 + r, rfl, by omega, by omega, fun L hL => ?_⟩
    have nL := S1.ne hL
    refine ⟨fun i H2 => ∃ (vs : List V) (ds : List Nd), H2 L = some (.lst vs) ∧ DpAll K (cut [L, sa] H2) vs (ds.map Nd.data) ∧ vs.length = i ∧ (∀ d ∈ ds, NdOk (1 + r) d) ∧ Ext sa H1 H2 ∧ Strm K H2 sa la ns, ⟨[], [], upd_same, .nil, rfl, fun d hd => by simp at hd, Ext.of (same_new hL), S1.same (same_new hL)⟩, fun i H2 hi p => ?_, fun H2 p => ?_⟩
    · obtain ⟨vs, ds, g2, d2, hl2, hb2, x2, S2⟩ := p
      intro s0 H0 C cl fp
      repeat none_booked
      refine ⟨sa, la, ns, 1 + r, rfl, S2, by omega, by omega, fun H4 v d x4 S4 d4 ok4 => ?_⟩
      have x34 := (x2.trans x4).new (o := .lst (vs ++ [v])) hL
      have g4 := x4.get nL g2
      have e1 : Same (cut [L, sa] H2) (cut [L, sa] H4) := by
        rw [← cut_cut, ← cut_cut]
        exact Same.cut x4
      have e2 : cut [L, sa] (upd H4 L (.lst (vs ++ [v]))) = cut [L, sa] H4 := cut_upd (by simp)
      refine ⟨vs, g4, lt_line (by omega), vs ++ [v], ds ++ [d], upd_same, ?_, by simp [hl2], fun y hy => ?_, x34, S1.of x34 S4 (upd_ne (fun z => nL z.symm))⟩
      · rw [e2, List.map_append]
        refine dpAll_push (dpAll_mono e1 d2) ?_
        rw [← cut_cut]
        exact dp_avoid (cut_get (not_mem1 nL) g4) 3 d.data v ok4.tup d4
      · rcases List.mem_append.mp hy with hy | hy
        · exact hb2 y hy
        · have : y = d := by simpa using hy
          subst this
          exact ok4
    · obtain ⟨vs, ds, g2, d2, hl2, hb2, x2, S2⟩ := p
      have hds := dpLen d2
      rw [List.length_map] at hds
      repeat none_booked
      refine fTupL (SqL.of g2) (fun t ht => ?_)
      have e3 : ((ds.length : Nat) : Int) = 1 + r := by omega
      refine q _ _ ds ((x1.trans x2).trans (Ext.of (same_new ht))) (S2.same (same_new ht)) (dp_new ht (not_mem1 (S2.ne ht)) (dpAll_mono (cut_mono (by simp) (Same.refl _) : Same (cut [L, sa] H2) (cut [sa] H2)) d2)) (by omega) (by omega) (fun d hd => by rw [e3]; exact hb2 d hd)
end
end K4

namespace K4
open PySem PySem.Spec PyProof.Rows L2 Wk
local macro_rules | `(tactic| none_booked) => `(tactic| first
  | refine eInt ?_ | refine eStr ?_ | (refine eNm ?_; first | refine nAt 0 (by rfl) (by rfl) (by first | exact Or.inl rfl | exact Or.inr (Or.inl rfl) | exact Or.inr (Or.inr rfl)) (by rfl) (by rfl) ?_ | refine nAt 1 (by rfl) (by rfl) (by first | exact Or.inl rfl | exact Or.inr (Or.inl rfl) | exact Or.inr (Or.inr rfl)) (by rfl) (by rfl) ?_ | refine nAt 2 (by rfl) (by rfl) (by first | exact Or.inl rfl | exact Or.inr (Or.inl rfl) | exact Or.inr (Or.inr rfl)) (by rfl) (by rfl) ?_ | refine nAt 3 (by rfl) (by rfl) (by first | exact Or.inl rfl | exact Or.inr (Or.inl rfl) | exact Or.inr (Or.inr rfl)) (by rfl) (by rfl) ?_ | refine nAt 4 (by rfl) (by rfl) (by first | exact Or.inl rfl | exact Or.inr (Or.inl rfl) | exact Or.inr (Or.inr rfl)) (by rfl) (by rfl) ?_ | refine nAt 5 (by rfl) (by rfl) (by first | exact Or.inl rfl | exact Or.inr (Or.inl rfl) | exact Or.inr (Or.inr rfl)) (by rfl) (by rfl) ?_ | refine nAt 6 (by rfl) (by rfl) (by first | exact Or.inl rfl | exact Or.inr (Or.inl rfl) | exact Or.inr (Or.inr rfl)) (by rfl) (by rfl) ?_ | refine nAt 7 (by rfl) (by rfl) (by first | exact Or.inl rfl | exact Or.inr (Or.inl rfl) | exact Or.inr (Or.inr rfl)) (by rfl) (by rfl) ?_ | refine nAt 8 (by rfl) (by rfl) (by first | exact Or.inl rfl | exact Or.inr (Or.inl rfl) | exact Or.inr (Or.inr rfl)) (by rfl) (by rfl) ?_ | refine nAt 9 (by rfl) (by rfl) (by first | exact Or.inl rfl | exact Or.inr (Or.inl rfl) | exact Or.inr (Or.inr rfl)) (by rfl) (by rfl) ?_ | refine nAt 10 (by rfl) (by rfl) (by first | exact Or.inl rfl | exact Or.inr (Or.inl rfl) | exact Or.inr (Or.inr rfl)) (by rfl) (by rfl) ?_ | refine nAt 11 (by rfl) (by rfl) (by first | exact Or.inl rfl | exact Or.inr (Or.inl rfl) | exact Or.inr (Or.inr rfl)) (by rfl) (by rfl) ?_) | refine sCons ?_ | refine sNil ?_ | refine sIf ?_ | refine sRet ?_ | (refine sStore ?_; first | refine stAt 0 (by rfl) ?_ (by assumption) (by first | exact Or.inl rfl | exact Or.inr rfl) (by rfl) (by first | exact Or.inl rfl | exact Or.inr rfl) | refine stAt 1 (by rfl) ?_ (by assumption) (by first | exact Or.inl rfl | exact Or.inr rfl) (by rfl) (by first | exact Or.inl rfl | exact Or.inr rfl) | refine stAt 2 (by rfl) ?_ (by assumption) (by first | exact Or.inl rfl | exact Or.inr rfl) (by rfl) (by first | exact Or.inl rfl | exact Or.inr rfl) | refine stAt 3 (by rfl) ?_ (by assumption) (by first | exact Or.inl rfl | exact Or.inr rfl) (by rfl) (by first | exact Or.inl rfl | exact Or.inr rfl) | refine stAt 4 (by rfl) ?_ (by assumption) (by first | exact Or.inl rfl | exact Or.inr rfl) (by rfl) (by first | exact Or.inl rfl | exact Or.inr rfl) | refine stAt 5 (by rfl) ?_ (by assumption) (by first | exact Or.inl rfl | exact Or.inr rfl) (by rfl) (by first | exact Or.inl rfl | exact Or.inr rfl) | refine stAt 6 (by rfl) ?_ (by assumption) (by first | exact Or.inl rfl | exact Or.inr rfl) (by rfl) (by first | exact Or.inl rfl | exact Or.inr rfl) | refine stAt 7 (by rfl) ?_ (by assumption) (by first | exact Or.inl rfl | exact Or.inr rfl) (by rfl) (by first | exact Or.inl rfl | exact Or.inr rfl) | refine stAt 8 (by rfl) ?_ (by assumption) (by first | exact Or.inl rfl | exact Or.inr rfl) (by rfl) (by first | exact Or.inl rfl | exact Or.inr rfl) | refine stAt 9 (by rfl) ?_ (by assumption) (by first | exact Or.inl rfl | exact Or.inr rfl) (by rfl) (by first | exact Or.inl rfl | exact Or.inr rfl) | refine stAt 10 (by rfl) ?_ (by assumption) (by first | exact Or.inl rfl | exact Or.inr rfl) (by rfl) (by first | exact Or.inl rfl | exact Or.inr rfl) | refine stAt 11 (by rfl) ?_ (by assumption) (by first | exact Or.inl rfl | exact Or.inr rfl) (by rfl) (by first | exact Or.inl rfl | exact Or.inr rfl)) | refine sExpr ?_
  | refine aNil ?_ | refine aCons ?_ | refine aStar ?_ | refine eBl ?_ | refine eNon ?_ | refine eBin ?_ | refine eCmp ?_ | refine eIx ?_ | refine eTupN ?_ | refine eLstN ?_ | refine eChain ?_
  | refine eSl ?_ | refine oNone ?_ | refine oSome ?_ | refine eNot ?_ | refine eUn ?_ | refine eAnd ?_ | refine eOr ?_ | refine eOne ?_ | refine eIf ?_
  | refine tCmp ?_ | refine tChain ?_ | refine tNot ?_ | refine pAnd1 ?_ | refine pOr1 ?_ | refine pAnd ?_ | refine pOr ?_
  | refine kLen (by assumption) ?_ | refine kAbs (by assumption) ?_ | refine kInt (by assumption) ?_ | refine kList (by assumption) ?_ | refine kTuple (by assumption) ?_ | refine kAll (by assumption) ?_ | refine kIsi (by assumption) ?_
  | refine tyInt (by assumption) ?_ | refine tyBool (by assumption) ?_ | refine tyStr (by assumption) ?_ | refine tyTuple (by assumption) ?_ | refine tyList (by assumption) ?_
  | refine eCall (by assumption) (by assumption) (by decide) ?_ | refine eGlobI (by assumption) ?_
  | refine tPb ?_
  | refine bAdd ?_ | refine bSub ?_ | refine uNeg ?_ | refine cLt ?_ | refine cLe ?_ | refine cGt ?_ | refine cGe ?_ | refine cEq (by rfl) ?_ | refine cNe (by rfl) ?_
  | refine fInt ?_ | refine fAbs ?_
  | refine kIndex ?_ | refine kAppend ?_ | refine kIsascii ?_ | refine kIsalnum ?_ | refine kIsalpha ?_ | refine kIslower ?_
  | refine ⟨rfl, mIsascii ?_⟩ | refine ⟨rfl, mIsalnum ?_⟩ | refine ⟨rfl, mIsalpha ?_⟩ | refine ⟨rfl, mIslower ?_⟩
  | refine gsNil ?_ | refine gsCons ?_ | (first | refine gNm 0 (by rfl) ?_ (by assumption) (by first | exact Or.inl rfl | exact Or.inr rfl) (by first | exact Or.inl rfl | exact Or.inr rfl) | refine gNm 1 (by rfl) ?_ (by assumption) (by first | exact Or.inl rfl | exact Or.inr rfl) (by first | exact Or.inl rfl | exact Or.inr rfl) | refine gNm 2 (by rfl) ?_ (by assumption) (by first | exact Or.inl rfl | exact Or.inr rfl) (by first | exact Or.inl rfl | exact Or.inr rfl) | refine gNm 3 (by rfl) ?_ (by assumption) (by first | exact Or.inl rfl | exact Or.inr rfl) (by first | exact Or.inl rfl | exact Or.inr rfl) | refine gNm 4 (by rfl) ?_ (by assumption) (by first | exact Or.inl rfl | exact Or.inr rfl) (by first | exact Or.inl rfl | exact Or.inr rfl) | refine gNm 5 (by rfl) ?_ (by assumption) (by first | exact Or.inl rfl | exact Or.inr rfl) (by first | exact Or.inl rfl | exact Or.inr rfl) | refine gNm 6 (by rfl) ?_ (by assumption) (by first | exact Or.inl rfl | exact Or.inr rfl) (by first | exact Or.inl rfl | exact Or.inr rfl) | refine gNm 7 (by rfl) ?_ (by assumption) (by first | exact Or.inl rfl | exact Or.inr rfl) (by first | exact Or.inl rfl | exact Or.inr rfl) | refine gNm 8 (by rfl) ?_ (by assumption) (by first | exact Or.inl rfl | exact Or.inr rfl) (by first | exact Or.inl rfl | exact Or.inr rfl) | refine gNm 9 (by rfl) ?_ (by assumption) (by first | exact Or.inl rfl | exact Or.inr rfl) (by first | exact Or.inl rfl | exact Or.inr rfl) | refine gNm 10 (by rfl) ?_ (by assumption) (by first | exact Or.inl rfl | exact Or.inr rfl) (by first | exact Or.inl rfl | exact Or.inr rfl) | refine gNm 11 (by rfl) ?_ (by assumption) (by first | exact Or.inl rfl | exact Or.inr rfl) (by first | exact Or.inl rfl | exact Or.inr rfl)))
abbrev sCmp : Stmt := topS 4
theorem scCmp : FnScope ["first", "second", "pairs", "known", "at", "one", "other", "pair"] ["first", "second"] (defScope sCmp) := ⟨rfl, rfl, rfl, by decide +kernel, rfl, by decide +kernel, by decide +kernel⟩
/-- what holds ahead of a turn -/
structure Turn (f g : List Nd) (H0 H : Hp) (i : Nat) (rows : List Pr) (bs : List Addr) (pa : Addr) : Prop where
  pq : H pa = some (.lst (bs.map V.ref))
  pr : PR H bs rows
  hs : Same H0 H
  go : ∀ r, Goes f g rows i r → Goes f g [(0, 0)] 0 r
  nd : rows.Nodup
  inn : In24 rows f.length g.length
  le : i ≤ rows.length
structure Mid (H0 H7 H : Hp) (pa da : Addr) (rows : List Pr) (bs : List Addr) : Prop where
  pq : H pa = some (.lst (bs.map V.ref))
  pr : PR H bs rows
  hs : Same H0 H
  ed : H da = some (.dT (tab rows))
  kp : ∀ b o, H7 b = some o → b ≠ pa → b ≠ da → H b = some o
theorem seqT_keep {K : PySem.W.Frag} {H H' : Hp} {pa da p : Addr} {xs l : List V} {t : List (List L2.Key × V)} (k : ∀ b o, H b = some o → b ≠ pa → b ≠ da → H' b = some o) (e1 : H pa = some (.lst l)) (e2 : H da = some (.dT t)) (h : SqT K H p xs) : SqT K H' p xs := by
  rcases h with (h | ⟨o, h⟩) | h
  · exact .inl (.inl (k _ _ h (fun z => by rw [z, e1] at h; cases h) fun z => by rw [z, e2] at h; cases h))
  · exact .inl (.inr ⟨o, k _ _ h (fun z => by rw [z, e1] at h; cases h) fun z => by rw [z, e2] at h; cases h⟩)
  · exact .inr h
theorem push_len (rows : List Pr) (p : Pr) : rows.length ≤ (push rows p).length := by
  unfold push
  split
  · exact Nat.le_refl _
  · rw [List.length_append]; omega
theorem pushAll_len : ∀ (qs rows : List Pr), rows.length ≤ (pushAll rows qs).length
  | [], _ => Nat.le_refl _
  | p :: qs, rows => Nat.le_trans (push_len rows p) (pushAll_len qs (push rows p))
def mu (σ : L2.St) : Nat := match σ[4]? with
  | some (some (V.int i)) => 577 - i.toNat
  | _ => 0
theorem room1 {k : Nat} {A : Around} (r : Room k A) : A.units + 1 < cLine := by have := r.un; omega
section
variable {P : Program} {w : World} {K : PySem.W.Frag} {mg : Str → Option Value} {base : Heap}
def spCmp (K : PySem.W.Frag) : Sp := fun vs H Q _ => ∃ (v u : V) (f g : List Nd), vs = [v, u] ∧ Gr K H v f ∧ Gr K H u g ∧ Goodk f ∧ Goodk g ∧ ∀ H' r, Same H H' → Goes f g [(0, 0)] 0 r → Q (.int r) H'
theorem ok_cmp {f : Addr} {fd : FuncData} (F : Fun K "compare" "compare" sCmp f fd) (hm : mg "compare" = some (.ref f)) (bd : Binds K fd ["first", "second"] []) (c1 : Cl P w K mg base 1 "parts_of" (spParts K)) (c2 : Cl P w K mg base 1 "look" (spLook K)) (m1 : mg "len" = none) (m2 : mg "zip" = none) : Cl P w K mg base 2 "compare" (spCmp K) := by
  refine cl_mk (sc := ?sc) (body := ?body) F hm bd scCmp ?hsc ?hb (fun vs H Q E h => ?_) (fun cdv A outer s H vs Q E hr nd h => ?_)
  case hsc => conv => lhs; whnf
  case hb => conv => lhs; whnf
  · obtain ⟨v, u, f, g, rfl, _⟩ := h
    rfl
  · obtain ⟨v, u, f, g, rfl, hf, hg, gf, gg, q⟩ := h
    have hu := hr.units
    have hu1 := room1 hr
    repeat none_booked
    refine ⟨by show 2 ≤ 100000; decide, fun p0 H1 hp0 s1 e0 => ?_⟩
    repeat none_booked
    refine ⟨by show 1 ≤ 100000; decide, fun pa H2 hpa s2 ea => ?_⟩
    repeat none_booked
    refine eDisp1 hu1 (fun da hda => ?_)
    repeat none_booked
    refine ⟨by show 2 ≤ 100000; decide, fun p1 H3 hp1 s3 e1 => ?_⟩
    repeat none_booked
    have nda : H3 da = some (.dT []) := s3 _ _ upd_same
    refine ⟨nda, p1, kp (0, 0), rfl, e1, ?_⟩
    repeat none_booked
    have sA : Same H H2 := s1.trans s2
    have sB : Same H2 H3 := (same_new hda).trans s3
    have sC : Same H2 (upd H3 da (.dT [(kp (0, 0), .bl true)])) := same_put sB hda
    have npa : H pa = none := s1.free hpa
    have nd0 : H da = none := sA.free hda
    have pd : pa ≠ da := fun z => by rw [z, hda] at ea; cases ea
    obtain ⟨fa, fx, rfl, fs, fl, fat⟩ := gr_at hf
    obtain ⟨ga, gx, rfl, gs, gl, gat⟩ := gr_at hg
    refine sWhile ?_
    refine while_by (fun σ' H' => ∃ i rows bs c1 c2 c3, σ' = [some (.ref fa), some (.ref ga), some (.ref pa), some (.ref da), some (.int (i : Nat)), c1, c2, c3] ∧ Turn f g H H' i rows bs pa ∧ H' da = some (.dT (tab rows))) (fun σ' _ => mu σ') ?_ ?_ (fun σ H Q Q' m h => wT_mono h m)
    · refine ⟨0, [(0, 0)], [p0], none, none, none, rfl, ⟨sC _ _ ea, ?_, sA.trans sC, fun r z => z, by decide, ?_, by decide⟩, upd_same⟩
      · show [upd H3 da (.dT [(kp (0, 0), .bl true)]) p0] = _
        rw [sC _ _ (s2 _ _ e0)]
        rfl
      · intro x hx
        rw [List.mem_singleton.mp hx]
        exact ⟨List.length_pos_iff.mpr gf.1.1, List.length_pos_iff.mpr gg.1.1⟩
    · rintro σ' H' ⟨i, rows, bs, c1, c2, c3, rfl, T, ed⟩
      have hl := T.pr.len
      repeat none_booked
      refine fLenL (SqL.of T.pq) ?_
      repeat none_booked
      refine ⟨_, rfl, ?_⟩
      refine ite2' (fun h => ?_) (fun h => ?_)
      · have hi : i < rows.length := by
          rw [List.length_map] at h
          omega
        obtain ⟨p, hp⟩ : ∃ p, rows[i]? = some p := ⟨_, List.getElem?_eq_getElem hi⟩
        obtain ⟨b, hb, eb⟩ := T.pr.get hp
        have hin := T.inn p (List.mem_of_getElem? hp)
        obtain ⟨a, ha⟩ : ∃ a, f[p.1]? = some a := ⟨_, List.getElem?_eq_getElem hin.1⟩
        obtain ⟨c, hc⟩ : ∃ c, g[p.2]? = some c := ⟨_, List.getElem?_eq_getElem hin.2⟩
        obtain ⟨va, hva, dva⟩ := fat _ _ ha
        obtain ⟨vc, hvc, dvc⟩ := gat _ _ hc
        have fa1 := gf.2 a (List.mem_of_getElem? ha)
        have fc1 := gg.2 c (List.mem_of_getElem? hc)
        have hbi : (bs.map V.ref)[i]? = some (.ref b) := by rw [List.getElem?_map, hb]; rfl
        repeat none_booked
        refine sPar 5 6 (by rfl) (by rfl) (by decide) ?_ (by assumption) (by rfl) (by rfl) (by rfl)
        repeat none_booked
        refine xL (SqL.of T.pq) (atI_nat (j := i) hbi) ?_
        repeat none_booked
        refine xT (SqT.of eb) (by rfl) ?_
        refine xT (seqT_mono T.hs fs) (atI_nat (j := p.1) hva) ?_
        repeat none_booked
        refine xL (SqL.of T.pq) (atI_nat (j := i) hbi) ?_
        repeat none_booked
        refine xT (SqT.of eb) (by rfl) ?_
        refine xT (seqT_mono T.hs gs) (atI_nat (j := p.2) hvc) ?_
        repeat none_booked
        refine ⟨_, _, rfl, ?_⟩
        repeat none_booked
        refine ⟨va, a, rfl, dp_mono T.hs dva, fun q1 H4 s4 d4 => ?_⟩
        repeat none_booked
        refine ⟨vc, c, rfl, dp_mono (T.hs.trans s4) dvc, fun q2 H5 s5 d5 => ?_⟩
        refine cNeD hu (dp_mono s5 d4) d5 (look_shaped fa1) (look_shaped fc1) ?_
        repeat none_booked
        refine ⟨_, rfl, ?_⟩
        rw [look_eqv]
        have s45 := s4.trans s5
        by_cases hk : a.key = c.key
        · rw [decide_eq_true hk, if_neg (by decide)]
          have hkl := key_parts hk
          have rin : ∀ k, In24 (pushAll rows ((a.parts.zip c.parts).take k)) f.length g.length := fun k x hx => by
            rcases pushAll_mem hx with z | z
            · exact T.inn x z
            · obtain ⟨z1, z2⟩ := zip_mem (List.mem_of_mem_take z)
              exact ⟨(gf.1.2.2 a (List.mem_of_getElem? ha)).2 _ z1, (gg.1.2.2 c (List.mem_of_getElem? hc)).2 _ z2⟩
          have ge : ∀ k, (pushAll rows ((a.parts.zip c.parts).take k)).length ≤ 576 := fun k => rows_len (pushAll_nodup T.nd) (rin k) gf.1.2.1 gg.1.2.1
          refine sNil ?_
          refine sCut (fun σ' H' => ∃ bs' c4, σ' = [some (.ref fa), some (.ref ga), some (.ref pa), some (.ref da), some (.int (i : Nat)), some va, some vc, c4] ∧ Turn f g H H' (i + 1) (pushAll rows (a.parts.zip c.parts)) bs' pa ∧ H' da = some (.dT (tab (pushAll rows (a.parts.zip c.parts))))) ?_ ?_
          · refine sForZ m2 ?_
            repeat none_booked
            refine ⟨va, a, rfl, dp_mono (T.hs.trans s45) dva, fun q6 H6 s6 t6 => ?_⟩
            repeat none_booked
            refine ⟨vc, c, rfl, dp_mono ((T.hs.trans s45).trans s6) dvc, fun q7 H7 s7 t7 => ?_⟩
            repeat none_booked
            have s47 := s45.trans (s6.trans s7)
            have e7 : H7 pa = some (.lst (bs.map V.ref)) := s47 _ _ T.pq
            have d7 : H7 da = some (.dT (tab rows)) := s47 _ _ ed
            refine ⟨q6, q7, nums a.parts, nums c.parts, rfl, seqT_mono s7 t6, t7, by unfold nums; rw [List.length_map, List.length_map]; exact hkl, fun k σ' H' => ∃ bs' c4, σ' = [some (.ref fa), some (.ref ga), some (.ref pa), some (.ref da), some (.int (i : Nat)), some va, some vc, c4] ∧ Mid H H7 H' pa da (pushAll rows ((a.parts.zip c.parts).take k)) bs', ?_, ?_, ?_, ?_⟩
            · exact ⟨bs, _, rfl, e7, T.pr.keep (keep_same s47), T.hs.trans s47, d7, fun b o e _ _ => e⟩
            · rintro k σ' H' ⟨bs', c4, rfl, M⟩
              exact ⟨seqT_keep M.kp e7 d7 (seqT_mono s7 t6), seqT_keep M.kp e7 d7 t7⟩
            · rintro k x y Tm σ' H8 H9 hx hy ⟨bs', c4, rfl, M⟩ hT s9 e9
              obtain ⟨x, hx2, rfl⟩ := nums_get hx
              obtain ⟨y, hy2, rfl⟩ := nums_get hy
              have hz := zip_get hx2 hy2
              have et : H9 Tm = some (.tup ((kp (x, y)).map kV)) := by rw [e9]; exact upd_same
              repeat none_booked
              refine cNotInD hu1 (DGet.t (k := kp (x, y)) (s9 _ _ M.ed) et) ?_
              repeat none_booked
              refine ⟨_, rfl, ?_⟩
              rw [tab_some]
              have pt := push_take (rows := rows) hz
              by_cases hm : (x, y) ∈ pushAll rows ((a.parts.zip c.parts).take k)
              · rw [decide_eq_true hm, if_neg (by decide)]
                repeat none_booked
                have e : pushAll rows ((a.parts.zip c.parts).take (k + 1)) = pushAll rows ((a.parts.zip c.parts).take k) := by
                  rw [pt]; unfold push; exact if_pos hm
                refine ⟨bs', _, rfl, ?_⟩
                rw [e]
                exact ⟨s9 _ _ M.pq, M.pr.keep (keep_same s9), M.hs.trans s9, s9 _ _ M.ed, fun b o eb n1 n2 => s9 _ _ (M.kp b o eb n1 n2)⟩
              · rw [decide_eq_false hm, if_pos (by rfl)]
                have e : pushAll rows ((a.parts.zip c.parts).take (k + 1)) = pushAll rows ((a.parts.zip c.parts).take k) ++ [(x, y)] := by
                  rw [pt]; unfold push; exact if_neg hm
                have lr := ge k
                repeat none_booked
                refine sAsg ?_
                repeat none_booked
                refine gSub ?_
                repeat none_booked
                refine ptD hu1 (DPut.t (k := kp (x, y)) (s9 _ _ M.ed) et (by unfold tab; rw [List.length_map]; exact lt_line (by omega))) ?_
                repeat none_booked
                rw [tab_put hm]
                have p10 : upd H9 da (.dT (tab (pushAll rows ((a.parts.zip c.parts).take k) ++ [(x, y)]))) pa = some (.lst (bs'.map V.ref)) := by
                  rw [upd_ne pd]
                  exact s9 _ _ M.pq
                refine ⟨tyL ⟨_, SqL.of p10⟩, ?_⟩
                repeat none_booked
                refine mAppend p10 (by rw [List.length_map, M.pr.len]; exact lt_line (by omega)) ?_
                repeat none_booked
                have k1 : ∀ b t, H9 b = some (.tup t) → upd (upd H9 da (.dT (tab (pushAll rows ((a.parts.zip c.parts).take k) ++ [(x, y)])))) pa (.lst (bs'.map V.ref ++ [.ref Tm])) b = some (.tup t) := fun b t eb => by
                  refine keep_upd (fun t' z => ?_) b t (keep_upd (fun t' z => ?_) b t eb)
                  · rw [p10] at z; cases z
                  · rw [s9 _ _ M.ed] at z; cases z
                refine ⟨bs' ++ [Tm], _, rfl, ?_⟩
                rw [e]
                refine ⟨by rw [List.map_append]; exact upd_same, ?_, same_put (same_put (M.hs.trans s9) nd0) npa, ?_, fun b o eb n1 n2 => ?_⟩
                · exact PR.snoc (M.pr.keep fun b t eb => k1 b t (s9 _ _ eb)) (k1 _ _ et)
                · rw [upd_ne (Ne.symm pd)]
                  exact upd_same
                · rw [upd_ne n1, upd_ne n2]
                  exact s9 _ _ (M.kp b o eb n1 n2)
            · rintro σ' H' ⟨bs', c4, rfl, M⟩
              have et : (a.parts.zip c.parts).take (nums a.parts).length = a.parts.zip c.parts := by
                rw [List.take_of_length_le]
                unfold nums
                rw [List.length_map, List.length_zip]
                omega
              rw [et] at M
              exact ⟨bs', c4, rfl, ⟨M.pq, M.pr, M.hs, fun r z => T.go r (Goes.step hp ha hc hk z), pushAll_nodup T.nd, push_in gf.1 gg.1 T.inn ha hc, Nat.le_trans hi (pushAll_len _ _)⟩, M.ed⟩
          · rintro σ' H' ⟨bs', c4, rfl, T', ed'⟩
            refine sCons ?_
            refine sAug 4 (by rfl) (by rfl) ?_ (by assumption) (by exact Or.inl rfl) (by exact Or.inl rfl)
            repeat none_booked
            refine ipAdd ?_
            repeat none_booked
            have lr := rows_len T.nd T.inn gf.1.2.1 gg.1.2.1
            refine ⟨⟨i + 1, _, bs', some va, some vc, c4, rfl, T', ed'⟩, ?_⟩
            · show 577 - ((i : Int) + 1).toNat < 577 - ((i : Int)).toNat
              omega
        · rw [decide_eq_false hk, if_pos (by rfl)]
          repeat none_booked
          refine ⟨va, a, rfl, dp_mono (T.hs.trans s45) dva, fun q3 H6 s6 d6 => ?_⟩
          repeat none_booked
          refine ⟨vc, c, rfl, dp_mono ((T.hs.trans s45).trans s6) dvc, fun q4 H7 s7 d7 => ?_⟩
          refine cLtT hu (dp_mono s7 d6) d7 (look_flat fa1) (look_flat fc1) (look_lt hk) ?_
          repeat none_booked
          refine ⟨_, rfl, ?_⟩
          have z := T.go _ (Goes.diff hp ha hc hk)
          have s7' := T.hs.trans (s45.trans (s6.trans s7))
          cases hkl : klt a.key c.key with
          | true =>
            rw [if_pos rfl]
            repeat none_booked
            rw [hkl, if_pos rfl] at z
            exact q _ _ s7' z
          | false =>
            rw [if_neg Bool.false_ne_true]
            repeat none_booked
            rw [hkl, if_neg Bool.false_ne_true] at z
            exact q _ _ s7' z
      · repeat none_booked
        exact q _ _ T.hs (T.go _ (.stop (by rw [List.length_map] at h; omega)))
end
end K4

namespace K4
open PySem PySem.Spec PyProof.Rows L2 Wk
local macro_rules | `(tactic| none_booked) => `(tactic| first
  | refine eInt ?_ | refine eStr ?_ | (refine eNm ?_; first | refine nAt 0 (by rfl) (by rfl) (by first | exact Or.inl rfl | exact Or.inr (Or.inl rfl) | exact Or.inr (Or.inr rfl)) (by rfl) (by rfl) ?_ | refine nAt 1 (by rfl) (by rfl) (by first | exact Or.inl rfl | exact Or.inr (Or.inl rfl) | exact Or.inr (Or.inr rfl)) (by rfl) (by rfl) ?_ | refine nAt 2 (by rfl) (by rfl) (by first | exact Or.inl rfl | exact Or.inr (Or.inl rfl) | exact Or.inr (Or.inr rfl)) (by rfl) (by rfl) ?_ | refine nAt 3 (by rfl) (by rfl) (by first | exact Or.inl rfl | exact Or.inr (Or.inl rfl) | exact Or.inr (Or.inr rfl)) (by rfl) (by rfl) ?_ | refine nAt 4 (by rfl) (by rfl) (by first | exact Or.inl rfl | exact Or.inr (Or.inl rfl) | exact Or.inr (Or.inr rfl)) (by rfl) (by rfl) ?_ | refine nAt 5 (by rfl) (by rfl) (by first | exact Or.inl rfl | exact Or.inr (Or.inl rfl) | exact Or.inr (Or.inr rfl)) (by rfl) (by rfl) ?_ | refine nAt 6 (by rfl) (by rfl) (by first | exact Or.inl rfl | exact Or.inr (Or.inl rfl) | exact Or.inr (Or.inr rfl)) (by rfl) (by rfl) ?_ | refine nAt 7 (by rfl) (by rfl) (by first | exact Or.inl rfl | exact Or.inr (Or.inl rfl) | exact Or.inr (Or.inr rfl)) (by rfl) (by rfl) ?_ | refine nAt 8 (by rfl) (by rfl) (by first | exact Or.inl rfl | exact Or.inr (Or.inl rfl) | exact Or.inr (Or.inr rfl)) (by rfl) (by rfl) ?_ | refine nAt 9 (by rfl) (by rfl) (by first | exact Or.inl rfl | exact Or.inr (Or.inl rfl) | exact Or.inr (Or.inr rfl)) (by rfl) (by rfl) ?_ | refine nAt 10 (by rfl) (by rfl) (by first | exact Or.inl rfl | exact Or.inr (Or.inl rfl) | exact Or.inr (Or.inr rfl)) (by rfl) (by rfl) ?_ | refine nAt 11 (by rfl) (by rfl) (by first | exact Or.inl rfl | exact Or.inr (Or.inl rfl) | exact Or.inr (Or.inr rfl)) (by rfl) (by rfl) ?_) | refine sCons ?_ | refine sNil ?_ | refine sIf ?_ | refine sRet ?_ | (refine sStore ?_; first | refine stAt 0 (by rfl) ?_ (by assumption) (by first | exact Or.inl rfl | exact Or.inr rfl) (by rfl) (by first | exact Or.inl rfl | exact Or.inr rfl) | refine stAt 1 (by rfl) ?_ (by assumption) (by first | exact Or.inl rfl | exact Or.inr rfl) (by rfl) (by first | exact Or.inl rfl | exact Or.inr rfl) | refine stAt 2 (by rfl) ?_ (by assumption) (by first | exact Or.inl rfl | exact Or.inr rfl) (by rfl) (by first | exact Or.inl rfl | exact Or.inr rfl) | refine stAt 3 (by rfl) ?_ (by assumption) (by first | exact Or.inl rfl | exact Or.inr rfl) (by rfl) (by first | exact Or.inl rfl | exact Or.inr rfl) | refine stAt 4 (by rfl) ?_ (by assumption) (by first | exact Or.inl rfl | exact Or.inr rfl) (by rfl) (by first | exact Or.inl rfl | exact Or.inr rfl) | refine stAt 5 (by rfl) ?_ (by assumption) (by first | exact Or.inl rfl | exact Or.inr rfl) (by rfl) (by first | exact Or.inl rfl | exact Or.inr rfl) | refine stAt 6 (by rfl) ?_ (by assumption) (by first | exact Or.inl rfl | exact Or.inr rfl) (by rfl) (by first | exact Or.inl rfl | exact Or.inr rfl) | refine stAt 7 (by rfl) ?_ (by assumption) (by first | exact Or.inl rfl | exact Or.inr rfl) (by rfl) (by first | exact Or.inl rfl | exact Or.inr rfl) | refine stAt 8 (by rfl) ?_ (by assumption) (by first | exact Or.inl rfl | exact Or.inr rfl) (by rfl) (by first | exact Or.inl rfl | exact Or.inr rfl) | refine stAt 9 (by rfl) ?_ (by assumption) (by first | exact Or.inl rfl | exact Or.inr rfl) (by rfl) (by first | exact Or.inl rfl | exact Or.inr rfl) | refine stAt 10 (by rfl) ?_ (by assumption) (by first | exact Or.inl rfl | exact Or.inr rfl) (by rfl) (by first | exact Or.inl rfl | exact Or.inr rfl) | refine stAt 11 (by rfl) ?_ (by assumption) (by first | exact Or.inl rfl | exact Or.inr rfl) (by rfl) (by first | exact Or.inl rfl | exact Or.inr rfl)) | refine sExpr ?_
  | refine aNil ?_ | refine aCons ?_ | refine aStar ?_ | refine eBl ?_ | refine eNon ?_ | refine eBin ?_ | refine eCmp ?_ | refine eIx ?_ | refine eTupN ?_ | refine eLstN ?_ | refine eChain ?_
  | refine eSl ?_ | refine oNone ?_ | refine oSome ?_ | refine eNot ?_ | refine eUn ?_ | refine eAnd ?_ | refine eOr ?_ | refine eOne ?_ | refine eIf ?_
  | refine tCmp ?_ | refine tChain ?_ | refine tNot ?_ | refine pAnd1 ?_ | refine pOr1 ?_ | refine pAnd ?_ | refine pOr ?_
  | refine kLen (by assumption) ?_ | refine kAbs (by assumption) ?_ | refine kInt (by assumption) ?_ | refine kList (by assumption) ?_ | refine kTuple (by assumption) ?_ | refine kAll (by assumption) ?_ | refine kIsi (by assumption) ?_
  | refine tyInt (by assumption) ?_ | refine tyBool (by assumption) ?_ | refine tyStr (by assumption) ?_ | refine tyTuple (by assumption) ?_ | refine tyList (by assumption) ?_
  | refine eCall (by assumption) (by assumption) (by decide) ?_ | refine eGlobI (by assumption) ?_
  | refine tPb ?_
  | refine bAdd ?_ | refine bSub ?_ | refine uNeg ?_ | refine cLt ?_ | refine cLe ?_ | refine cGt ?_ | refine cGe ?_ | refine cEq (by rfl) ?_ | refine cNe (by rfl) ?_
  | refine fInt ?_ | refine fAbs ?_
  | refine kIndex ?_ | refine kAppend ?_ | refine kIsascii ?_ | refine kIsalnum ?_ | refine kIsalpha ?_ | refine kIslower ?_
  | refine ⟨rfl, mIsascii ?_⟩ | refine ⟨rfl, mIsalnum ?_⟩ | refine ⟨rfl, mIsalpha ?_⟩ | refine ⟨rfl, mIslower ?_⟩
  | refine gsNil ?_ | refine gsCons ?_ | (first | refine gNm 0 (by rfl) ?_ (by assumption) (by first | exact Or.inl rfl | exact Or.inr rfl) (by first | exact Or.inl rfl | exact Or.inr rfl) | refine gNm 1 (by rfl) ?_ (by assumption) (by first | exact Or.inl rfl | exact Or.inr rfl) (by first | exact Or.inl rfl | exact Or.inr rfl) | refine gNm 2 (by rfl) ?_ (by assumption) (by first | exact Or.inl rfl | exact Or.inr rfl) (by first | exact Or.inl rfl | exact Or.inr rfl) | refine gNm 3 (by rfl) ?_ (by assumption) (by first | exact Or.inl rfl | exact Or.inr rfl) (by first | exact Or.inl rfl | exact Or.inr rfl) | refine gNm 4 (by rfl) ?_ (by assumption) (by first | exact Or.inl rfl | exact Or.inr rfl) (by first | exact Or.inl rfl | exact Or.inr rfl) | refine gNm 5 (by rfl) ?_ (by assumption) (by first | exact Or.inl rfl | exact Or.inr rfl) (by first | exact Or.inl rfl | exact Or.inr rfl) | refine gNm 6 (by rfl) ?_ (by assumption) (by first | exact Or.inl rfl | exact Or.inr rfl) (by first | exact Or.inl rfl | exact Or.inr rfl) | refine gNm 7 (by rfl) ?_ (by assumption) (by first | exact Or.inl rfl | exact Or.inr rfl) (by first | exact Or.inl rfl | exact Or.inr rfl) | refine gNm 8 (by rfl) ?_ (by assumption) (by first | exact Or.inl rfl | exact Or.inr rfl) (by first | exact Or.inl rfl | exact Or.inr rfl) | refine gNm 9 (by rfl) ?_ (by assumption) (by first | exact Or.inl rfl | exact Or.inr rfl) (by first | exact Or.inl rfl | exact Or.inr rfl) | refine gNm 10 (by rfl) ?_ (by assumption) (by first | exact Or.inl rfl | exact Or.inr rfl) (by first | exact Or.inl rfl | exact Or.inr rfl) | refine gNm 11 (by rfl) ?_ (by assumption) (by first | exact Or.inl rfl | exact Or.inr rfl) (by first | exact Or.inl rfl | exact Or.inr rfl)))
abbrev sKey : Stmt := topS 12
abbrev sDue : Stmt := topS 13
theorem scKey : FnScope ["node", "rank"] ["node"] (defScope sKey) := ⟨rfl, rfl, rfl, by decide +kernel, rfl, by decide +kernel, by decide +kernel⟩
theorem scDue : FnScope ["first", "second", "rows", "at", "one", "two", "a", "b", "k", "pair"] ["first", "second"] (defScope sDue) := ⟨rfl, rfl, rfl, by decide +kernel, rfl, by decide +kernel, by decide +kernel⟩
section
variable {P : Program} {w : World} {K : PySem.W.Frag} {mg : Str → Option Value} {base : Heap}
def spKey (K : PySem.W.Frag) : Sp := fun vs H Q _ => ∃ (v : V) (a : Nd), vs = [v] ∧ Dp K H v a.data ∧ ∀ p H', Same H H' → Dp K H' (.ref p) (.list a.lkey) → Q (.ref p) H'
theorem ok_key {f : Addr} {fd : FuncData} (F : Fun K "_law_key" "_law_key" sKey f fd) (hm : mg "_law_key" = some (.ref f)) (bd : Binds K fd ["node"] []) (m1 : mg "len" = none) : Cl P w K mg base 1 "_law_key" (spKey K) := by
  refine cl_mk (sc := ?sc) (body := ?body) F hm bd scKey ?hsc ?hb (fun vs H Q E h => ?_) (fun cdv A outer s H vs Q E hr nd h => ?_)
  case hsc => conv => lhs; whnf
  case hb => conv => lhs; whnf
  · obtain ⟨v, a, rfl, _⟩ := h
    rfl
  · obtain ⟨v, a, rfl, hd, q⟩ := h
    cases a with
    | var n =>
      obtain ⟨p, rfl, h1⟩ := nd_flat hd rfl
      repeat none_booked
      refine ⟨by show 5 ≤ 100000; decide, fun L H1 hL s1 e1 => ?_⟩
      refine ⟨tyL ⟨_, SqL.of e1⟩, ?_⟩
      repeat none_booked
      refine xT (seqT_mono s1 h1) (by rfl) ?_
      repeat none_booked
      refine mIndex (j := 0) (SqL.of e1) rfl rfl (by rfl) (by show eqV (V.str "var") (V.str "var") = true; decide +kernel) (fun m z hm hz => ?_) ?_
      · match m, hm, hz with

        | m + 0, hm, _ => omega
      repeat none_booked
      refine xT (seqT_mono s1 h1) (by rfl) ?_
      repeat none_booked
      refine ⟨_, rfl, ?_⟩
      rw [if_neg (by show ¬ decide (V.str "var" = V.str "atom") = true; decide +kernel)]
      repeat none_booked
      refine xT (seqT_mono s1 h1) (by rfl) ?_
      repeat none_booked
      refine ⟨_, rfl, ?_⟩
      rw [if_neg (by show ¬ decide (V.str "var" = V.str "tuple") = true; decide +kernel)]
      repeat none_booked
      refine xT (seqT_mono s1 h1) (by rfl) ?_
      repeat none_booked
      refine ⟨_, rfl, ?_⟩
      rw [if_neg (by show ¬ decide (V.str "var" = V.str "name") = true; decide +kernel)]
      repeat none_booked
      refine xT (seqT_mono s1 h1) (by rfl) ?_
      repeat none_booked
      exact ⟨by show 4 ≤ 100000; decide, fun p' H' hp s' e => q p' H' (s1.trans s') (.lst (SqL.of e) (.cons (.int _) (.cons (.int _) (.cons (.str _) (.cons (.int _) .nil)))))⟩
    | int n =>
      obtain ⟨p, rfl, h1⟩ := nd_flat hd rfl
      repeat none_booked
      refine ⟨by show 5 ≤ 100000; decide, fun L H1 hL s1 e1 => ?_⟩
      refine ⟨tyL ⟨_, SqL.of e1⟩, ?_⟩
      repeat none_booked
      refine xT (seqT_mono s1 h1) (by rfl) ?_
      repeat none_booked
      refine mIndex (j := 1) (SqL.of e1) rfl rfl (by rfl) (by show eqV (V.str "int") (V.str "int") = true; decide +kernel) (fun m z hm hz => ?_) ?_
      · match m, hm, hz with
        | 0, _, hz => rw [← Option.some.inj hz]; show eqV (V.str "var") (V.str "int") = false; decide +kernel
        | m + 1, hm, _ => omega
      repeat none_booked
      refine xT (seqT_mono s1 h1) (by rfl) ?_
      repeat none_booked
      refine ⟨_, rfl, ?_⟩
      rw [if_neg (by show ¬ decide (V.str "int" = V.str "atom") = true; decide +kernel)]
      repeat none_booked
      refine xT (seqT_mono s1 h1) (by rfl) ?_
      repeat none_booked
      refine ⟨_, rfl, ?_⟩
      rw [if_neg (by show ¬ decide (V.str "int" = V.str "tuple") = true; decide +kernel)]
      repeat none_booked
      refine xT (seqT_mono s1 h1) (by rfl) ?_
      repeat none_booked
      refine ⟨_, rfl, ?_⟩
      rw [if_neg (by show ¬ decide (V.str "int" = V.str "name") = true; decide +kernel)]
      repeat none_booked
      refine xT (seqT_mono s1 h1) (by rfl) ?_
      repeat none_booked
      exact ⟨by show 4 ≤ 100000; decide, fun p' H' hp s' e => q p' H' (s1.trans s') (.lst (SqL.of e) (.cons (.int _) (.cons (.int _) (.cons (.str _) (.cons (.int _) .nil)))))⟩
    | atom z =>
      obtain ⟨p, rfl, h1⟩ := nd_flat hd rfl
      repeat none_booked
      refine ⟨by show 5 ≤ 100000; decide, fun L H1 hL s1 e1 => ?_⟩
      refine ⟨tyL ⟨_, SqL.of e1⟩, ?_⟩
      repeat none_booked
      refine xT (seqT_mono s1 h1) (by rfl) ?_
      repeat none_booked
      refine mIndex (j := 2) (SqL.of e1) rfl rfl (by rfl) (by show eqV (V.str "atom") (V.str "atom") = true; decide +kernel) (fun m z hm hz => ?_) ?_
      · match m, hm, hz with
        | 0, _, hz => rw [← Option.some.inj hz]; show eqV (V.str "var") (V.str "atom") = false; decide +kernel
        | 1, _, hz => rw [← Option.some.inj hz]; show eqV (V.str "int") (V.str "atom") = false; decide +kernel
        | m + 2, hm, _ => omega
      repeat none_booked
      refine xT (seqT_mono s1 h1) (by rfl) ?_
      repeat none_booked
      refine ⟨_, rfl, ?_⟩
      rw [if_pos (by show decide (V.str "atom" = V.str "atom") = true; decide +kernel)]
      repeat none_booked
      refine xT (seqT_mono s1 h1) (by rfl) ?_
      repeat none_booked
      exact ⟨by show 4 ≤ 100000; decide, fun p' H' hp s' e => q p' H' (s1.trans s') (.lst (SqL.of e) (.cons (.int _) (.cons (.int _) (.cons (.str _) (.cons (.int _) .nil)))))⟩
    | tup l ps =>
      obtain ⟨p, b, rfl, h1, h2⟩ := nd_tup hd
      repeat none_booked
      refine ⟨by show 5 ≤ 100000; decide, fun L H1 hL s1 e1 => ?_⟩
      refine ⟨tyL ⟨_, SqL.of e1⟩, ?_⟩
      repeat none_booked
      refine xT (seqT_mono s1 h1) (by rfl) ?_
      repeat none_booked
      refine mIndex (j := 3) (SqL.of e1) rfl rfl (by rfl) (by show eqV (V.str "tuple") (V.str "tuple") = true; decide +kernel) (fun m z hm hz => ?_) ?_
      · match m, hm, hz with
        | 0, _, hz => rw [← Option.some.inj hz]; show eqV (V.str "var") (V.str "tuple") = false; decide +kernel
        | 1, _, hz => rw [← Option.some.inj hz]; show eqV (V.str "int") (V.str "tuple") = false; decide +kernel
        | 2, _, hz => rw [← Option.some.inj hz]; show eqV (V.str "atom") (V.str "tuple") = false; decide +kernel
        | m + 3, hm, _ => omega
      repeat none_booked
      refine xT (seqT_mono s1 h1) (by rfl) ?_
      repeat none_booked
      refine ⟨_, rfl, ?_⟩
      rw [if_neg (by show ¬ decide (V.str "tuple" = V.str "atom") = true; decide +kernel)]
      repeat none_booked
      refine xT (seqT_mono s1 h1) (by rfl) ?_
      repeat none_booked
      refine ⟨_, rfl, ?_⟩
      rw [if_pos (by show decide (V.str "tuple" = V.str "tuple") = true; decide +kernel)]
      repeat none_booked
      refine xT (seqT_mono s1 h1) (by rfl) ?_
      repeat none_booked
      refine fLenT (seqT_mono s1 h2) ?_
      repeat none_booked
      refine xT (seqT_mono s1 h1) (by rfl) ?_
      repeat none_booked
      have el : (nums ps).length = ps.length := List.length_map _
      rw [el]
      exact ⟨by show 4 ≤ 100000; decide, fun p' H' hp s' e => q p' H' (s1.trans s') (.lst (SqL.of e) (.cons (.int _) (.cons (.int _) (.cons (.str _) (.cons (.int _) .nil)))))⟩
    | name z n =>
      obtain ⟨p, rfl, h1⟩ := nd_flat hd rfl
      repeat none_booked
      refine ⟨by show 5 ≤ 100000; decide, fun L H1 hL s1 e1 => ?_⟩
      refine ⟨tyL ⟨_, SqL.of e1⟩, ?_⟩
      repeat none_booked
      refine xT (seqT_mono s1 h1) (by rfl) ?_
      repeat none_booked
      refine mIndex (j := 4) (SqL.of e1) rfl rfl (by rfl) (by show eqV (V.str "name") (V.str "name") = true; decide +kernel) (fun m z hm hz => ?_) ?_
      · match m, hm, hz with
        | 0, _, hz => rw [← Option.some.inj hz]; show eqV (V.str "var") (V.str "name") = false; decide +kernel
        | 1, _, hz => rw [← Option.some.inj hz]; show eqV (V.str "int") (V.str "name") = false; decide +kernel
        | 2, _, hz => rw [← Option.some.inj hz]; show eqV (V.str "atom") (V.str "name") = false; decide +kernel
        | 3, _, hz => rw [← Option.some.inj hz]; show eqV (V.str "tuple") (V.str "name") = false; decide +kernel
        | m + 4, hm, _ => omega
      repeat none_booked
      refine xT (seqT_mono s1 h1) (by rfl) ?_
      repeat none_booked
      refine ⟨_, rfl, ?_⟩
      rw [if_neg (by show ¬ decide (V.str "name" = V.str "atom") = true; decide +kernel)]
      repeat none_booked
      refine xT (seqT_mono s1 h1) (by rfl) ?_
      repeat none_booked
      refine ⟨_, rfl, ?_⟩
      rw [if_neg (by show ¬ decide (V.str "name" = V.str "tuple") = true; decide +kernel)]
      repeat none_booked
      refine xT (seqT_mono s1 h1) (by rfl) ?_
      repeat none_booked
      refine ⟨_, rfl, ?_⟩
      rw [if_pos (by show decide (V.str "name" = V.str "name") = true; decide +kernel)]
      repeat none_booked
      refine xT (seqT_mono s1 h1) (by rfl) ?_
      repeat none_booked
      refine xT (seqT_mono s1 h1) (by rfl) ?_
      repeat none_booked
      exact ⟨by show 4 ≤ 100000; decide, fun p' H' hp s' e => q p' H' (s1.trans s') (.lst (SqL.of e) (.cons (.int _) (.cons (.int _) (.cons (.str _) (.cons (.int _) .nil)))))⟩
end
end K4

namespace K4
open PySem PySem.Spec PyProof.Rows L2 Wk
local macro_rules | `(tactic| none_booked) => `(tactic| first
  | refine eInt ?_ | refine eStr ?_ | (refine eNm ?_; first | refine nAt 0 (by rfl) (by rfl) (by first | exact Or.inl rfl | exact Or.inr (Or.inl rfl) | exact Or.inr (Or.inr rfl)) (by rfl) (by rfl) ?_ | refine nAt 1 (by rfl) (by rfl) (by first | exact Or.inl rfl | exact Or.inr (Or.inl rfl) | exact Or.inr (Or.inr rfl)) (by rfl) (by rfl) ?_ | refine nAt 2 (by rfl) (by rfl) (by first | exact Or.inl rfl | exact Or.inr (Or.inl rfl) | exact Or.inr (Or.inr rfl)) (by rfl) (by rfl) ?_ | refine nAt 3 (by rfl) (by rfl) (by first | exact Or.inl rfl | exact Or.inr (Or.inl rfl) | exact Or.inr (Or.inr rfl)) (by rfl) (by rfl) ?_ | refine nAt 4 (by rfl) (by rfl) (by first | exact Or.inl rfl | exact Or.inr (Or.inl rfl) | exact Or.inr (Or.inr rfl)) (by rfl) (by rfl) ?_ | refine nAt 5 (by rfl) (by rfl) (by first | exact Or.inl rfl | exact Or.inr (Or.inl rfl) | exact Or.inr (Or.inr rfl)) (by rfl) (by rfl) ?_ | refine nAt 6 (by rfl) (by rfl) (by first | exact Or.inl rfl | exact Or.inr (Or.inl rfl) | exact Or.inr (Or.inr rfl)) (by rfl) (by rfl) ?_ | refine nAt 7 (by rfl) (by rfl) (by first | exact Or.inl rfl | exact Or.inr (Or.inl rfl) | exact Or.inr (Or.inr rfl)) (by rfl) (by rfl) ?_ | refine nAt 8 (by rfl) (by rfl) (by first | exact Or.inl rfl | exact Or.inr (Or.inl rfl) | exact Or.inr (Or.inr rfl)) (by rfl) (by rfl) ?_ | refine nAt 9 (by rfl) (by rfl) (by first | exact Or.inl rfl | exact Or.inr (Or.inl rfl) | exact Or.inr (Or.inr rfl)) (by rfl) (by rfl) ?_ | refine nAt 10 (by rfl) (by rfl) (by first | exact Or.inl rfl | exact Or.inr (Or.inl rfl) | exact Or.inr (Or.inr rfl)) (by rfl) (by rfl) ?_ | refine nAt 11 (by rfl) (by rfl) (by first | exact Or.inl rfl | exact Or.inr (Or.inl rfl) | exact Or.inr (Or.inr rfl)) (by rfl) (by rfl) ?_) | refine sCons ?_ | refine sNil ?_ | refine sIf ?_ | refine sRet ?_ | (refine sStore ?_; first | refine stAt 0 (by rfl) ?_ (by assumption) (by first | exact Or.inl rfl | exact Or.inr rfl) (by rfl) (by first | exact Or.inl rfl | exact Or.inr rfl) | refine stAt 1 (by rfl) ?_ (by assumption) (by first | exact Or.inl rfl | exact Or.inr rfl) (by rfl) (by first | exact Or.inl rfl | exact Or.inr rfl) | refine stAt 2 (by rfl) ?_ (by assumption) (by first | exact Or.inl rfl | exact Or.inr rfl) (by rfl) (by first | exact Or.inl rfl | exact Or.inr rfl) | refine stAt 3 (by rfl) ?_ (by assumption) (by first | exact Or.inl rfl | exact Or.inr rfl) (by rfl) (by first | exact Or.inl rfl | exact Or.inr rfl) | refine stAt 4 (by rfl) ?_ (by assumption) (by first | exact Or.inl rfl | exact Or.inr rfl) (by rfl) (by first | exact Or.inl rfl | exact Or.inr rfl) | refine stAt 5 (by rfl) ?_ (by assumption) (by first | exact Or.inl rfl | exact Or.inr rfl) (by rfl) (by first | exact Or.inl rfl | exact Or.inr rfl) | refine stAt 6 (by rfl) ?_ (by assumption) (by first | exact Or.inl rfl | exact Or.inr rfl) (by rfl) (by first | exact Or.inl rfl | exact Or.inr rfl) | refine stAt 7 (by rfl) ?_ (by assumption) (by first | exact Or.inl rfl | exact Or.inr rfl) (by rfl) (by first | exact Or.inl rfl | exact Or.inr rfl) | refine stAt 8 (by rfl) ?_ (by assumption) (by first | exact Or.inl rfl | exact Or.inr rfl) (by rfl) (by first | exact Or.inl rfl | exact Or.inr rfl) | refine stAt 9 (by rfl) ?_ (by assumption) (by first | exact Or.inl rfl | exact Or.inr rfl) (by rfl) (by first | exact Or.inl rfl | exact Or.inr rfl) | refine stAt 10 (by rfl) ?_ (by assumption) (by first | exact Or.inl rfl | exact Or.inr rfl) (by rfl) (by first | exact Or.inl rfl | exact Or.inr rfl) | refine stAt 11 (by rfl) ?_ (by assumption) (by first | exact Or.inl rfl | exact Or.inr rfl) (by rfl) (by first | exact Or.inl rfl | exact Or.inr rfl)) | refine sExpr ?_
  | refine aNil ?_ | refine aCons ?_ | refine aStar ?_ | refine eBl ?_ | refine eNon ?_ | refine eBin ?_ | refine eCmp ?_ | refine eIx ?_ | refine eTupN ?_ | refine eLstN ?_ | refine eChain ?_
  | refine eSl ?_ | refine oNone ?_ | refine oSome ?_ | refine eNot ?_ | refine eUn ?_ | refine eAnd ?_ | refine eOr ?_ | refine eOne ?_ | refine eIf ?_
  | refine tCmp ?_ | refine tChain ?_ | refine tNot ?_ | refine pAnd1 ?_ | refine pOr1 ?_ | refine pAnd ?_ | refine pOr ?_
  | refine kLen (by assumption) ?_ | refine kAbs (by assumption) ?_ | refine kInt (by assumption) ?_ | refine kList (by assumption) ?_ | refine kTuple (by assumption) ?_ | refine kAll (by assumption) ?_ | refine kIsi (by assumption) ?_
  | refine tyInt (by assumption) ?_ | refine tyBool (by assumption) ?_ | refine tyStr (by assumption) ?_ | refine tyTuple (by assumption) ?_ | refine tyList (by assumption) ?_
  | refine eCall (by assumption) (by assumption) (by decide) ?_ | refine eGlobI (by assumption) ?_
  | refine tPb ?_
  | refine bAdd ?_ | refine bSub ?_ | refine uNeg ?_ | refine cLt ?_ | refine cLe ?_ | refine cGt ?_ | refine cGe ?_ | refine cEq (by rfl) ?_ | refine cNe (by rfl) ?_
  | refine fInt ?_ | refine fAbs ?_
  | refine kIndex ?_ | refine kAppend ?_ | refine kIsascii ?_ | refine kIsalnum ?_ | refine kIsalpha ?_ | refine kIslower ?_
  | refine ⟨rfl, mIsascii ?_⟩ | refine ⟨rfl, mIsalnum ?_⟩ | refine ⟨rfl, mIsalpha ?_⟩ | refine ⟨rfl, mIslower ?_⟩
  | refine gsNil ?_ | refine gsCons ?_ | (first | refine gNm 0 (by rfl) ?_ (by assumption) (by first | exact Or.inl rfl | exact Or.inr rfl) (by first | exact Or.inl rfl | exact Or.inr rfl) | refine gNm 1 (by rfl) ?_ (by assumption) (by first | exact Or.inl rfl | exact Or.inr rfl) (by first | exact Or.inl rfl | exact Or.inr rfl) | refine gNm 2 (by rfl) ?_ (by assumption) (by first | exact Or.inl rfl | exact Or.inr rfl) (by first | exact Or.inl rfl | exact Or.inr rfl) | refine gNm 3 (by rfl) ?_ (by assumption) (by first | exact Or.inl rfl | exact Or.inr rfl) (by first | exact Or.inl rfl | exact Or.inr rfl) | refine gNm 4 (by rfl) ?_ (by assumption) (by first | exact Or.inl rfl | exact Or.inr rfl) (by first | exact Or.inl rfl | exact Or.inr rfl) | refine gNm 5 (by rfl) ?_ (by assumption) (by first | exact Or.inl rfl | exact Or.inr rfl) (by first | exact Or.inl rfl | exact Or.inr rfl) | refine gNm 6 (by rfl) ?_ (by assumption) (by first | exact Or.inl rfl | exact Or.inr rfl) (by first | exact Or.inl rfl | exact Or.inr rfl) | refine gNm 7 (by rfl) ?_ (by assumption) (by first | exact Or.inl rfl | exact Or.inr rfl) (by first | exact Or.inl rfl | exact Or.inr rfl) | refine gNm 8 (by rfl) ?_ (by assumption) (by first | exact Or.inl rfl | exact Or.inr rfl) (by first | exact Or.inl rfl | exact Or.inr rfl) | refine gNm 9 (by rfl) ?_ (by assumption) (by first | exact Or.inl rfl | exact Or.inr rfl) (by first | exact Or.inl rfl | exact Or.inr rfl) | refine gNm 10 (by rfl) ?_ (by assumption) (by first | exact Or.inl rfl | exact Or.inr rfl) (by first | exact Or.inl rfl | exact Or.inr rfl) | refine gNm 11 (by rfl) ?_ (by assumption) (by first | exact Or.inl rfl | exact Or.inr rfl) (by first | exact Or.inl rfl | exact Or.inr rfl)))
def pd (p : Pr) : PyData := .tuple [.int (p.1 : Nat), .int (p.2 : Nat)]
theorem pd_eqv (p q : Pr) : PyData.eqv (pd p) (pd q) = decide (p = q) := by
  unfold pd
  rw [eqv_tup, eqvAll_cons, eqvAll_cons, eqvAll_nil, Bool.and_true, eqv_int, eqv_int]
  refine dec2 ⟨fun e => by rw [e]; exact ⟨rfl, rfl⟩, fun e => ?_⟩
  have e1 : p.1 = q.1 := by have := e.1; omega
  have e2 : p.2 = q.2 := by have := e.2; omega
  exact Prod.ext e1 e2
theorem pd_any (rows : List Pr) (p : Pr) : ((rows.map pd).any fun z => PyData.eqv z (pd p)) = decide (p ∈ rows) := by
  rw [List.any_map]
  by_cases h : p ∈ rows
  · rw [decide_eq_true h]
    exact List.any_eq_true.mpr ⟨p, h, by show PyData.eqv (pd p) (pd p) = true; rw [pd_eqv]; exact decide_eq_true rfl⟩
  · rw [decide_eq_false h]
    refine Bool.eq_false_iff.mpr fun z => ?_
    obtain ⟨q, hq, e⟩ := List.any_eq_true.mp z
    have e' : PyData.eqv (pd q) (pd p) = true := e
    rw [pd_eqv] at e'
    rw [of_decide_eq_true e'] at hq
    exact h hq
theorem pd_lay : ∀ rows : List Pr, PyData.canLayAll0 (rows.map pd) = true ∧ PyData.depthAll (rows.map pd) ≤ 2
  | [] => by simp [PyData.canLayAll0, PyData.depthAll]
  | p :: rows => by
    obtain ⟨h1, h2⟩ := pd_lay rows
    rw [List.map_cons, PyData.canLayAll0, PyData.depthAll, h1]
    have e : (pd p).canLay0 = true ∧ (pd p).depth ≤ 2 := by simp [pd, PyData.canLay0, PyData.canLayAll0, PyData.depth, PyData.depthAll]
    rw [e.1]
    exact ⟨rfl, by omega⟩
theorem pd_shaped (rows : List Pr) : SeqAt.shaped (.list (rows.map pd)) = true := by
  obtain ⟨h1, h2⟩ := pd_lay rows
  unfold SeqAt.shaped
  rw [PyData.canLay0, PyData.depth, h1]
  simp
  omega
theorem pd_shaped1 (p : Pr) : SeqAt.shaped (pd p) = true := by
  simp [pd, SeqAt.shaped, PyData.canLay0, PyData.canLayAll0, PyData.depth, PyData.depthAll]
theorem PR.all {K : PySem.W.Frag} {H : Hp} : ∀ {bs : List Addr} {rows : List Pr}, PR H bs rows → DpAll K H (bs.map V.ref) (rows.map pd)
  | [], [], _ => .nil
  | [], _ :: _, h => by have e := h.len; cases e
  | _ :: _, [], h => by have e := h.len; cases e
  | b :: bs, p :: rows, h => by
    have h1 : H b = some (.tup [.int (p.1 : Nat), .int (p.2 : Nat)]) := (List.cons.inj h).1
    have h2 : PR H bs rows := (List.cons.inj h).2
    exact .cons (.tup (SqT.of h1) (.cons (.int _) (.cons (.int _) .nil))) (PR.all h2)
structure MidL (H0 H : Hp) (pa : Addr) (rows : List Pr) (bs : List Addr) : Prop where
  pq : H pa = some (.lst (bs.map V.ref))
  pr : PR H bs rows
  hs : Same H0 H
def mu3 (σ : L2.St) : Nat := match σ[3]? with
  | some (some (V.int i)) => 577 - i.toNat
  | _ => 0
theorem room65 {k : Nat} {A : Around} (r : Room k A) : A.units + 65 < cLine := by have := r.un; omega
section
variable {P : Program} {w : World} {K : PySem.W.Frag} {mg : Str → Option Value} {base : Heap}
theorem ok_due {f : Addr} {fd : FuncData} (F : Fun K "_law_due" "_law_due" sDue f fd) (hm : mg "_law_due" = some (.ref f)) (bd : Binds K fd ["first", "second"] []) (c1 : Cl P w K mg base 1 "_law_key" (spKey K)) (m1 : mg "len" = none) (m2 : mg "int" = none) (m3 : mg "range" = none) : Cl P w K mg base 2 "_law_due" (spCmp K) := by
  refine cl_mk (sc := ?sc) (body := ?body) F hm bd scDue ?hsc ?hb (fun vs H Q E h => ?_) (fun cdv A outer s H vs Q E hr nd h => ?_)
  case hsc => conv => lhs; whnf
  case hb => conv => lhs; whnf
  · obtain ⟨v, u, f, g, rfl, _⟩ := h
    rfl
  · obtain ⟨v, u, f, g, rfl, hf, hg, gf, gg, q⟩ := h
    have hu := hr.units
    have hu65 := room65 hr
    repeat none_booked
    refine ⟨by show 2 ≤ 100000; decide, fun p0 H1 hp0 s1 e0 => ?_⟩
    repeat none_booked
    refine ⟨by show 1 ≤ 100000; decide, fun pa H2 hpa s2 ea => ?_⟩
    repeat none_booked
    have sA : Same H H2 := s1.trans s2
    have npa : H pa = none := s1.free hpa
    obtain ⟨fa, fx, rfl, fs, fl, fat⟩ := gr_at hf
    obtain ⟨ga, gx, rfl, gs, gl, gat⟩ := gr_at hg
    refine sWhile ?_
    refine while_by (fun σ' H' => ∃ i rows bs c1 c2 c3 c4 c5 c6, σ' = [some (.ref fa), some (.ref ga), some (.ref pa), some (.int (i : Nat)), c1, c2, c3, c4, c5, c6] ∧ Turn f g H H' i rows bs pa) (fun σ' _ => mu3 σ') ?_ ?_ (fun σ H Q Q' m h => wT_mono h m)
    · refine ⟨0, [(0, 0)], [p0], none, none, none, none, none, none, rfl, ⟨ea, ?_, sA, fun r z => z, by decide, ?_, by decide⟩⟩
      · show [H2 p0] = _
        rw [s2 _ _ e0]
        rfl
      · intro x hx
        rw [List.mem_singleton.mp hx]
        exact ⟨List.length_pos_iff.mpr gf.1.1, List.length_pos_iff.mpr gg.1.1⟩
    · rintro σ' H' ⟨i, rows, bs, c1, c2, c3, c4, c5, c6, rfl, T⟩
      have hl := T.pr.len
      repeat none_booked
      refine fLenL (SqL.of T.pq) ?_
      repeat none_booked
      refine ⟨_, rfl, ?_⟩
      refine ite2' (fun h => ?_) (fun h => ?_)
      · have hi : i < rows.length := by
          rw [List.length_map] at h
          omega
        obtain ⟨p, hp⟩ : ∃ p, rows[i]? = some p := ⟨_, List.getElem?_eq_getElem hi⟩
        obtain ⟨b, hb, eb⟩ := T.pr.get hp
        have hin := T.inn p (List.mem_of_getElem? hp)
        obtain ⟨a, ha⟩ : ∃ a, f[p.1]? = some a := ⟨_, List.getElem?_eq_getElem hin.1⟩
        obtain ⟨c, hc⟩ : ∃ c, g[p.2]? = some c := ⟨_, List.getElem?_eq_getElem hin.2⟩
        obtain ⟨va, hva, dva⟩ := fat _ _ ha
        obtain ⟨vc, hvc, dvc⟩ := gat _ _ hc
        have fa1 := gf.2 a (List.mem_of_getElem? ha)
        have fc1 := gg.2 c (List.mem_of_getElem? hc)
        have hbi : (bs.map V.ref)[i]? = some (.ref b) := by rw [List.getElem?_map, hb]; rfl
        have lr := rows_len T.nd T.inn gf.1.2.1 gg.1.2.1
        repeat none_booked
        refine sAsg ?_
        repeat none_booked
        refine xL (SqL.of T.pq) (atI_nat (j := i) hbi) ?_
        refine gTup ⟨b, _, rfl, SqT.of eb, rfl, ?_⟩
        repeat none_booked
        refine xT (seqT_mono T.hs fs) (atI_nat (j := p.1) hva) ?_
        repeat none_booked
        refine ⟨va, a, rfl, dp_mono T.hs dva, fun q1 H4 s4 d4 => ?_⟩
        repeat none_booked
        refine xT (seqT_mono (T.hs.trans s4) gs) (atI_nat (j := p.2) hvc) ?_
        repeat none_booked
        refine ⟨vc, c, rfl, dp_mono (T.hs.trans s4) dvc, fun q2 H5 s5 d5 => ?_⟩
        repeat none_booked
        refine cNeD hu (dp_mono s5 d4) d5 (lkey_shaped fa1) (lkey_shaped fc1) ?_
        repeat none_booked
        refine ⟨_, rfl, ?_⟩
        rw [lkey_eqv]
        have s45 := T.hs.trans (s4.trans s5)
        by_cases hk : a.key = c.key
        · rw [decide_eq_true hk, if_neg (by decide)]
          repeat none_booked
          have pq5 : H5 pa = some (.lst (bs.map V.ref)) := s5 _ _ (s4 _ _ T.pq)
          have pr5 : PR H5 bs rows := T.pr.keep (keep_same (s4.trans s5))
          have go : ∀ r, Goes f g (pushAll rows (a.parts.zip c.parts)) (i + 1) r → Goes f g [(0, 0)] 0 r := fun r z => T.go r (Goes.step hp ha hc hk z)
          have fin : ∀ (H' : Hp) (bs' : List Addr) (c8 c9 : Option V), MidL H H' pa (pushAll rows (a.parts.zip c.parts)) bs' → (∃ j rows bs c1 c2 c3 c4 c5 c6, [some (.ref fa), some (.ref ga), some (.ref pa), some (.int ((i : Nat) + 1)), some (.int (p.1 : Nat)), some (.int (p.2 : Nat)), some (.ref q1), some (.ref q2), c8, c9] = [some (.ref fa), some (.ref ga), some (.ref pa), some (.int (j : Nat)), c1, c2, c3, c4, c5, c6] ∧ Turn f g H H' j rows bs pa) ∧ mu3 [some (.ref fa), some (.ref ga), some (.ref pa), some (.int ((i : Nat) + 1)), some (.int (p.1 : Nat)), some (.int (p.2 : Nat)), some (.ref q1), some (.ref q2), c8, c9] < mu3 [some (.ref fa), some (.ref ga), some (.ref pa), some (.int (i : Nat)), c1, c2, c3, c4, c5, c6] := fun H' bs' c8 c9 M => by
            refine ⟨⟨i + 1, _, bs', _, _, _, _, c8, c9, rfl, ⟨M.pq, M.pr, M.hs, go, pushAll_nodup T.nd, push_in gf.1 gg.1 T.inn ha hc, Nat.le_trans hi (pushAll_len _ _)⟩⟩, ?_⟩
            show 577 - ((i : Int) + 1).toNat < 577 - ((i : Int)).toNat
            omega
          refine xT (seqT_mono s45 fs) (atI_nat (j := p.1) hva) ?_
          obtain ⟨ap, ax, rfl, hax⟩ := nd_kind (dp_mono s45 dva)
          repeat none_booked
          refine xT hax (atI_nat (j := 0) rfl) ?_
          repeat none_booked
          refine ⟨_, rfl, ?_⟩
          rw [kind_tup]
          cases hat : a.isTup with
          | false =>
            rw [if_neg Bool.false_ne_true]
            repeat none_booked
            refine fin _ bs _ _ ?_
            have e0 : a.parts = [] := by cases a <;> first | rfl | cases hat
            rw [e0]
            exact ⟨pq5, pr5, s45⟩
          | true =>
            rw [if_pos rfl]
            cases a with
            | tup l ps =>
              cases c with
              | tup l2 ps2 =>
                have hkl : ps.length = ps2.length := key_parts hk
                obtain ⟨ap, aq, e1, h1, h2⟩ := nd_tup dva
                cases e1
                obtain ⟨cp, cq, rfl, h3, h4⟩ := nd_tup dvc
                have rin : ∀ k, In24 (pushAll rows ((ps.zip ps2).take k)) f.length g.length := fun k x hx => by
                  rcases pushAll_mem hx with z | z
                  · exact T.inn x z
                  · obtain ⟨z1, z2⟩ := zip_mem (List.mem_of_mem_take z)
                    exact ⟨(gf.1.2.2 _ (List.mem_of_getElem? ha)).2 _ z1, (gg.1.2.2 _ (List.mem_of_getElem? hc)).2 _ z2⟩
                have ge : ∀ k, (pushAll rows ((ps.zip ps2).take k)).length ≤ 576 := fun k => rows_len (pushAll_nodup T.nd) (rin k) gf.1.2.1 gg.1.2.1
                have l6 := (gf.1.2.2 _ (List.mem_of_getElem? ha)).1
                repeat none_booked
                refine sForR m3 ?_
                repeat none_booked
                refine xT (seqT_mono s45 fs) (atI_nat (j := p.1) hva) ?_
                repeat none_booked
                refine xT (seqT_mono s45 h1) (by rfl) ?_
                repeat none_booked
                refine fLenT (seqT_mono s45 h2) ?_
                repeat none_booked
                have el : (nums ps).length = ps.length := List.length_map _
                refine ⟨_, rfl, by omega, by rw [el]; have : ps.length ≤ 6 := l6; omega, fun k σ' H' => ∃ bs' c8 c9, σ' = [some (.ref fa), some (.ref ga), some (.ref pa), some (.int ((i : Nat) + 1)), some (.int (p.1 : Nat)), some (.int (p.2 : Nat)), some (.ref q1), some (.ref q2), c8, c9] ∧ MidL H H' pa (pushAll rows ((ps.zip ps2).take k)) bs', ⟨bs, _, _, rfl, pq5, pr5, s45⟩, ?_, ?_⟩
                · rintro k σ' H' hkn ⟨bs', c8, c9, rfl, M⟩
                  rw [el] at hkn
                  have hk1 : k < ps.length := by omega
                  obtain ⟨x, hx⟩ : ∃ x, ps[k]? = some x := ⟨_, List.getElem?_eq_getElem hk1⟩
                  obtain ⟨y, hy⟩ : ∃ y, ps2[k]? = some y := ⟨_, List.getElem?_eq_getElem (by omega)⟩
                  have hz := zip_get hx hy
                  have nx : (nums ps)[k]? = some (.int (x : Nat)) := by unfold nums; rw [List.getElem?_map, hx]; rfl
                  have ny : (nums ps2)[k]? = some (.int (y : Nat)) := by unfold nums; rw [List.getElem?_map, hy]; rfl
                  repeat none_booked
                  refine xT (seqT_mono M.hs fs) (atI_nat (j := p.1) hva) ?_
                  repeat none_booked
                  refine xT (seqT_mono M.hs h1) (by rfl) ?_
                  repeat none_booked
                  refine xT (seqT_mono M.hs h2) (atI_nat (j := k) nx) ?_
                  repeat none_booked
                  refine xT (seqT_mono M.hs gs) (atI_nat (j := p.2) hvc) ?_
                  repeat none_booked
                  refine xT (seqT_mono M.hs h3) (by rfl) ?_
                  repeat none_booked
                  refine xT (seqT_mono M.hs h4) (atI_nat (j := k) ny) ?_
                  repeat none_booked
                  refine ⟨by show 2 ≤ 100000; decide, fun Tm H9 hT s9 et => ?_⟩
                  repeat none_booked
                  refine cNotInL hu65 (d := pd (x, y)) (ds := (pushAll rows ((ps.zip ps2).take k)).map pd) (.tup (SqT.of et) (.cons (.int _) (.cons (.int _) .nil))) (.lst (SqL.of (s9 _ _ M.pq)) (PR.all (M.pr.keep (keep_same s9)))) (pd_shaped1 _) (pd_shaped _) ?_
                  repeat none_booked
                  refine ⟨_, rfl, ?_⟩
                  rw [pd_any]
                  have pt := push_take (rows := rows) hz
                  have lr := ge k
                  by_cases hm : (x, y) ∈ pushAll rows ((ps.zip ps2).take k)
                  · rw [decide_eq_true hm, if_neg (by decide)]
                    repeat none_booked
                    refine ⟨bs', _, _, rfl, ?_⟩
                    have e : pushAll rows ((ps.zip ps2).take (k + 1)) = pushAll rows ((ps.zip ps2).take k) := by
                      rw [pt]; unfold push; exact if_pos hm
                    rw [e]
                    exact ⟨s9 _ _ M.pq, M.pr.keep (keep_same s9), M.hs.trans s9⟩
                  · rw [decide_eq_false hm, if_pos (by rfl)]
                    have e : pushAll rows ((ps.zip ps2).take (k + 1)) = pushAll rows ((ps.zip ps2).take k) ++ [(x, y)] := by
                      rw [pt]; unfold push; exact if_neg hm
                    repeat none_booked
                    refine ⟨tyL ⟨_, SqL.of (s9 _ _ M.pq)⟩, ?_⟩
                    repeat none_booked
                    refine mAppend (s9 _ _ M.pq) (by rw [List.length_map, M.pr.len]; exact lt_line (by omega)) ?_
                    repeat none_booked
                    refine ⟨bs' ++ [Tm], _, _, rfl, ?_⟩
                    rw [e]
                    have k1 : ∀ b t, H9 b = some (.tup t) → upd H9 pa (.lst (bs'.map V.ref ++ [.ref Tm])) b = some (.tup t) := keep_upd (fun t' z => by rw [s9 _ _ M.pq] at z; cases z)
                    exact ⟨by rw [List.map_append]; exact upd_same, PR.snoc (M.pr.keep fun b t eb => k1 b t (s9 _ _ eb)) (k1 _ _ et), same_put (M.hs.trans s9) npa⟩
                · rintro σ' H' ⟨bs', c8, c9, rfl, M⟩
                  have et : (ps.zip ps2).take (((nums ps).length : Nat) : Int).toNat = ps.zip ps2 := by
                    rw [List.take_of_length_le]
                    rw [List.length_zip, el]
                    omega
                  rw [et] at M
                  repeat none_booked
                  exact fin H' bs' c8 c9 M
              | _ => cases (congrArg Prod.fst hk : (3 : Int) = _)
            | _ => cases hat
        · rw [decide_eq_false hk, if_pos (by rfl)]
          repeat none_booked
          refine cLtL hu (dp_mono s5 d4) d5 (lkey_alike a c) (lkey_deep a) ?_
          rw [lkey_lt hk]
          repeat none_booked
          have z := T.go _ (Goes.diff hp ha hc hk)
          cases hkl : klt a.key c.key with
          | true =>
            refine fIntB ?_
            refine bMul (.inl ⟨by decide, by decide⟩) ?_
            repeat none_booked
            rw [hkl, if_pos rfl] at z
            exact q _ _ s45 z
          | false =>
            refine fIntB ?_
            refine bMul (.inl ⟨by decide, by decide⟩) ?_
            repeat none_booked
            rw [hkl, if_neg Bool.false_ne_true] at z
            exact q _ _ s45 z
      · repeat none_booked
        exact q _ _ T.hs (T.go _ (.stop (by rw [List.length_map] at h; omega)))
end
end K4

namespace K4
open PySem PySem.Spec PyProof.Rows L2 Wk
local macro_rules | `(tactic| none_booked) => `(tactic| first
  | refine eInt ?_ | refine eStr ?_ | (refine eNm ?_; first | refine nAt 0 (by rfl) (by rfl) (by first | exact Or.inl rfl | exact Or.inr (Or.inl rfl) | exact Or.inr (Or.inr rfl)) (by rfl) (by rfl) ?_ | refine nAt 1 (by rfl) (by rfl) (by first | exact Or.inl rfl | exact Or.inr (Or.inl rfl) | exact Or.inr (Or.inr rfl)) (by rfl) (by rfl) ?_ | refine nAt 2 (by rfl) (by rfl) (by first | exact Or.inl rfl | exact Or.inr (Or.inl rfl) | exact Or.inr (Or.inr rfl)) (by rfl) (by rfl) ?_ | refine nAt 3 (by rfl) (by rfl) (by first | exact Or.inl rfl | exact Or.inr (Or.inl rfl) | exact Or.inr (Or.inr rfl)) (by rfl) (by rfl) ?_ | refine nAt 4 (by rfl) (by rfl) (by first | exact Or.inl rfl | exact Or.inr (Or.inl rfl) | exact Or.inr (Or.inr rfl)) (by rfl) (by rfl) ?_ | refine nAt 5 (by rfl) (by rfl) (by first | exact Or.inl rfl | exact Or.inr (Or.inl rfl) | exact Or.inr (Or.inr rfl)) (by rfl) (by rfl) ?_ | refine nAt 6 (by rfl) (by rfl) (by first | exact Or.inl rfl | exact Or.inr (Or.inl rfl) | exact Or.inr (Or.inr rfl)) (by rfl) (by rfl) ?_ | refine nAt 7 (by rfl) (by rfl) (by first | exact Or.inl rfl | exact Or.inr (Or.inl rfl) | exact Or.inr (Or.inr rfl)) (by rfl) (by rfl) ?_ | refine nAt 8 (by rfl) (by rfl) (by first | exact Or.inl rfl | exact Or.inr (Or.inl rfl) | exact Or.inr (Or.inr rfl)) (by rfl) (by rfl) ?_ | refine nAt 9 (by rfl) (by rfl) (by first | exact Or.inl rfl | exact Or.inr (Or.inl rfl) | exact Or.inr (Or.inr rfl)) (by rfl) (by rfl) ?_ | refine nAt 10 (by rfl) (by rfl) (by first | exact Or.inl rfl | exact Or.inr (Or.inl rfl) | exact Or.inr (Or.inr rfl)) (by rfl) (by rfl) ?_ | refine nAt 11 (by rfl) (by rfl) (by first | exact Or.inl rfl | exact Or.inr (Or.inl rfl) | exact Or.inr (Or.inr rfl)) (by rfl) (by rfl) ?_) | refine sCons ?_ | refine sNil ?_ | refine sIf ?_ | refine sRet ?_ | (refine sStore ?_; first | refine stAt 0 (by rfl) ?_ (by assumption) (by first | exact Or.inl rfl | exact Or.inr rfl) (by rfl) (by first | exact Or.inl rfl | exact Or.inr rfl) | refine stAt 1 (by rfl) ?_ (by assumption) (by first | exact Or.inl rfl | exact Or.inr rfl) (by rfl) (by first | exact Or.inl rfl | exact Or.inr rfl) | refine stAt 2 (by rfl) ?_ (by assumption) (by first | exact Or.inl rfl | exact Or.inr rfl) (by rfl) (by first | exact Or.inl rfl | exact Or.inr rfl) | refine stAt 3 (by rfl) ?_ (by assumption) (by first | exact Or.inl rfl | exact Or.inr rfl) (by rfl) (by first | exact Or.inl rfl | exact Or.inr rfl) | refine stAt 4 (by rfl) ?_ (by assumption) (by first | exact Or.inl rfl | exact Or.inr rfl) (by rfl) (by first | exact Or.inl rfl | exact Or.inr rfl) | refine stAt 5 (by rfl) ?_ (by assumption) (by first | exact Or.inl rfl | exact Or.inr rfl) (by rfl) (by first | exact Or.inl rfl | exact Or.inr rfl) | refine stAt 6 (by rfl) ?_ (by assumption) (by first | exact Or.inl rfl | exact Or.inr rfl) (by rfl) (by first | exact Or.inl rfl | exact Or.inr rfl) | refine stAt 7 (by rfl) ?_ (by assumption) (by first | exact Or.inl rfl | exact Or.inr rfl) (by rfl) (by first | exact Or.inl rfl | exact Or.inr rfl) | refine stAt 8 (by rfl) ?_ (by assumption) (by first | exact Or.inl rfl | exact Or.inr rfl) (by rfl) (by first | exact Or.inl rfl | exact Or.inr rfl) | refine stAt 9 (by rfl) ?_ (by assumption) (by first | exact Or.inl rfl | exact Or.inr rfl) (by rfl) (by first | exact Or.inl rfl | exact Or.inr rfl) | refine stAt 10 (by rfl) ?_ (by assumption) (by first | exact Or.inl rfl | exact Or.inr rfl) (by rfl) (by first | exact Or.inl rfl | exact Or.inr rfl) | refine stAt 11 (by rfl) ?_ (by assumption) (by first | exact Or.inl rfl | exact Or.inr rfl) (by rfl) (by first | exact Or.inl rfl | exact Or.inr rfl)) | refine sExpr ?_
  | refine aNil ?_ | refine aCons ?_ | refine aStar ?_ | refine eBl ?_ | refine eNon ?_ | refine eBin ?_ | refine eCmp ?_ | refine eIx ?_ | refine eTupN ?_ | refine eLstN ?_ | refine eChain ?_
  | refine eSl ?_ | refine oNone ?_ | refine oSome ?_ | refine eNot ?_ | refine eUn ?_ | refine eAnd ?_ | refine eOr ?_ | refine eOne ?_ | refine eIf ?_
  | refine tCmp ?_ | refine tChain ?_ | refine tNot ?_ | refine pAnd1 ?_ | refine pOr1 ?_ | refine pAnd ?_ | refine pOr ?_
  | refine kLen (by assumption) ?_ | refine kAbs (by assumption) ?_ | refine kInt (by assumption) ?_ | refine kList (by assumption) ?_ | refine kTuple (by assumption) ?_ | refine kAll (by assumption) ?_ | refine kIsi (by assumption) ?_
  | refine tyInt (by assumption) ?_ | refine tyBool (by assumption) ?_ | refine tyStr (by assumption) ?_ | refine tyTuple (by assumption) ?_ | refine tyList (by assumption) ?_
  | refine eCall (by assumption) (by assumption) (by decide) ?_ | refine eGlobI (by assumption) ?_
  | refine tPb ?_
  | refine bAdd ?_ | refine bSub ?_ | refine uNeg ?_ | refine cLt ?_ | refine cLe ?_ | refine cGt ?_ | refine cGe ?_ | refine cEq (by rfl) ?_ | refine cNe (by rfl) ?_
  | refine fInt ?_ | refine fAbs ?_
  | refine kIndex ?_ | refine kAppend ?_ | refine kIsascii ?_ | refine kIsalnum ?_ | refine kIsalpha ?_ | refine kIslower ?_
  | refine ⟨rfl, mIsascii ?_⟩ | refine ⟨rfl, mIsalnum ?_⟩ | refine ⟨rfl, mIsalpha ?_⟩ | refine ⟨rfl, mIslower ?_⟩
  | refine gsNil ?_ | refine gsCons ?_ | (first | refine gNm 0 (by rfl) ?_ (by assumption) (by first | exact Or.inl rfl | exact Or.inr rfl) (by first | exact Or.inl rfl | exact Or.inr rfl) | refine gNm 1 (by rfl) ?_ (by assumption) (by first | exact Or.inl rfl | exact Or.inr rfl) (by first | exact Or.inl rfl | exact Or.inr rfl) | refine gNm 2 (by rfl) ?_ (by assumption) (by first | exact Or.inl rfl | exact Or.inr rfl) (by first | exact Or.inl rfl | exact Or.inr rfl) | refine gNm 3 (by rfl) ?_ (by assumption) (by first | exact Or.inl rfl | exact Or.inr rfl) (by first | exact Or.inl rfl | exact Or.inr rfl) | refine gNm 4 (by rfl) ?_ (by assumption) (by first | exact Or.inl rfl | exact Or.inr rfl) (by first | exact Or.inl rfl | exact Or.inr rfl) | refine gNm 5 (by rfl) ?_ (by assumption) (by first | exact Or.inl rfl | exact Or.inr rfl) (by first | exact Or.inl rfl | exact Or.inr rfl) | refine gNm 6 (by rfl) ?_ (by assumption) (by first | exact Or.inl rfl | exact Or.inr rfl) (by first | exact Or.inl rfl | exact Or.inr rfl) | refine gNm 7 (by rfl) ?_ (by assumption) (by first | exact Or.inl rfl | exact Or.inr rfl) (by first | exact Or.inl rfl | exact Or.inr rfl) | refine gNm 8 (by rfl) ?_ (by assumption) (by first | exact Or.inl rfl | exact Or.inr rfl) (by first | exact Or.inl rfl | exact Or.inr rfl) | refine gNm 9 (by rfl) ?_ (by assumption) (by first | exact Or.inl rfl | exact Or.inr rfl) (by first | exact Or.inl rfl | exact Or.inr rfl) | refine gNm 10 (by rfl) ?_ (by assumption) (by first | exact Or.inl rfl | exact Or.inr rfl) (by first | exact Or.inl rfl | exact Or.inr rfl) | refine gNm 11 (by rfl) ?_ (by assumption) (by first | exact Or.inl rfl | exact Or.inr rfl) (by first | exact Or.inl rfl | exact Or.inr rfl)))
theorem cutV_lo {vs : List V} {k : Nat} (h : k ≤ vs.length) : cutV vs none (some (k : Int)) = vs.take k := by
  unfold cutV
  rw [HT.sIx_none, HT.sIx_nat, List.drop_zero, Nat.sub_zero, Nat.min_eq_left h]
theorem cutV_hi {vs : List V} {k : Nat} (h : k ≤ vs.length) : cutV vs (some (k : Int)) none = vs.drop k := by
  unfold cutV
  rw [HT.sIx_none, HT.sIx_nat, Nat.min_eq_left h]
  exact List.take_of_length_le (by rw [List.length_drop]; exact Nat.le_refl _)
theorem dp_take {K : PySem.W.Frag} {H : Hp} : ∀ {vs : List V} {ds : List PyData} (n : Nat), DpAll K H vs ds → DpAll K H (vs.take n) (ds.take n)
  | _, _, 0, _ => .nil
  | _, _, _ + 1, .nil => .nil
  | _, _, n + 1, .cons h r => .cons h (dp_take n r)
theorem dp_drop {K : PySem.W.Frag} {H : Hp} : ∀ {vs : List V} {ds : List PyData} (n : Nat), DpAll K H vs ds → DpAll K H (vs.drop n) (ds.drop n)
  | _, _, 0, h => h
  | _, _, _ + 1, .nil => .nil
  | _, _, n + 1, .cons _ r => dp_drop n r
theorem dp_app {K : PySem.W.Frag} {H : Hp} : ∀ {vs ws : List V} {ds es : List PyData}, DpAll K H vs ds → DpAll K H ws es → DpAll K H (vs ++ ws) (ds ++ es)
  | _, _, _, _, .nil, h => h
  | _, _, _, _, .cons h r, h2 => .cons h (dp_app r h2)
structure GOk (f : List Nd) : Prop where
  one : 1 ≤ f.length
  most : f.length ≤ 24
  each : ∀ a ∈ f, NdOk f.length a
theorem GOk.good {f : List Nd} (h : GOk f) : Goodk f := ⟨⟨fun z => by have := h.one; rw [z] at this; exact absurd this (by decide), h.most, fun a ha => ⟨(h.each a ha).six, fun k hk => by have := (h.each a ha).low k hk; omega⟩⟩, fun a ha => (h.each a ha).fine⟩
theorem gr_dp {K : PySem.W.Frag} {H : Hp} {v : V} {f : List Nd} (h : Gr K H v f) : ∃ p xs, v = .ref p ∧ SqT K H p xs ∧ DpAll K H xs (f.map Nd.data) := by
  cases h with
  | tup h1 h2 => exact ⟨_, _, rfl, h1, h2⟩
/-- one node put in another's place -/
def spl (f : List Nd) (k : Nat) (a : Nd) : List Nd := (f.take k ++ [a]) ++ f.drop (k + 1)
theorem spl_len {f : List Nd} {k : Nat} {a : Nd} (h : k < f.length) : (spl f k a).length = f.length := by
  unfold spl
  rw [List.length_append, List.length_append, List.length_take, List.length_drop, List.length_singleton]
  omega
theorem spl_ok {f : List Nd} {k : Nat} {a : Nd} (h : GOk f) (hk : k < f.length) (ha : NdOk f.length a) : GOk (spl f k a) := by
  have e := spl_len (a := a) hk
  refine ⟨by rw [e]; exact h.one, by rw [e]; exact h.most, fun x hx => ?_⟩
  rw [e]
  unfold spl at hx
  rcases List.mem_append.mp hx with hx | hx
  · rcases List.mem_append.mp hx with hx | hx
    · exact h.each x (List.mem_of_mem_take hx)
    · rw [List.mem_singleton.mp hx]
      exact ha
  · exact h.each x (List.mem_of_mem_drop hx)
theorem lone_good {a : Nd} {m : Int} (h : NdOk m a) (ht : a.isTup = false) : Goodk [a] := by
  have e : a.parts = [] := by cases a <;> first | rfl | cases ht
  refine ⟨⟨fun z => (by cases z), by show 1 ≤ 24; decide, fun x hx => ?_⟩, fun x hx => ?_⟩
  · rw [List.mem_singleton.mp hx, e]
    exact ⟨Nat.zero_le _, fun k hk => by cases hk⟩
  · rw [List.mem_singleton.mp hx]
    exact h.fine
abbrev sLaw : Stmt := topS 14
theorem scLaw : FnScope ["script", "stream", "most", "first", "second", "turn", "at", "due", "actual", "k", "one", "two"] ["script"] (defScope sLaw) := ⟨rfl, rfl, rfl, by decide +kernel, rfl, by decide +kernel, by decide +kernel⟩
section
variable {P : Program} {w : World} {K : PySem.W.Frag} {mg : Str → Option Value} {base : Heap}
def spLaw (K : PySem.W.Frag) : Sp := fun vs H Q _ => ∃ (a : Addr) (ns : List Int), vs = [.ref a] ∧ SqL K H a (ns.map V.int) ∧ ns.length ≤ 63 ∧ ∀ H', Q (.bl true) H'
theorem ok_law {f : Addr} {fd : FuncData} (F : Fun K "law" "law" sLaw f fd) (c1 : Cl P w K mg base 1 "_law_draw" (spDraw K)) (c2 : Cl P w K mg base 1 "_law_stream" (spStream K)) (c3 : Cl P w K mg base 4 "_law_graph" (spLaGraph K)) (c4 : Cl P w K mg base 2 "_law_due" (spCmp K)) (c5 : Cl P w K mg base 2 "compare" (spCmp K)) (c6 : Cl P w K mg base 3 "_law_node" (spLaNode K))
    (mi : mg "isinstance" = none) (mb : mg "bool" = none) (mr : mg "range" = none) (ml : mg "len" = none) : FnOk P w K mg base CX0 6 f fd ["script"] (spLaw K) := by
  refine fn_mk (sc := ?sc) (body := ?body) F scLaw ?hsc ?hb (fun vs H Q E h => ?_) (fun cdv A outer s H vs Q E hr nd h => ?_)
  case hsc => conv => lhs; whnf
  case hb => conv => lhs; whnf
  · obtain ⟨a, ns, rfl, _⟩ := h
    rfl
  · obtain ⟨a, ns, rfl, hS, hl, q⟩ := h
    have na : ∀ {h : Hp} {sa la : Addr}, Strm K h sa la ns → ∀ p, h p = none → p ∉ [sa] := fun S p hp => not_mem1 (S.ne hp)
    repeat none_booked
    refine ⟨a, ns, rfl, hS, hl, fun H1 sa la n1 s1 S1 => ?_⟩
    repeat none_booked
    refine ⟨by show 4 ≤ 100000; decide, fun p2 H2 hp2 s2 g2 => ?_⟩
    have S2 := S1.same s2
    have np2 := S1.ne hp2
    repeat none_booked
    refine ⟨sa, la, ns, 4, rfl, S2, by decide, by decide, fun H3 r3 x3 S3 r30 r31 => ?_⟩
    have g3 := x3.get np2 g2
    obtain ⟨most, hmost, mo1, mo2⟩ : ∃ m : Int, atI [V.int 8, V.int 8, V.int 8, V.int 24] r3 = some (.int m) ∧ 1 ≤ m ∧ m ≤ 24 := by
      have cs : r3 = 0 ∨ r3 = 1 ∨ r3 = 2 ∨ r3 = 3 := by omega
      rcases cs with rfl | rfl | rfl | rfl
      · exact ⟨8, rfl, by decide, by decide⟩
      · exact ⟨8, rfl, by decide, by decide⟩
      · exact ⟨8, rfl, by decide, by decide⟩
      · exact ⟨24, rfl, by decide, by decide⟩
    refine xL (SqL.of g3) hmost ?_
    repeat none_booked
    refine ⟨sa, la, ns, most, rfl, S3, mo1, by omega, fun H4 v1 f x4 S4 d4 f1 f2 f3 => ?_⟩
    have Gf : GOk f := ⟨f1, by omega, f3⟩
    repeat none_booked
    refine ⟨sa, la, ns, most, rfl, S4, mo1, by omega, fun H5 v2 g x5 S5 d5 g1 g2 g3 => ?_⟩
    have Gg : GOk g := ⟨g1, by omega, g3⟩
    have d45 : Gr K (cut [sa] H5) v1 f := dp_mono x5 d4
    refine sCut (fun σ' H' => ∃ v2 g t u, σ' = [some (.ref a), some (.ref sa), some (.int most), some v1, some v2, t, u, none, none, none, none, none] ∧ Strm K H' sa la ns ∧ Gr K (cut [sa] H') v1 f ∧ Gr K (cut [sa] H') v2 g ∧ GOk g) ?_ ?_
    · repeat none_booked
      refine ⟨sa, la, ns, 3, rfl, S5, by decide, by decide, fun H6 r6 x6 S6 r60 r61 => ?_⟩
      have d46 := dp_mono x6 d45
      repeat none_booked
      refine ⟨_, rfl, ?_⟩
      refine ite2' (fun h => ?_) (fun h => ?_)
      · repeat none_booked
        refine sForR mr ?_
        repeat none_booked
        refine ⟨sa, la, ns, 2, rfl, S6, by decide, by decide, fun H7 r7 x7 S7 r70 r71 => ?_⟩
        repeat none_booked
        have d47 := dp_mono x7 d46
        refine ⟨1 + r7, rfl, by omega, by omega, fun i σ' H' => ∃ v2 g t u, σ' = [some (.ref a), some (.ref sa), some (.int most), some v1, some v2, t, u, none, none, none, none, none] ∧ Strm K H' sa la ns ∧ Gr K (cut [sa] H') v1 f ∧ Gr K (cut [sa] H') v2 g ∧ GOk g ∧ g.length = f.length, ⟨v1, f, none, none, rfl, S7, d47, d47, Gf, rfl⟩, ?_, ?_⟩
        · rintro i σ' H' hi ⟨v2, g, t, u, rfl, S8, e1, e2, G8, hlg⟩
          obtain ⟨p1, xs1, rfl, hs1, ha1⟩ := gr_dp e1
          obtain ⟨p2, xs2, rfl, hs2, ha2⟩ := gr_dp e2
          have l1 := dpLen ha1
          have l2 := dpLen ha2
          rw [List.length_map] at l1 l2
          have fone := Gf.one
          have fmost := Gf.most
          repeat none_booked
          refine fLenT (seqT_cut hs1) ?_
          repeat none_booked
          refine ⟨sa, la, ns, _, rfl, S8, by omega, by omega, fun H9 r9 x9 S9 r90 r91 => ?_⟩
          obtain ⟨k, rfl⟩ : ∃ k : Nat, r9 = k := ⟨r9.toNat, by omega⟩
          have hk : k < g.length := by omega
          repeat none_booked
          refine ⟨_, rfl, ?_⟩
          repeat none_booked
          refine lT (na S9) (seqT_mono x9 hs2) (fun p10 H10 s10 hs10 => ?_)
          have S10 := S9.same s10
          have x10 : Ext sa H' H10 := x9.trans (Ext.of s10)
          rw [cutV_lo (show k ≤ xs2.length by omega)] at hs10
          repeat none_booked
          refine fLenT (seqT_cut (seqT_mono x10 hs1)) ?_
          repeat none_booked
          refine ⟨sa, la, ns, _, rfl, S10, by omega, by omega, fun H11 v11 b x11 S11 d11 ok11 => ?_⟩
          repeat none_booked
          refine ⟨by show 1 ≤ 100000; decide, fun p12 H12 hp12 s12 g12 => ?_⟩
          have S12 := S11.same s12
          refine bCatT (na S12) (seqT_mono (x11.trans (Ext.of s12)) hs10) (SqT.of (cut_get (na S11 p12 hp12) g12)) ?_ (fun p13 H13 s13 hs13 => ?_)
          · rw [List.length_take]
            show min k xs2.length + 1 ≤ 100000
            omega
          have S13 := S12.same s13
          have x1113 : Ext sa H11 H13 := Ext.of (s12.trans s13)
          have x13 : Ext sa H' H13 := x10.trans (x11.trans x1113)
          repeat none_booked
          refine ⟨_, rfl, ?_⟩
          repeat none_booked
          refine lT (na S13) (seqT_mono x13 hs2) (fun p14 H14 s14 hs14 => ?_)
          have S14 := S13.same s14
          rw [show ((k : Int) + 1) = ((k + 1 : Nat) : Int) by omega, cutV_hi (show k + 1 ≤ xs2.length by omega)] at hs14
          refine bCatT (na S14) (seqT_mono (Same.cut s14) hs13) hs14 ?_ (fun p15 H15 s15 hs15 => ?_)
          · rw [List.length_append, List.length_take, List.length_drop]
            show min k xs2.length + 1 + (xs2.length - (k + 1)) ≤ 100000
            omega
          have S15 := S14.same s15
          have x1315 : Ext sa H13 H15 := Ext.of (s14.trans s15)
          have x15 : Ext sa H' H15 := x13.trans x1315
          have ha15 := dpAll_mono x15 ha2
          have d15 := dp_mono (x1113.trans x1315) d11
          repeat none_booked
          refine ⟨.ref p15, spl g k b, _, _, rfl, S15, dp_mono x15 e1, .tup hs15 ?_, spl_ok G8 hk (by rw [hlg, ← l1]; exact ok11), by rw [spl_len hk]; exact hlg⟩
          unfold spl
          rw [List.map_append, List.map_append, List.map_take, List.map_drop]
          exact dp_app (dp_app (dp_take k ha15) (.cons d15 .nil)) (dp_drop (k + 1) ha15)
        · rintro σ' H' ⟨v2, g, t, u, rfl, S8, e1, e2, G8, _⟩
          repeat none_booked
          exact ⟨v2, g, t, u, rfl, S8, e1, e2, G8⟩
      · repeat none_booked
        exact ⟨v2, g, none, none, rfl, S6, d46, dp_mono x6 d5, Gg⟩
    · rintro σ' H' ⟨v2, g, t, u, rfl, S6, df, dg, G6⟩
      have df0 := dp_mono (cut_same _ _) df
      have dg0 := dp_mono (cut_same _ _) dg
      repeat none_booked
      refine ⟨v1, v2, f, g, rfl, df0, dg0, Gf.good, G6.good, fun H7 r s7 z7 => ?_⟩
      repeat none_booked
      refine ⟨v1, v2, f, g, rfl, dp_mono s7 df0, dp_mono s7 dg0, Gf.good, G6.good, fun H8 r' s8 z8 => ?_⟩
      cases z8.det z7
      have S8 := (S6.same s7).same s8
      have df8 := dp_mono (s7.trans s8) df0
      have dg8 := dp_mono (s7.trans s8) dg0
      repeat none_booked
      refine ⟨_, rfl, ?_⟩
      rw [decide_eq_true rfl, if_neg (by decide)]
      repeat none_booked
      refine tVal ?_
      repeat none_booked
      refine fIsBool (.int _) ?_
      refine ⟨_, rfl, ?_⟩
      rw [if_neg (by show ¬ false = true; decide)]
      repeat none_booked
      refine ⟨v2, v1, g, f, rfl, dg8, df8, G6.good, Gf.good, fun H9 r9 s9 z9 => ?_⟩
      cases z9.det z7.flip
      repeat none_booked
      refine ⟨_, rfl, ?_⟩
      rw [decide_eq_true rfl, if_neg (by decide)]
      repeat none_booked
      refine ⟨v1, v1, f, f, rfl, dp_mono s9 df8, dp_mono s9 df8, Gf.good, Gf.good, fun H10 r10 s10 z10 => ?_⟩
      cases z10.diag (fun x hx => by rw [List.mem_singleton.mp hx])
      have S10 := (S8.same s9).same s10
      repeat none_booked
      refine ⟨_, rfl, ?_⟩
      rw [decide_eq_true rfl, if_neg (by decide)]
      repeat none_booked
      refine sForR mr ?_
      repeat none_booked
      refine ⟨3, rfl, by decide, by decide, fun i σ' H' => ∃ c9 c10 c11, σ' = [some (.ref a), some (.ref sa), some (.int most), some v1, some v2, t, u, some (.int r), some (.int r), c9, c10, c11] ∧ Strm K H' sa la ns, ⟨none, none, none, rfl, S10⟩, ?_, ?_⟩
      · rintro i σ' H' hi ⟨c9, c10, c11, rfl, S11⟩
        repeat none_booked
        refine ⟨sa, la, ns, 1, rfl, S11, by decide, by decide, fun H12 v12 b x12 S12 d12 ok12 => ?_⟩
        repeat none_booked
        refine ⟨sa, la, ns, 1, rfl, S12, by decide, by decide, fun H13 v13 c x13 S13 d13 ok13 => ?_⟩
        have db := dp_mono (cut_same _ _) (dp_mono x13 d12)
        have dc := dp_mono (cut_same _ _) d13
        obtain ⟨pb, xb, rfl, hb⟩ := nd_kind db
        obtain ⟨pc, xc, rfl, hc⟩ := nd_kind dc
        repeat none_booked
        refine xT hb (atI_nat (j := 0) rfl) ?_
        repeat none_booked
        refine ⟨_, rfl, ?_⟩
        rw [kind_tup]
        cases ib : b.isTup with
        | true =>
          rw [if_neg (by decide), if_neg (by decide)]
          repeat none_booked
          exact ⟨_, _, _, rfl, S13⟩
        | false =>
          rw [if_pos (by decide)]
          repeat none_booked
          refine xT hc (atI_nat (j := 0) rfl) ?_
          repeat none_booked
          refine ⟨_, rfl, ?_⟩
          rw [kind_tup]
          cases ic : c.isTup with
          | true =>
            rw [if_neg (by decide), if_neg (by decide)]
            repeat none_booked
            exact ⟨_, _, _, rfl, S13⟩
          | false =>
            rw [if_pos (by decide)]
            repeat none_booked
            refine ⟨by show 1 ≤ 100000; decide, fun p14 H14 hp14 s14 g14 => ?_⟩
            repeat none_booked
            refine ⟨by show 1 ≤ 100000; decide, fun p15 H15 hp15 s15 g15 => ?_⟩
            repeat none_booked
            have s15' := s14.trans s15
            refine ⟨_, _, [b], [c], rfl, .tup (SqT.of (s15 _ _ g14)) (.cons (dp_mono s15' db) .nil), .tup (SqT.of g15) (.cons (dp_mono s15' dc) .nil), lone_good ok12 ib, lone_good ok13 ic, fun H16 r16 s16 z16 => ?_⟩
            repeat none_booked
            refine ⟨by show 1 ≤ 100000; decide, fun p17 H17 hp17 s17 g17 => ?_⟩
            repeat none_booked
            refine ⟨by show 1 ≤ 100000; decide, fun p18 H18 hp18 s18 g18 => ?_⟩
            repeat none_booked
            have s18' := s15'.trans (s16.trans (s17.trans s18))
            refine ⟨_, _, [b], [c], rfl, .tup (SqT.of (s18 _ _ g17)) (.cons (dp_mono s18' db) .nil), .tup (SqT.of g18) (.cons (dp_mono s18' dc) .nil), lone_good ok12 ib, lone_good ok13 ic, fun H19 r19 s19 z19 => ?_⟩
            cases z16.det z19
            repeat none_booked
            refine ⟨_, rfl, ?_⟩
            rw [decide_eq_true rfl, if_neg (by decide)]
            repeat none_booked
            exact ⟨_, _, _, rfl, S13.same (s18'.trans s19)⟩
      · rintro σ' H' ⟨c9, c10, c11, rfl, S11⟩
        repeat none_booked
        exact q _
end
end K4

namespace K4
open PySem PySem.Spec PyProof.Rows L2 Wk
/-! ### what the top has written -/
theorem all_mk {l : PySem.W.OpenLaw} {w : World} {K : PySem.W.Frag} {h : Heap} {mg : Str → Option Value} {fa f0 f1 f2 f3 f4 f5 f6 f7 f8 f9 f10 f11 : Addr} (X : K.In h) (G : h.Ns mainGlobals mg) (hfa : mg "law" = some (.ref fa))
    {od0 an0 : Option Addr} {sl0 : Array (Option Value)} {oc0 kV0 dc0 pm0 cd0 ct0 : Value} {od1 an1 : Option Addr} {sl1 : Array (Option Value)} {oc1 kV1 dc1 pm1 cd1 ct1 : Value} {od2 an2 : Option Addr} {sl2 : Array (Option Value)} {oc2 kV2 dc2 pm2 cd2 ct2 : Value} {od3 an3 : Option Addr} {sl3 : Array (Option Value)} {oc3 kV3 dc3 pm3 cd3 ct3 : Value} {od4 an4 : Option Addr} {sl4 : Array (Option Value)} {oc4 kV4 dc4 pm4 cd4 ct4 : Value} {od5 an5 : Option Addr} {sl5 : Array (Option Value)} {oc5 kV5 dc5 pm5 cd5 ct5 : Value} {od6 an6 : Option Addr} {sl6 : Array (Option Value)} {oc6 kV6 dc6 pm6 cd6 ct6 : Value} {od7 an7 : Option Addr} {sl7 : Array (Option Value)} {oc7 kV7 dc7 pm7 cd7 ct7 : Value} {od8 an8 : Option Addr} {sl8 : Array (Option Value)} {oc8 kV8 dc8 pm8 cd8 ct8 : Value} {od9 an9 : Option Addr} {sl9 : Array (Option Value)} {oc9 kV9 dc9 pm9 cd9 ct9 : Value} {od10 an10 : Option Addr} {sl10 : Array (Option Value)} {oc10 kV10 dc10 pm10 cd10 ct10 : Value} {od11 an11 : Option Addr} {sl11 : Array (Option Value)} {oc11 kV11 dc11 pm11 cd11 ct11 : Value}
    (a0 : PySem.W.nsIn K mainGlobals "parts_of" = some (some (.ref f0))) (l0 : K.lookup f0 = some ⟨oc0, od0, .func (PySem.W.fnOf "parts_of" "parts_of" (defArgs sParts) (defBody sParts) (defScope sParts) .none kV0 dc0 pm0 an0 cd0 ct0), sl0⟩) (c0 : PySem.W.codeIn K cd0 "parts_of" = true) (k0 : PySem.W.keepIn K (.ref f0) = true)
    (a1 : PySem.W.nsIn K mainGlobals "look" = some (some (.ref f1))) (l1 : K.lookup f1 = some ⟨oc1, od1, .func (PySem.W.fnOf "look" "look" (defArgs sLook) (defBody sLook) (defScope sLook) .none kV1 dc1 pm1 an1 cd1 ct1), sl1⟩) (c1 : PySem.W.codeIn K cd1 "look" = true) (k1 : PySem.W.keepIn K (.ref f1) = true)
    (a2 : PySem.W.nsIn K mainGlobals "compare" = some (some (.ref f2))) (l2 : K.lookup f2 = some ⟨oc2, od2, .func (PySem.W.fnOf "compare" "compare" (defArgs sCmp) (defBody sCmp) (defScope sCmp) .none kV2 dc2 pm2 an2 cd2 ct2), sl2⟩) (c2 : PySem.W.codeIn K cd2 "compare" = true) (k2 : PySem.W.keepIn K (.ref f2) = true)
    (a3 : PySem.W.nsIn K mainGlobals "_law_stream" = some (some (.ref f3))) (l3 : K.lookup f3 = some ⟨oc3, od3, .func (PySem.W.fnOf "_law_stream" "_law_stream" (defArgs sStream) (defBody sStream) (defScope sStream) .none kV3 dc3 pm3 an3 cd3 ct3), sl3⟩) (c3 : PySem.W.codeIn K cd3 "_law_stream" = true) (k3 : PySem.W.keepIn K (.ref f3) = true)
    (a4 : PySem.W.nsIn K mainGlobals "_law_draw" = some (some (.ref f4))) (l4 : K.lookup f4 = some ⟨oc4, od4, .func (PySem.W.fnOf "_law_draw" "_law_draw" (defArgs sDraw) (defBody sDraw) (defScope sDraw) .none kV4 dc4 pm4 an4 cd4 ct4), sl4⟩) (c4 : PySem.W.codeIn K cd4 "_law_draw" = true) (k4 : PySem.W.keepIn K (.ref f4) = true)
    (a5 : PySem.W.nsIn K mainGlobals "_law_far" = some (some (.ref f5))) (l5 : K.lookup f5 = some ⟨oc5, od5, .func (PySem.W.fnOf "_law_far" "_law_far" (defArgs sFar) (defBody sFar) (defScope sFar) .none kV5 dc5 pm5 an5 cd5 ct5), sl5⟩) (c5 : PySem.W.codeIn K cd5 "_law_far" = true) (k5 : PySem.W.keepIn K (.ref f5) = true)
    (a6 : PySem.W.nsIn K mainGlobals "_law_atom" = some (some (.ref f6))) (l6 : K.lookup f6 = some ⟨oc6, od6, .func (PySem.W.fnOf "_law_atom" "_law_atom" (defArgs sLaAtom) (defBody sLaAtom) (defScope sLaAtom) .none kV6 dc6 pm6 an6 cd6 ct6), sl6⟩) (c6 : PySem.W.codeIn K cd6 "_law_atom" = true) (k6 : PySem.W.keepIn K (.ref f6) = true)
    (a7 : PySem.W.nsIn K mainGlobals "_law_node" = some (some (.ref f7))) (l7 : K.lookup f7 = some ⟨oc7, od7, .func (PySem.W.fnOf "_law_node" "_law_node" (defArgs sLaNode) (defBody sLaNode) (defScope sLaNode) .none kV7 dc7 pm7 an7 cd7 ct7), sl7⟩) (c7 : PySem.W.codeIn K cd7 "_law_node" = true) (k7 : PySem.W.keepIn K (.ref f7) = true)
    (a8 : PySem.W.nsIn K mainGlobals "_law_graph" = some (some (.ref f8))) (l8 : K.lookup f8 = some ⟨oc8, od8, .func (PySem.W.fnOf "_law_graph" "_law_graph" (defArgs sLaGraph) (defBody sLaGraph) (defScope sLaGraph) .none kV8 dc8 pm8 an8 cd8 ct8), sl8⟩) (c8 : PySem.W.codeIn K cd8 "_law_graph" = true) (k8 : PySem.W.keepIn K (.ref f8) = true)
    (a9 : PySem.W.nsIn K mainGlobals "_law_key" = some (some (.ref f9))) (l9 : K.lookup f9 = some ⟨oc9, od9, .func (PySem.W.fnOf "_law_key" "_law_key" (defArgs sKey) (defBody sKey) (defScope sKey) .none kV9 dc9 pm9 an9 cd9 ct9), sl9⟩) (c9 : PySem.W.codeIn K cd9 "_law_key" = true) (k9 : PySem.W.keepIn K (.ref f9) = true)
    (a10 : PySem.W.nsIn K mainGlobals "_law_due" = some (some (.ref f10))) (l10 : K.lookup f10 = some ⟨oc10, od10, .func (PySem.W.fnOf "_law_due" "_law_due" (defArgs sDue) (defBody sDue) (defScope sDue) .none kV10 dc10 pm10 an10 cd10 ct10), sl10⟩) (c10 : PySem.W.codeIn K cd10 "_law_due" = true) (k10 : PySem.W.keepIn K (.ref f10) = true)
    (a11 : PySem.W.nsIn K mainGlobals "law" = some (some (.ref f11))) (l11 : K.lookup f11 = some ⟨oc11, od11, .func (PySem.W.fnOf "law" "law" (defArgs sLaw) (defBody sLaw) (defScope sLaw) .none kV11 dc11 pm11 an11 cd11 ct11), sl11⟩) (c11 : PySem.W.codeIn K cd11 "law" = true) (k11 : PySem.W.keepIn K (.ref f11) = true)
    {rd : Addr} {es : Array DictEntry} {n : Nat} {t0 t1 t2 t3 t4 : Tok} (mR : PySem.W.nsIn K mainGlobals "RANKS" = some (some (.ref rd))) (lR : K.lookup rd = some ⟨.type "dict", none, .dict es n, #[]⟩)
    (r0 : PySem.W.nsIn K rd "var" = some (some (.int 0 t0))) (r1 : PySem.W.nsIn K rd "int" = some (some (.int 1 t1))) (r2 : PySem.W.nsIn K rd "atom" = some (some (.int 2 t2))) (r3 : PySem.W.nsIn K rd "tuple" = some (some (.int 3 t3))) (r4 : PySem.W.nsIn K rd "name" = some (some (.int 4 t4))) (hR : PySem.W.KeysLit w.params es.toList)
    (z0 : PySem.W.nsIn K mainGlobals "len" = some none)
    (z1 : PySem.W.nsIn K mainGlobals "zip" = some none)
    (z2 : PySem.W.nsIn K mainGlobals "int" = some none)
    (z3 : PySem.W.nsIn K mainGlobals "list" = some none)
    (z4 : PySem.W.nsIn K mainGlobals "abs" = some none)
    (z5 : PySem.W.nsIn K mainGlobals "range" = some none)
    (z6 : PySem.W.nsIn K mainGlobals "tuple" = some none)
    (z7 : PySem.W.nsIn K mainGlobals "isinstance" = some none)
    (z8 : PySem.W.nsIn K mainGlobals "bool" = some none)
    : ∃ fd : FuncData, (∀ (s : Shared) (v : Value), BindsTo s fd ⟨[v], []⟩ [("script", v)]) ∧ ∀ base : Heap, K.In base → base.Ns mainGlobals mg → FnOk l.prog w K mg base CX0 6 fa fd ["script"] (spLaw K) := by
  have e := hfa.symm.trans (PySem.W.mg_of X G a11)
  cases e
  have F0 := fun_mk (st := sParts) l0 c0 k0
  have h0 := PySem.W.mg_of X G a0
  have b0 := F0.binds (ps := ["node"]) fun _ _ _ _ _ _ us hl => match us, hl with | [_], _ => rfl
  have F1 := fun_mk (st := sLook) l1 c1 k1
  have h1 := PySem.W.mg_of X G a1
  have b1 := F1.binds (ps := ["node"]) fun _ _ _ _ _ _ us hl => match us, hl with | [_], _ => rfl
  have F2 := fun_mk (st := sCmp) l2 c2 k2
  have h2 := PySem.W.mg_of X G a2
  have b2 := F2.binds (ps := ["first", "second"]) fun _ _ _ _ _ _ us hl => match us, hl with | [_, _], _ => rfl
  have F3 := fun_mk (st := sStream) l3 c3 k3
  have h3 := PySem.W.mg_of X G a3
  have b3 := F3.binds (ps := ["script"]) fun _ _ _ _ _ _ us hl => match us, hl with | [_], _ => rfl
  have F4 := fun_mk (st := sDraw) l4 c4 k4
  have h4 := PySem.W.mg_of X G a4
  have b4 := F4.binds (ps := ["stream", "many"]) fun _ _ _ _ _ _ us hl => match us, hl with | [_, _], _ => rfl
  have F5 := fun_mk (st := sFar) l5 c5 k5
  have h5 := PySem.W.mg_of X G a5
  have b5 := F5.binds (ps := ["stream"]) fun _ _ _ _ _ _ us hl => match us, hl with | [_], _ => rfl
  have F6 := fun_mk (st := sLaAtom) l6 c6 k6
  have h6 := PySem.W.mg_of X G a6
  have b6 := F6.binds (ps := ["stream"]) fun _ _ _ _ _ _ us hl => match us, hl with | [_], _ => rfl
  have F7 := fun_mk (st := sLaNode) l7 c7 k7
  have h7 := PySem.W.mg_of X G a7
  have b7 := F7.binds (ps := ["stream", "many"]) fun _ _ _ _ _ _ us hl => match us, hl with | [_, _], _ => rfl
  have F8 := fun_mk (st := sLaGraph) l8 c8 k8
  have h8 := PySem.W.mg_of X G a8
  have b8 := F8.binds (ps := ["stream", "most"]) fun _ _ _ _ _ _ us hl => match us, hl with | [_, _], _ => rfl
  have F9 := fun_mk (st := sKey) l9 c9 k9
  have h9 := PySem.W.mg_of X G a9
  have b9 := F9.binds (ps := ["node"]) fun _ _ _ _ _ _ us hl => match us, hl with | [_], _ => rfl
  have F10 := fun_mk (st := sDue) l10 c10 k10
  have h10 := PySem.W.mg_of X G a10
  have b10 := F10.binds (ps := ["first", "second"]) fun _ _ _ _ _ _ us hl => match us, hl with | [_, _], _ => rfl
  have F11 := fun_mk (st := sLaw) l11 c11 k11
  have h11 := PySem.W.mg_of X G a11
  have y_len := PySem.W.mg_none_of X G z0
  have y_zip := PySem.W.mg_none_of X G z1
  have y_int := PySem.W.mg_none_of X G z2
  have y_list := PySem.W.mg_none_of X G z3
  have y_abs := PySem.W.mg_none_of X G z4
  have y_range := PySem.W.mg_none_of X G z5
  have y_tuple := PySem.W.mg_none_of X G z6
  have y_isinstance := PySem.W.mg_none_of X G z7
  have y_bool := PySem.W.mg_none_of X G z8
  have R : Ranks K w mg := ⟨rd, PySem.W.mg_of X G mR, ⟨es, n, _, lR, hR, r0, ⟨_, rfl⟩⟩, ⟨es, n, _, lR, hR, r1, ⟨_, rfl⟩⟩, ⟨es, n, _, lR, hR, r2, ⟨_, rfl⟩⟩, ⟨es, n, _, lR, hR, r3, ⟨_, rfl⟩⟩, ⟨es, n, _, lR, hR, r4, ⟨_, rfl⟩⟩⟩
  refine ⟨PySem.W.fnOf "law" "law" (defArgs sLaw) (defBody sLaw) (defScope sLaw) .none kV11 dc11 pm11 an11 cd11 ct11, fun s v => .of_eq rfl, fun base _ _ => ?_⟩
  have g0 := ok_parts (P := l.prog) (w := w) (base := base) F0 h0 b0
  have g1 := ok_look (P := l.prog) (w := w) (base := base) F1 h1 b1 R y_len
  have g2 := ok_cmp (P := l.prog) (w := w) (base := base) F2 h2 b2 g0 g1 y_len y_zip
  have g4 := ok_draw (P := l.prog) (w := w) (base := base) F4 h4 b4 y_abs y_int y_len
  have g3 := ok_stream (P := l.prog) (w := w) (base := base) F3 h3 b3 y_int y_list
  have g5 := ok_far (P := l.prog) (w := w) (base := base) F5 h5 b5 g4
  have g6 := ok_laatom (P := l.prog) (w := w) (base := base) F6 h6 b6 g4 y_range
  have g7 := ok_lanode (P := l.prog) (w := w) (base := base) F7 h7 b7 g4 g5 g6 y_range y_tuple
  have g8 := ok_lagraph (P := l.prog) (w := w) (base := base) F8 h8 b8 g4 g7 y_range y_tuple
  have g9 := ok_key (P := l.prog) (w := w) (base := base) F9 h9 b9 y_len
  have g10 := ok_due (P := l.prog) (w := w) (base := base) F10 h10 b10 g9 y_len y_int y_range
  exact ok_law F11 g4 g3 g8 g10 g2 g7 y_isinstance y_bool y_range y_len
end K4

open PySem PySem.W PyProof.Rows
set_option maxRecDepth 100000 in
set_option maxHeartbeats 0 in
theorem PySem.Challenge.cw_leatwork_k04_order_of_trees_holds : PySem.Challenge.rw_leatwork_k04_order_of_trees.Holds := by
  w_on; o_law; k_head; (case hw => w_witness2)
  k_fill
  refine L2.walk_of (l := PySem.Challenge.rw_leatwork_k04_order_of_trees) (n := 63) (k := 6) (x := "script") (CX := fun _ => L2.CX0) (sp := fun w => K4.spLaw _) rfl (by decide) rfl ⟨rfl, by decide, by decide⟩ (fun w h Y => PySem.W.kIn_of Y) ?F (fun _ _ a ns hl _ hS => ⟨a, ns, rfl, hS, hl, fun _ => rfl⟩) (fun _ _ _ _ _ h => h)
  case F =>
    intro w mg fa h KX G hmg
    refine' K4.all_mk KX G hmg ?a0 ?l0 ?c0 ?k0 ?a1 ?l1 ?c1 ?k1 ?a2 ?l2 ?c2 ?k2 ?a3 ?l3 ?c3 ?k3 ?a4 ?l4 ?c4 ?k4 ?a5 ?l5 ?c5 ?k5 ?a6 ?l6 ?c6 ?k6 ?a7 ?l7 ?c7 ?k7 ?a8 ?l8 ?c8 ?k8 ?a9 ?l9 ?c9 ?k9 ?a10 ?l10 ?c10 ?k10 ?a11 ?l11 ?c11 ?k11 ?mR ?lR ?r0 ?r1 ?r2 ?r3 ?r4 ?hR ?z0 ?z1 ?z2 ?z3 ?z4 ?z5 ?z6 ?z7 ?z8
    (case a0 => k_is)
    (case l0 => k_is)
    (case c0 => k_is)
    (case k0 => k_is)
    (case a1 => k_is)
    (case l1 => k_is)
    (case c1 => k_is)
    (case k1 => k_is)
    (case a2 => k_is)
    (case l2 => k_is)
    (case c2 => k_is)
    (case k2 => k_is)
    (case a3 => k_is)
    (case l3 => k_is)
    (case c3 => k_is)
    (case k3 => k_is)
    (case a4 => k_is)
    (case l4 => k_is)
    (case c4 => k_is)
    (case k4 => k_is)
    (case a5 => k_is)
    (case l5 => k_is)
    (case c5 => k_is)
    (case k5 => k_is)
    (case a6 => k_is)
    (case l6 => k_is)
    (case c6 => k_is)
    (case k6 => k_is)
    (case a7 => k_is)
    (case l7 => k_is)
    (case c7 => k_is)
    (case k7 => k_is)
    (case a8 => k_is)
    (case l8 => k_is)
    (case c8 => k_is)
    (case k8 => k_is)
    (case a9 => k_is)
    (case l9 => k_is)
    (case c9 => k_is)
    (case k9 => k_is)
    (case a10 => k_is)
    (case l10 => k_is)
    (case c10 => k_is)
    (case k10 => k_is)
    (case a11 => k_is)
    (case l11 => k_is)
    (case c11 => k_is)
    (case k11 => k_is)
    (case mR => k_is)
    (case lR => k_is)
    (case r0 => k_is)
    (case r1 => k_is)
    (case r2 => k_is)
    (case r3 => k_is)
    (case r4 => k_is)
    (case hR => exact ⟨⟨_, _, rfl, rfl⟩, ⟨_, _, rfl, rfl⟩, ⟨_, _, rfl, rfl⟩, ⟨_, _, rfl, rfl⟩, ⟨_, _, rfl, rfl⟩, trivial⟩)
    (case z0 => k_is)
    (case z1 => k_is)
    (case z2 => k_is)
    (case z3 => k_is)
    (case z4 => k_is)
    (case z5 => k_is)
    (case z6 => k_is)
    (case z7 => k_is)
    (case z8 => k_is)

