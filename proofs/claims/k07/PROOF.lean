import PyProof.Rows.All
import Wide.All
import OpenK.AllK
import Wide.FinOn
import HandS.ForMost
import HandS.ForExc
import HandS.Wide
import HandS.Flow
import HandS.Strs
import HandS.ExcInit
import HandS.ExcIs
import HandS.ExcField
import HandS.Defaults
import HandS.Walk
import HandS.OwnEq
import HandS.Lambda
import HandS.IsInst
import HandS.CallSlots
import HandS.Style
import HandS.Rev
import HandS.Iter
import HandS.Zip
import HandS.Flt
import HandS.Conv
import KE.GoesEnum
import HandS.More
import OpenK.KWalk
import PySem.Challenge.RW_bestround_k07_whole_inverse_and_joined_l
set_option Elab.async false
set_option linter.all false
set_option maxRecDepth 100000
set_option maxHeartbeats 4000000

namespace BR
open PySem PySem.Spec PyProof.Rows L2

/-! the weakest readings: one goes down the program's own tree -/
structure wE (X : Cx) (e : Expr) (σ : L2.St) (H : Hp) (Q : VK) : Prop where
  r : ∀ pins s, Inv X pins σ H s → wpAny (model X.prog X.w) X.A (eval e X.env) (EP X pins σ Q) X.xe s
structure wT (X : Cx) (e : Expr) (σ : L2.St) (H : Hp) (Q : Bool → Hp → Prop) : Prop where
  r : ∀ pins s, Inv X pins σ H s → wpAny (model X.prog X.w) X.A (isTrue e X.env (eval e X.env)) (TP X pins σ Q) X.xe s
structure wW (X : Cx) (e : Expr) (σ : L2.St) (H : Hp) (Q : Bool → Hp → Prop) : Prop where
  r : ∀ whole pins s, Inv X pins σ H s → wpAny (model X.prog X.w) X.A (isTrue e X.env whole) (TP X pins σ Q) X.xe s
structure wA (X : Cx) (es : List Expr) (σ : L2.St) (H : Hp) (Q : List V → Hp → Prop) : Prop where
  r : ∀ pos pins s, Inv X pins σ H s → wpAny (model X.prog X.w) X.A (spliced (backTo pos (starEach es X.env))) (AP X pins σ Q) X.xe s
structure wS (X : Cx) (st : Stmt) (D : Ends) (σ : L2.St) (H : Hp) : Prop where
  r : ∀ pins s, Inv X pins σ H s → wpAny (model X.prog X.w) X.A (exec st X.env) (SP X pins D) X.xe s
structure wB (X : Cx) (sts : List Stmt) (D : Ends) (σ : L2.St) (H : Hp) : Prop where
  r : ∀ pins s, Inv X pins σ H s → wpAny (model X.prog X.w) X.A (execs sts X.env) (SP X pins D) X.xe s
structure wG (X : Cx) (tg : Expr) (v : V) (σ : L2.St) (H : Hp) (Q : L2.St → Hp → Prop) : Prop where
  r : ∀ pins s u, Inv X pins σ H s → RelV v u → wpAny (model X.prog X.w) X.A (assign tg X.env u) (fun _ s' => ∃ σ' H', Inv X pins σ' H' s' ∧ Q σ' H') X.xe s
structure wGs (X : Cx) (tgs : List Expr) (vs : List V) (σ : L2.St) (H : Hp) (Q : L2.St → Hp → Prop) : Prop where
  r : ∀ pins s us, Inv X pins σ H s → Vals vs us → wpAny (model X.prog X.w) X.A (assignInOrder ((assignEach tgs X.env).map (·.2)) us) (fun _ s' => ∃ σ' H', Inv X pins σ' H' s' ∧ Q σ' H') X.xe s
structure wI (X : Cx) (tg it : Expr) (σ : L2.St) (H : Hp) (R : It → Hp → Prop) : Prop where
  r : ∀ pins s, Inv X pins σ H s → wpAny (model X.prog X.w) X.A (eval it X.env) (fun v s1 => wpAny (model X.prog X.w) X.A (pyIter v) (PIE X pins σ tg R) X.xe s1) X.xe s
structure wTs (X : Cx) (ifs : List Expr) (σ : L2.St) (H : Hp) (Q : Bool → Hp → Prop) : Prop where
  r : ∀ pins s, Inv X pins σ H s → wpAny (model X.prog X.w) X.A (forIn ifs true fun c r => if r = true then do let ok ← isTrue c X.env (eval c X.env); pure (ForInStep.yield ok) else pure (ForInStep.yield r)) (TP X pins σ Q) X.xe s
section
variable {X : Cx} {σ : L2.St} {H : Hp} {Q : VK} {D : Ends}
theorem pE (e : Expr) : PE X e (wE X e) := ⟨fun pins s _ _ _ I h => h.r pins s I⟩
theorem pT (e : Expr) : PT X e (wT X e) := ⟨fun pins s _ _ _ I h => h.r pins s I⟩
theorem pW (e : Expr) : PW X e (wW X e) := ⟨fun wh pins s _ _ _ I h => h.r wh pins s I⟩
theorem pA (es : List Expr) : PA X es (wA X es) := ⟨fun pos pins s _ _ _ I h => h.r pos pins s I⟩
theorem pS (st : Stmt) : PS X st (wS X st) := ⟨fun pins s _ _ _ I h => h.r pins s I⟩
theorem pB (sts : List Stmt) : PSs X sts (wB X sts) := ⟨fun pins s _ _ _ I h => h.r pins s I⟩
theorem pG (tg : Expr) : PG X tg (wG X tg) := ⟨fun pins s _ _ _ u _ I r h => h.r pins s u I r⟩
theorem pGs (tgs : List Expr) : PGs X tgs (wGs X tgs) := ⟨fun pins s _ _ _ us _ I r h => h.r pins s us I r⟩
theorem pI (tg it : Expr) : PI X tg it (wI X tg it) := ⟨fun pins s _ _ _ I h => h.r pins s I⟩
theorem pTs (ifs : List Expr) : PTs X ifs (wTs X ifs) := ⟨fun pins s _ _ _ I h => h.r pins s I⟩
theorem uE {e : Expr} {t : TE} (p : PE X e t) (h : t σ H Q) : wE X e σ H Q := ⟨fun pins s I => p.run pins s σ H Q I h⟩
theorem uT {e : Expr} {t : TT} {Q : Bool → Hp → Prop} (p : PT X e t) (h : t σ H Q) : wT X e σ H Q := ⟨fun pins s I => p.run pins s σ H Q I h⟩
theorem uW {e : Expr} {t : TT} {Q : Bool → Hp → Prop} (p : PW X e t) (h : t σ H Q) : wW X e σ H Q := ⟨fun wh pins s I => p.run wh pins s σ H Q I h⟩
theorem uA {es : List Expr} {t : TA} {Q : List V → Hp → Prop} (p : PA X es t) (h : t σ H Q) : wA X es σ H Q := ⟨fun pos pins s I => p.run pos pins s σ H Q I h⟩
theorem uS {st : Stmt} {t : TS} (p : PS X st t) (h : t D σ H) : wS X st D σ H := ⟨fun pins s I => p.run pins s σ H D I h⟩
theorem uB {sts : List Stmt} {t : TS} (p : PSs X sts t) (h : t D σ H) : wB X sts D σ H := ⟨fun pins s I => p.run pins s σ H D I h⟩
theorem uG {tg : Expr} {t : TG} {v : V} {Q : L2.St → Hp → Prop} (p : PG X tg t) (h : t v σ H Q) : wG X tg v σ H Q := ⟨fun pins s u I r => p.run pins s σ H v u Q I r h⟩
theorem uGs {tgs : List Expr} {t : TGs} {vs : List V} {Q : L2.St → Hp → Prop} (p : PGs X tgs t) (h : t vs σ H Q) : wGs X tgs vs σ H Q := ⟨fun pins s us I r => p.run pins s σ H vs us Q I r h⟩
theorem uI {tg it : Expr} {t : TI} {R : It → Hp → Prop} (p : PI X tg it t) (h : t σ H R) : wI X tg it σ H R := ⟨fun pins s I => p.run pins s σ H R I h⟩
theorem uTs {ifs : List Expr} {t : TT} {Q : Bool → Hp → Prop} (p : PTs X ifs t) (h : t σ H Q) : wTs X ifs σ H Q := ⟨fun pins s I => p.run pins s σ H Q I h⟩
theorem wE.mono {e : Expr} {Q' : VK} (h : wE X e σ H Q) (k : ∀ v H', Q v H' → Q' v H') : wE X e σ H Q' := ⟨fun pins s I => thn (h.r pins s I) fun u s' ⟨v, H', I', r, q⟩ => ⟨v, H', I', r, k v H' q⟩⟩
theorem wT.mono {e : Expr} {Q Q' : Bool → Hp → Prop} (h : wT X e σ H Q) (k : ∀ v H', Q v H' → Q' v H') : wT X e σ H Q' := ⟨fun pins s I => thn (h.r pins s I) fun b s' ⟨H', I', q⟩ => ⟨H', I', k b H' q⟩⟩
theorem wA.mono {es : List Expr} {Q Q' : List V → Hp → Prop} (h : wA X es σ H Q) (k : ∀ v H', Q v H' → Q' v H') : wA X es σ H Q' := ⟨fun p pins s I => thn (h.r p pins s I) fun u s' ⟨v, H', I', r, q⟩ => ⟨v, H', I', r, k v H' q⟩⟩
theorem wI.mono {tg it : Expr} {R R' : It → Hp → Prop} (h : wI X tg it σ H R) (k : ∀ J H', R J H' → R' J H') : wI X tg it σ H R' := ⟨fun pins s I => thn (h.r pins s I) fun u s1 hh => thn hh fun itv s2 ⟨i0, fp, tn, J, H1, e, I1, T, t0, f0, q⟩ => ⟨i0, fp, tn, J, H1, e, I1, T, t0, f0, k _ _ q⟩⟩

variable {pos p1 p2 p3 : Pos} {a b c d e : Expr} {es : List Expr}
/-! ### expressions -/
theorem eV (i : Nat) {x : Str} {v : V} (hs : σ[i]? = some (some v)) (q : Q v H) (hN : X.N[i]? = some x := by rfl) (hv : Vis X.env.scope x := by first | exact Or.inl rfl | exact Or.inr (Or.inl rfl) | exact Or.inr (Or.inr rfl))
    (hd : (x == ("__debug__" : Str)) = false := by decide) (hcd : (x == ("__classdict__" : Str)) = false := by decide) : wE X (.Name x pos) σ H Q := uE (pe_var hN hv hd hcd) ⟨v, hs, q⟩
theorem eI {i j} (q : Q (.int i) H) : wE X (.Constant (.int i) j pos) σ H Q := uE pe_int q
theorem eBl {i j} (q : Q (.bl i) H) : wE X (.Constant (.bool i) j pos) σ H Q := uE pe_bl q
theorem eN {j} (q : Q .non H) : wE X (.Constant .none j pos) σ H Q := uE pe_non q
theorem eStr {x j} (q : Q (.str x) H) : wE X (.Constant (.str x) j pos) σ H Q := uE pe_str q
theorem eGl {x : Str} {v : V} {u : Value} (hm : X.mg x = some u) (r : RelV v u) (q : Q v H) (hg : Gl X x := by rfl) (hd : (x == ("__debug__" : Str)) = false := by decide) : wE X (.Name x pos) σ H Q := uE (pe_glob hg hm r hd) q
theorem eOp {op : Operator} {r : R2} (ho : OpR X (binaryOp op) r) (h : wE X a σ H fun x H1 => wE X b σ H1 fun y H2 => r x y H2 Q) : wE X (.BinOp a op b pos) σ H Q := uE (pe_op ho (pE a) (pE b)) h
theorem eUn {op : UnaryOp} {r : V → Hp → VK → Prop} (ho : UnR X (unaryOp op) r) (h : wE X a σ H fun x H1 => r x H1 Q) : wE X (.UnaryOp op a pos) σ H Q := uE (pe_un ho (pE a)) h
theorem eCmp {op : CmpOp} {r : R2} (ho : OpR X (compareOp op) r) (h : wE X a σ H fun x H1 => wE X b σ H1 fun y H2 => r x y H2 Q) (hm : behindInMarks op b = false := by first | exact nomark _ | rfl) : wE X (.Compare a [op] [b] pos) σ H Q :=
  uE (pe_cmpR ho (pE a) (pE b) hm) h
theorem eChain {op op' : CmpOp} {r r' : R2} (ho : OpR X (compareOp op) r) (ho' : OpR X (compareOp op') r')
    (h : wE X a σ H fun x H1 => wE X b σ H1 fun y H2 => r x y H2 fun z H3 => ∃ k, z = .bl k ∧ if k = true then wE X c σ H3 fun u H4 => r' y u H4 Q else Q (.bl false) H3) (hm : lastMarks [op, op'] [b, c] = false := by with_unfolding_all rfl) : wE X (.Compare a [op, op'] [b, c] pos) σ H Q :=
  uE (pe_chain ho ho' (pE a) (pE b) (pE c) hm) h
theorem eNot (h : wE X a σ H fun x H1 => ∃ k, x = .bl k ∧ Q (.bl (!k)) H1) : wE X (.UnaryOp .Not a pos) σ H Q := uE (pe_not (pE a)) h
theorem eAnd2 (h : wE X a σ H fun x H1 => ∃ k, x = .bl k ∧ if k = true then wE X b σ H1 Q else Q (.bl false) H1) : wE X (.BoolOp .And [a, b] pos) σ H Q := uE (pe_and (pE a) (pe_one (pE b))) h
theorem eAnd3 (h : wE X a σ H fun x H1 => ∃ k, x = .bl k ∧ if k = true then (wE X b σ H1 fun x H2 => ∃ k, x = .bl k ∧ if k = true then wE X c σ H2 Q else Q (.bl false) H2) else Q (.bl false) H1) : wE X (.BoolOp .And [a, b, c] pos) σ H Q :=
  uE (pe_and (pE a) (pe_and (pE b) (pe_one (pE c)))) h
theorem eOr2 (h : wE X a σ H fun x H1 => ∃ k, x = .bl k ∧ if k = true then Q (.bl true) H1 else wE X b σ H1 Q) : wE X (.BoolOp .Or [a, b] pos) σ H Q := uE (pe_or (pE a) (pe_one (pE b))) h
theorem eIf (h : wT X c σ H fun k H1 => if k = true then wE X a σ H1 Q else wE X b σ H1 Q) : wE X (.IfExp c a b pos) σ H Q := uE (pe_ifExp (pT c) (pE a) (pE b)) h
theorem eIx {r : R2} (hr : IxR X r) (h : wE X a σ H fun x H1 => wE X b σ H1 fun y H2 => r x y H2 Q) (hp : PlainIx b := by exact fun _ _ => rfl) : wE X (.Subscript a b pos) σ H Q := uE (pe_ix hr (pE a) (pE b) hp) h
def rFld (K : PySem.W.Frag) (f : Str) (x : V) (H : Hp) (Q : VK) : Prop := ∃ p C dx fs v, x = .ref p ∧ H p = some (.ins C dx fs) ∧ Cls K C ∧ NoAttr K C f ∧ fs.lookup f = some v ∧ Q v H
theorem eFld {f : Str} (h : wE X a σ H fun x H1 => rFld X.K f x H1 Q) (hb : attributeBase a f X.env (eval a X.env) = eval a X.env := by rfl) :
    wE X (.Attribute a f pos) σ H Q := uE (pe_fld (pE a) hb) h
theorem aNil {Q : List V → Hp → Prop} (q : Q [] H) : wA X [] σ H Q := uA pa_nil q
theorem aCons {Q : List V → Hp → Prop} (h : wE X e σ H fun x H1 => wA X es σ H1 fun xs H2 => Q (x :: xs) H2) (hs : starEach (e :: es) X.env = (false, eval e X.env) :: starEach es X.env := by rfl) : wA X (e :: es) σ H Q := uA (pa_cons (pE e) (pA es) hs) h
theorem eTup {k} (h : wA X es σ H fun xs H1 => xs.length ≤ sizeLine ∧ ∀ p, H1 p = none → Q (.ref p) (upd H1 p (.tup xs))) : wE X (.Tuple es k pos) σ H Q := uE (pe_tup (pA es)) h
theorem eLst (h : wA X es σ H fun xs H1 => xs.length ≤ sizeLine ∧ ∀ p, H1 p = none → Q (.ref p) (upd H1 p (.lst xs))) : wE X (.List es pos) σ H Q := uE (pe_lst (pA es)) h
theorem eSl {r : V → Option Int → Option Int → Hp → VK → Prop} {lo hi : Option Expr} {tl th : TO} (hr : SlR X r) (hl : PO X lo tl) (hu : PO X hi th) (h : tSl r (wE X a) tl th σ H Q) : wE X (.Subscript a (.Slice lo hi none p2) pos) σ H Q := uE (pe_slice hr (pE a) hl hu) h
theorem eCB {r : List V → Hp → VK → Prop} {x : Str} {id : String} (hc : CallR X (.builtin id) r) (hm : X.mg x = none) (h : wA X (e :: es) σ H fun vs H1 => r vs H1 Q) (hg : Gl X x := by rfl) (hv : bootBuiltins x = some (.builtin id) := by decide +kernel)
    (hn : x ≠ "__name__" := by decide) (hdb : (x == ("__debug__" : Str)) = false := by decide) (he : starEach (e :: es) X.env = (false, eval e X.env) :: starEach es X.env := by rfl) (hpl : (backTo pos (starEach es X.env)).any (·.1) = false := by rfl) :
    wE X (.Call (.Name x p1) (e :: es) [] pos) σ H Q := uE (pe_callB hc hg hm hv (pA _) hn hdb he hpl) h
theorem eCTy {r : List V → Hp → VK → Prop} {x : Str} {T : String} (hc : CallR X (.type T) r) (hm : X.mg x = none) (h : wA X (e :: es) σ H fun vs H1 => r vs H1 Q) (hg : Gl X x := by rfl) (hv : bootBuiltins x = some (.type T) := by decide +kernel)
    (hn : x ≠ "__name__" := by decide) (hdb : (x == ("__debug__" : Str)) = false := by decide) (he : starEach (e :: es) X.env = (false, eval e X.env) :: starEach es X.env := by rfl) (hpl : (backTo pos (starEach es X.env)).any (·.1) = false := by rfl) :
    wE X (.Call (.Name x p1) (e :: es) [] pos) σ H Q := uE (pe_callTy hc hg hm hv (pA _) hn hdb he hpl) h
/-! ### tests -/
theorem tCmp {op : CmpOp} {r : R2} {Q : Bool → Hp → Prop} (ho : OpR X (compareOp op) r) (h : wE X a σ H fun x H1 => wE X b σ H1 fun y H2 => r x y H2 fun z H3 => ∃ k, z = .bl k ∧ Q k H3) (hm : behindInMarks op b = false := by first | exact nomark _ | rfl) :
    wT X (.Compare a [op] [b] pos) σ H Q := uT (pt_cmpR ho (pE a) (pE b) hm) h
theorem tChain {op op' : CmpOp} {r r' : R2} {Q : Bool → Hp → Prop} (ho : OpR X (compareOp op) r) (ho' : OpR X (compareOp op') r')
    (h : wE X a σ H fun x H1 => wE X b σ H1 fun y H2 => r x y H2 fun z H3 => ∃ k, z = .bl k ∧ if k = true then (wE X c σ H3 fun u H4 => r' y u H4 fun z H5 => ∃ k, z = .bl k ∧ Q k H5) else ∃ k, V.bl false = .bl k ∧ Q k H3)
    (hm : lastMarks [op, op'] [b, c] = false := by with_unfolding_all rfl) : wT X (.Compare a [op, op'] [b, c] pos) σ H Q := uT (pt_chain ho ho' (pE a) (pE b) (pE c) hm) h
theorem tVal {Q : Bool → Hp → Prop} (h : wE X e σ H fun x H1 => ∃ k, x = .bl k ∧ Q k H1) (he : ∀ whole, isTrue e X.env whole = (do let v ← whole; standAt e.pos; holding [v] (truthy v)) := by intro _; rfl) : wT X e σ H Q := uT (pt_val (pE e) he) h
theorem tTru {Q : Bool → Hp → Prop} (h : wE X e σ H fun x H1 => ∃ k, TruV X.K x H1 k ∧ Q k H1) (he : ∀ whole, isTrue e X.env whole = (do let v ← whole; standAt e.pos; holding [v] (truthy v)) := by intro _; rfl) : wT X e σ H Q := uT (pt_truth (pE e) he) h
theorem tNot {Q : Bool → Hp → Prop} (h : wT X a σ H fun k H1 => Q (!k) H1) : wT X (.UnaryOp .Not a pos) σ H Q := uT (pt_not (pT a)) h
theorem tAnd2 {Q : Bool → Hp → Prop} (h : wT X a σ H fun k H1 => if k = true then wT X b σ H1 Q else Q false H1) : wT X (.BoolOp .And [a, b] pos) σ H Q := uT (PW.pt (pw_and (pT a) (pw_and1 (pT b)))) h
theorem tOr2 {Q : Bool → Hp → Prop} (h : wT X a σ H fun k H1 => if k = true then Q true H1 else wT X b σ H1 Q) : wT X (.BoolOp .Or [a, b] pos) σ H Q := uT (PW.pt (pw_or (pT a) (pw_or1 (pT b)))) h
theorem tAnd3 {Q : Bool → Hp → Prop} (h : wT X a σ H fun k H1 => if k = true then (wT X b σ H1 fun k H2 => if k = true then wT X c σ H2 Q else Q false H2) else Q false H1) : wT X (.BoolOp .And [a, b, c] pos) σ H Q :=
  uT (PW.pt (pw_and (pT a) (pw_and (pT b) (pw_and1 (pT c))))) h
theorem tOr3 {Q : Bool → Hp → Prop} (h : wT X a σ H fun k H1 => if k = true then Q true H1 else wT X b σ H1 fun k H2 => if k = true then Q true H2 else wT X c σ H2 Q) : wT X (.BoolOp .Or [a, b, c] pos) σ H Q :=
  uT (PW.pt (pw_or (pT a) (pw_or (pT b) (pw_or1 (pT c))))) h
/-! ### statements -/
variable {st : Stmt} {sts us : List Stmt}
theorem bNil (q : D.nx σ H) : wB X [] D σ H := uB pss_nil q
theorem bCons (h : wS X st { D with nx := fun σ' H' => wB X sts D σ' H' } σ H) : wB X (st :: sts) D σ H := uB (pss_cons (pS st) (pB sts)) h
theorem bOne (h : wS X st D σ H) : wB X [st] D σ H := uB (pss_one (pS st)) h
theorem sPass (q : D.nx σ H) : wS X (.Pass pos) D σ H := uS ps_pass q
theorem sBrk (q : D.bk σ H) : wS X (.Break pos) D σ H := uS ps_break q
theorem sCont (q : D.ct σ H) : wS X (.Continue pos) D σ H := uS ps_continue q
theorem sDoc {x j} (q : D.nx σ H) : wS X (.Expr (.Constant (.str x) j p1) pos) D σ H := uS ps_doc q
theorem sExpr (h : wE X e σ H fun _ H1 => D.nx σ H1) (hs : swapsWith e none pos.line X.env = pure false := by rfl) : wS X (.Expr e pos) D σ H := uS (ps_expr (pE e) hs) h
theorem sRet (h : wE X e σ H D.rt) : wS X (.Return (some e) pos) D σ H := uS (ps_ret (pE e)) h
theorem sRetN (q : D.rt .non H) : wS X (.Return none pos) D σ H := uS ps_retN q
theorem sIf (h : wT X c σ H fun k H1 => if k = true then wB X sts D σ H1 else wB X us D σ H1) : wS X (.If c sts us pos) D σ H := uS (ps_if (pT c) (pB sts) (pB us)) h
theorem sSet (i : Nat) {x : Str} (h : wE X e σ H fun v H1 => D.nx (σ.set i (some v)) H1) (hN : X.N.Nodup := by assumption) (hi : X.N[i]? = some x := by rfl) (hx : Loc X.env.scope x := by first | exact Or.inl rfl | exact Or.inr rfl)
    (hs : swapsWith e (some (.Name x p1)) pos.line X.env = pure false := by rfl) (hf : X.fn x = true ∨ X.env.scope.names.lookup x = some .local := by first | exact .inl rfl | exact .inr rfl | assumption) : wS X (.Assign [.Name x p1] e pos) D σ H :=
  uS (ps_set hN hi hx (pE e) hs hf) h
theorem sAsg {tg : Expr} (h : wE X e σ H fun v H1 => wG X tg v σ H1 D.nx) (hs : swapsWithSole [tg] e pos.line X.env = pure false := by rfl) (hw : swappedStores [tg] e X.env = pure none := by rfl)
    (h1 : (assignEach [tg] X.env).map (·.2) = [assign tg X.env] := by rfl) : wS X (.Assign [tg] e pos) D σ H := uS (ps_asg (pE e) (pG tg) hs hw h1) h
theorem sPar (i j : Nat) {x y : Str} {px py pt : Pos} {kt k2 pt2} (h : wA X [a, b] σ H fun vs H1 => ∃ v w, vs = [v, w] ∧ D.nx ((σ.set i (some v)).set j (some w)) H1)
    (hN : X.N.Nodup := by assumption) (hi : X.N[i]? = some x := by rfl) (hj : X.N[j]? = some y := by rfl) (hij : i ≠ j := by decide) (hx : X.env.scope.names.lookup x = some .local := by rfl) (hy : X.env.scope.names.lookup y = some .local := by rfl)
    (hw : swappedStores [.Tuple [.Name x px, .Name y py] kt pt] (.Tuple [a, b] k2 pt2) X.env = pure (some [x, y]) := by rfl) (hs : swapsWithSole [.Tuple [.Name x px, .Name y py] kt pt] (.Tuple [a, b] k2 pt2) pos.line X.env = pure false := by rfl)
    (hc : X.calm = true := by rfl) : wS X (.Assign [.Tuple [.Name x px, .Name y py] kt pt] (.Tuple [a, b] k2 pt2) pos) D σ H := uS (ps_par hc hN hi hj hij hx hy (pA _) hw hs) h
theorem sFld {f : Str} {o : Expr} (h : wE X e σ H fun y H1 => wE X o σ H1 fun x H2 => ∃ a C dx fs, x = .ref a ∧ H2 a = some (.ins C dx fs) ∧ Cls X.K C ∧ NoAttr X.K C f ∧ fs.length < 1000 ∧ D.nx σ (upd H2 a (.ins C dx (putF f y fs))))
    (hs : swapsWith e (some (.Attribute o f p1)) pos.line X.env = pure false := by rfl) : wS X (.Assign [.Attribute o f p1] e pos) D σ H := uS (ps_fld (pE o) (pE e) hs) h
/-! ### targets -/
theorem gN (i : Nat) {x : Str} {v : V} {Q : L2.St → Hp → Prop} (q : Q (σ.set i (some v)) H) (hN : X.N.Nodup := by assumption) (hi : X.N[i]? = some x := by rfl) (hx : Loc X.env.scope x := by first | exact Or.inl rfl | exact Or.inr rfl)
    (hf : X.fn x = true ∨ X.env.scope.names.lookup x = some .local := by first | exact .inl rfl | exact .inr rfl | assumption) : wG X (.Name x pos) v σ H Q := uG (pg_name hN hi hx hf) q
theorem gsNil {Q : L2.St → Hp → Prop} (q : Q σ H) : wGs X [] [] σ H Q := uGs pgs_nil ⟨rfl, q⟩
theorem gsCons {v : V} {vs : List V} {Q : L2.St → Hp → Prop} (h : wG X e v σ H fun σ' H' => wGs X es vs σ' H' Q) (hs : (assignEach (e :: es) X.env).map (·.2) = assign e X.env :: (assignEach es X.env).map (·.2) := by rfl) : wGs X (e :: es) (v :: vs) σ H Q :=
  uGs (pgs_cons (pG e) (pGs es) hs) ⟨v, vs, rfl, h⟩
theorem gT {k} {v : V} {p : Addr} {xs : List V} {Q : L2.St → Hp → Prop} (e : v = .ref p) (hq : SqT X.K H p xs) (h : wGs X es xs σ H Q) (hl : xs.length = (assignEach es X.env).length := by rfl) (hc : X.calm = true := by rfl)
    (hst : (assignEach es X.env).findIdx? (·.1) = none := by rfl) : wG X (.Tuple es k pos) v σ H Q := uG (pg_tup hc (pGs es) rfl hst) ⟨p, xs, e, hq, hl, h⟩
theorem gL {k} {v : V} {p : Addr} {xs : List V} {Q : L2.St → Hp → Prop} (e : v = .ref p) (hq : SqL X.K H p xs) (h : wGs X es xs σ H Q) (hl : xs.length = (assignEach es X.env).length := by rfl) (hc : X.calm = true := by rfl)
    (hst : (assignEach es X.env).findIdx? (·.1) = none := by rfl) : wG X (.Tuple es k pos) v σ H Q := uG (pg_lst hc (pGs es) rfl hst) ⟨p, xs, e, hq, hl, h⟩
theorem gSb {o i : Expr} {v : V} {t : TSet} {Q : L2.St → Hp → Prop} (hs : PSet X t) (h : wE X o σ H fun x H1 => wE X i σ H1 fun y H2 => t x y v H2 fun H3 => Q σ H3)
    (ha : ∀ v, assign (.Subscript o i pos) X.env v = (do
      let ov ← holding [v] (eval o X.env)
      let iv ← holding [v, ov] (eval i X.env)
      standAt pos
      holding [v, ov, iv] (setItem ov iv v)
      release [v, ov, iv] []) := by intro _; rfl) : wG X (.Subscript o i pos) v σ H Q := uG (pg_sub (pE o) (pE i) hs ha) h
/-! ### loops -/
theorem sWhile (W : Nat → L2.St → Hp → Prop) (m0 : Nat) (w0 : W m0 σ H) (hs : ∀ m σ' H', W m σ' H' → wT X c σ' H' fun k H1 => if k = true then wB X sts { D with nx := fun σ2 H2 => ∃ m', m' < m ∧ W m' σ2 H2, ct := fun σ2 H2 => ∃ m', m' < m ∧ W m' σ2 H2, bk := D.nx } σ' H1 else D.nx σ' H1)
    (hp : PassesOwn (model X.prog X.w) X.A X.env X.xe := by exact PassesOwn.never) : wS X (.While c sts [] pos) D σ H :=
  uS (ps_while hp (pT c) (pB sts)) ⟨W, ⟨m0, w0⟩, fun m σ' H' w => (hs m σ' H' w).mono fun k H1 q => by
    cases k with
    | true => exact ⟨_, fun _ _ z => z, q⟩
    | false => exact q⟩
/-- a for over what Wk walks -/
theorem sFor {tg it : Expr} (h : wI X tg it σ H fun J H1 => ∃ n G Y, Walk J n G Y ∧ ∃ Pv : Nat → L2.St → Hp → Prop, Pv 0 σ H1 ∧ (∀ i σ H, i ≤ n → Pv i σ H → G H) ∧
      (∀ i x σ H H', i < n → Pv i σ H → Y i H x H' → wG X tg x σ H' fun σ2 H2 => wB X sts { D with nx := Pv (i + 1), ct := Pv (i + 1), bk := D.nx } σ2 H2) ∧ ∀ σ H, Pv n σ H → D.nx σ H)
    (hp : PassesOwn (model X.prog X.w) X.A X.env X.xe := by exact PassesOwn.never) (hc : X.calm = true := by rfl) (hs : ∀ x, foldedSetIterable it X.env x = pure x := by intro _; rfl) : wS X (.For tg it sts [] pos) D σ H :=
  uS (ps_for hp hc (pI tg it) (pG tg) (pB sts) hs) (h.mono fun J H1 ⟨n, G, Y, wk, Pv, h0, hG, hst, hd⟩ => for_it wk Pv h0 hG hst hd)
theorem iL {tg e : Expr} {R : It → Hp → Prop} (h : wE X e σ H fun x H1 => ∃ a, x = .ref a ∧ (∃ xs, SqL X.K H1 a xs) ∧ R (Itl X.K a) H1) : wI X tg e σ H R := uI (pi_list (pE e)) h
theorem iT {tg e : Expr} {R : It → Hp → Prop} (h : wE X e σ H fun x H1 => ∃ a, x = .ref a ∧ (∃ xs, SqT X.K H1 a xs) ∧ R (Itt X.K a) H1) : wI X tg e σ H R := uI (pi_tup (pE e)) h
theorem iR1 {tg e : Expr} {R : It → Hp → Prop} (hm : X.mg "range" = none) (h : wA X [e] σ H fun vs H1 => ∃ j : Int, vs = [.int j] ∧ -(2 ^ 62) ≤ j ∧ j < 2 ^ 62 ∧ R (Itr 0 j.toNat) H1) (hg : Gl X "range" := by rfl)
    (hs : starEach [e] X.env = [(false, eval e X.env)] := by rfl) : wI X tg (.Call (.Name "range" p1) [e] [] pos) σ H R := uI (pi_range1 hg hm (pA _) hs) h
theorem iR2 {tg a b : Expr} {R : It → Hp → Prop} (hm : X.mg "range" = none) (h : wA X [a, b] σ H fun vs H1 => ∃ i j : Int, vs = [.int i, .int j] ∧ (-(2 ^ 62) ≤ i ∧ i < 2 ^ 62 ∧ -(2 ^ 62) ≤ j ∧ j < 2 ^ 62) ∧ R (Itr i (j - i).toNat) H1) (hg : Gl X "range" := by rfl)
    (hs : starEach [a, b] X.env = [(false, eval a X.env), (false, eval b X.env)] := by rfl) (hs2 : starEach [b] X.env = [(false, eval b X.env)] := by rfl) : wI X tg (.Call (.Name "range" p1) [a, b] [] pos) σ H R := uI (pi_range2 hg hm (pA _) hs hs2) h
/-! ### list comprehensions -/
def kG (X : Cx) (sc : Scope) (tg : Expr) : TG := fun v σ H Q => ∀ s0 H0 C cl fp, wG (X.blk s0 H0 sc (compEnvC sc cl C X.env) fp) tg v σ H Q
def kT (X : Cx) (sc : Scope) (ifs : List Expr) : TT := fun σ H Q => ∀ s0 H0 C cl fp, wTs (X.blk s0 H0 sc (compEnvC sc cl C X.env) fp) ifs σ H Q
def kE (X : Cx) (sc : Scope) (e : Expr) : TE := fun σ H Q => ∀ s0 H0 C cl fp, wE (X.blk s0 H0 sc (compEnvC sc cl C X.env) fp) e σ H Q
theorem kTnil {sc : Scope} {Q : Bool → Hp → Prop} (q : Q true H) : kT X sc [] σ H Q := fun _ _ _ _ _ => uTs pts_nil q
theorem eLc {elt tg it : Expr} {ifs : List Expr} {sc : Scope} (N : List Str) (st : Stmt) (own : List (Str × Nat))
    (h : wI X tg it σ H fun J H1 => ∀ L, H1 L = none → ∃ n G Y, Walk J n G Y ∧ ∃ Pv : Nat → Hp → Prop, Pv 0 (upd H1 L (.lst [])) ∧ (∀ i H, i ≤ n → Pv i H → G H) ∧
      (∀ i x H H', i < n → Pv i H → Y i H x H' → kG X sc tg x (wipe σ (own.map (·.2))) H' fun σ2 H2 => wipe σ2 (own.map (·.2)) = wipe σ (own.map (·.2)) ∧
        kT X sc ifs σ2 H2 fun k H3 => if k = true then kE X sc elt σ2 H3 fun y H4 => ∃ acc, H4 L = some (.lst acc) ∧ acc.length < sizeLine ∧ Pv (i + 1) (upd H4 L (.lst (acc ++ [y]))) else Pv (i + 1) H3) ∧
      ∀ H, Pv n H → Q (.ref L) H) (hN : X.N.Nodup := by assumption)
    (ok : blkC N (L2.defScope st) sc own = true := by decide +kernel) (xN : X.N = N := by rfl) (xS : X.env.scope = L2.defScope st := by rfl) (hc : X.calm = true := by rfl) (hs : ∀ x, foldedSetIterable it X.env x = pure x := by intro _; rfl) : wE X (.ListComp elt [⟨tg, it, ifs, 0⟩] sc pos) σ H Q := by
  refine uE (pe_lc (own := own) (g := kG X sc tg) (tt := kT X sc ifs) (te := kE X sc elt) hc hN (pI tg it) (blkOk_by (by rw [xN, xS]; exact ok)) (fun s0 H0 C cl fp => ⟨fun pins s σ H v u Q I r h => (h s0 H0 C cl fp).r pins s u I r⟩)
    (fun s0 H0 C cl fp => ⟨fun pins s σ H Q I h => (h s0 H0 C cl fp).r pins s I⟩) (fun s0 H0 C cl fp => ⟨fun pins s σ H Q I h => (h s0 H0 C cl fp).r pins s I⟩) hs) ?_
  refine h.mono fun J H1 k L hL => ?_
  obtain ⟨n, G, Y, wk, Pv, h0, hG, hst, hd⟩ := k L hL
  exact lc_it (g := kG X sc tg) (tt := kT X sc ifs) (te := kE X sc elt) wk Pv h0 hG hst hd
/-- name = [..], the comprehension on the name's own line -/
theorem sLc (i : Nat) {y : Str} {py spos : Pos} {elt tg it : Expr} {ifs : List Expr} {sc : Scope} (N : List Str) (st : Stmt) (own : List (Str × Nat))
    (h : wI X tg it σ H fun J H1 => ∀ L, H1 L = none → ∃ n G Y, Walk J n G Y ∧ ∃ Pv : Nat → Hp → Prop, Pv 0 (upd H1 L (.lst [])) ∧ (∀ i H, i ≤ n → Pv i H → G H) ∧
      (∀ i x H H', i < n → Pv i H → Y i H x H' → kG X sc tg x (wipe σ (own.map (·.2))) H' fun σ2 H2 => wipe σ2 (own.map (·.2)) = wipe σ (own.map (·.2)) ∧
        kT X sc ifs σ2 H2 fun k H3 => if k = true then kE X sc elt σ2 H3 fun y H4 => ∃ acc, H4 L = some (.lst acc) ∧ acc.length < sizeLine ∧ Pv (i + 1) (upd H4 L (.lst (acc ++ [y]))) else Pv (i + 1) H3) ∧
      ∀ H, Pv n H → D.nx (σ.set i (some (.ref L))) H) (hN : X.N.Nodup := by assumption) (hy : X.N[i]? = some y := by rfl) (hyl : X.env.scope.names.lookup y = some .local := by rfl)
    (hsw : swapsWith (.ListComp elt [⟨tg, it, ifs, 0⟩] sc pos) (some (.Name y py)) spos.line X.env = pure true := by exact sw_true rfl rfl rfl (by decide +kernel))
    (ok : blkC N (L2.defScope st) sc own = true := by decide +kernel) (xN : X.N = N := by rfl) (xS : X.env.scope = L2.defScope st := by rfl) (hc : X.calm = true := by rfl) (hs : ∀ x, foldedSetIterable it X.env x = pure x := by intro _; rfl) : wS X (.Assign [.Name y py] (.ListComp elt [⟨tg, it, ifs, 0⟩] sc pos) spos) D σ H := by
  refine uS (ps_setLc (own := own) (g := kG X sc tg) (tt := kT X sc ifs) (te := kE X sc elt) hc hN hy hyl hsw (pI tg it) (blkOk_by (by rw [xN, xS]; exact ok)) (fun s0 H0 C cl fp => ⟨fun pins s σ H v u Q I r h => (h s0 H0 C cl fp).r pins s u I r⟩)
    (fun s0 H0 C cl fp => ⟨fun pins s σ H Q I h => (h s0 H0 C cl fp).r pins s I⟩) (fun s0 H0 C cl fp => ⟨fun pins s σ H Q I h => (h s0 H0 C cl fp).r pins s I⟩) hs) ?_
  refine h.mono fun J H1 k L hL => ?_
  obtain ⟨n, G, Y, wk, Pv, h0, hG, hst, hd⟩ := k L hL
  exact lc_it (g := kG X sc tg) (tt := kT X sc ifs) (te := kE X sc elt) wk Pv h0 hG hst hd
end
end BR

namespace BR
open PySem PySem.Spec PyProof.Rows L2
/-! defs, classes, methods as they stand, each with its promise -/
structure DefG (P : Program) (w : World) (K : PySem.W.Frag) (mg : Str → Option Value) (base : Heap) (k : Nat) (x : Str) (ps : List Str) (sp : Sp) : Prop where
  ex : ∃ f fd, FnOk P w K mg base (L2.CX P w) k f fd ps sp ∧ mg x = some (.ref f) ∧ PySem.W.keepIn K (.ref f) = true ∧ Binds K fd ps []
structure MakeG (P : Program) (w : World) (K : PySem.W.Frag) (mg : Str → Option Value) (base : Heap) (k : Nat) (x : Str) (C : Addr) (ps : List Str) (sp : Sp) : Prop where
  ex : ∃ f fd, L2.Mk K C f ∧ FnOk P w K mg base (L2.CX P w) k f fd ps sp ∧ mg x = some (.ref C) ∧ Binds K fd ps []
structure MethG (P : Program) (w : World) (K : PySem.W.Frag) (mg : Str → Option Value) (base : Heap) (k : Nat) (C : Addr) (m : Str) (ps : List Str) (sp : Sp) : Prop where
  ex : ∃ f fd, Cls K C ∧ Meth K C m f ∧ FnOk P w K mg base (L2.CX P w) k f fd ps sp ∧ Binds K fd ps []
/-- a def of the text, before its promise is shown -/
structure DefAt (K : PySem.W.Frag) (mg : Str → Option Value) (x : Str) (st : Stmt) (ps : List Str) : Prop where
  ex : ∃ f fd, L2.Fun K x x st f fd ∧ mg x = some (.ref f) ∧ Binds K fd ps []
structure InitAt (K : PySem.W.Frag) (mg : Str → Option Value) (x qual : Str) (C : Addr) (st : Stmt) (ps : List Str) : Prop where
  ex : ∃ f fd, L2.Mk K C f ∧ L2.Fun K "__init__" qual st f fd ∧ mg x = some (.ref C) ∧ Binds K fd ps []
structure MethAt (K : PySem.W.Frag) (C : Addr) (m qual : Str) (st : Stmt) (ps : List Str) : Prop where
  ex : ∃ f fd, Cls K C ∧ Meth K C m f ∧ L2.Fun K m qual st f fd ∧ Binds K fd ps []
/-- nothing leaves -/
abbrev W0 : WX := fun _ _ _ _ => False

section
variable {X : Cx} {σ : L2.St} {H : Hp} {Q : VK} {k j : Nat} {x m : Str} {C : Addr} {ps : List Str} {sp : Sp} {W : WX} {p1 p2 pos : Pos} {e o : Expr} {es : List Expr}
theorem eCall (G : DefG X.prog X.w X.K X.mg X.base k x ps sp) (hr : Room j X.A) (tk : Takes X W) (h : wA X (e :: es) σ H fun vs H1 => sp vs H1 Q fun c d H' => W c d σ H') (hk : k ≤ j := by decide) (hg : Gl X x := by rfl)
    (hdb : (x == ("__debug__" : Str)) = false := by decide) (he : starEach (e :: es) X.env = (false, eval e X.env) :: starEach es X.env := by rfl) (hpl : (backTo pos (starEach es X.env)).any (·.1) = false := by rfl) :
    wE X (.Call (.Name x p1) (e :: es) [] pos) σ H Q := by
  obtain ⟨f, fd, F, hm, hkp, hb⟩ := G.ex
  exact uE (pe_callS F (hr.mono hk) hg hm hkp hb (passAt tk) (pA _) hdb he hpl) h
theorem eCall0 (G : DefG X.prog X.w X.K X.mg X.base k x ps sp) (hr : Room j X.A) (tk : Takes X W) (h : sp [] H Q fun c d H' => W c d σ H') (hk : k ≤ j := by decide) (hg : Gl X x := by rfl) (hdb : (x == ("__debug__" : Str)) = false := by decide) :
    wE X (.Call (.Name x p1) [] [] pos) σ H Q := by
  obtain ⟨f, fd, F, hm, hkp, hb⟩ := G.ex
  refine ⟨fun pins s I => ?_⟩
  refine wpAny_Call_Name_kw (ld_glob I hg hm ?_ hdb)
  exact PySem.W.callWith_K0 I.kIn hkp (run_fnS (us := []) F (hr.mono hk) hb (passAt tk σ) I .nil h)
/-- a new instance is made, its own __init__ run, at the slots as they are -/
theorem run_made {f : Addr} {fd : FuncData} {pins : List (Addr × Obj)} {s : Shared} {us : List Value} {vs : List V} (M : L2.Mk X.K C f) (F : FnOk X.prog X.w X.K X.mg X.base (L2.CX X.prog X.w) k f fd ps sp) (hr : Room (k + 1) X.A) (hb : Binds X.K fd ps []) (tk : Takes X W)
    (I : Inv X pins σ H s) (r : Vals vs us) (h : ∀ n d, H n = none → H d = none → d ≠ n → sp (.ref n :: vs) (upd (upd H d (.own n)) n (.ins C d [])) (fun v H2 => v = .non ∧ Q (.ref n) H2) fun c d H' => W c d σ H') :
    wpAny (model X.prog X.w) X.A (call (.ref C) us) (EP X pins σ Q) X.xe s := by
  have q := h (s.heap.objs.size + 1) s.heap.objs.size (I.hok.fresh (Nat.le_succ _)) (I.hok.fresh (Nat.le_refl _)) (Nat.ne_of_lt (Nat.lt_succ_self _))
  have J := Inv.made (C := C) I
  have r2 : Vals (V.ref (s.heap.objs.size + 1) :: vs) (Value.ref (s.heap.objs.size + 1) :: us) := .cons rfl r
  have hl : (Value.ref (s.heap.objs.size + 1) :: us).length = ps.length := by
    have z := r2.length
    rw [F.len _ _ _ _ q] at z
    exact z.symm
  have b := hb _ (Value.ref (s.heap.objs.size + 1) :: us) J.kIn (by rw [List.append_nil]; exact hl)
  rw [List.append_nil] at b
  refine wpAny_call (make_map (f := f) I.kIn M.makes M.init (beq_iff_eq.mp M.fn) (codeAny_mono (F.run _ X.stack _ _ ⟨_, []⟩ _ _ _ _ (hr.make C us []) (J.env0.make C us []) b r2 q) fun z s' y => ?_))
  cases z with
  | error er => exact passAt tk σ pins _ _ er s' J y
  | ok fl =>
    cases fl with
    | ret u =>
      obtain ⟨v, H', I3, rv, ev, q3⟩ := J.after y
      subst ev
      exact ⟨rv, V.ref (s.heap.objs.size + 1), H', I3, rfl, q3⟩
    | next => exact False.elim y
    | brk => exact False.elim y
    | cont => exact False.elim y
theorem eMake (G : MakeG X.prog X.w X.K X.mg X.base k x C ps sp) (hr : Room j X.A) (tk : Takes X W)
    (h : wA X (e :: es) σ H fun vs H1 => ∀ n d, H1 n = none → H1 d = none → d ≠ n → sp (.ref n :: vs) (upd (upd H1 d (.own n)) n (.ins C d [])) (fun v H2 => v = .non ∧ Q (.ref n) H2) fun c d H' => W c d σ H') (hk : k + 1 ≤ j := by decide)
    (hg : Gl X x := by rfl) (hdb : (x == ("__debug__" : Str)) = false := by decide) (he : starEach (e :: es) X.env = (false, eval e X.env) :: starEach es X.env := by rfl) (hpl : (backTo pos (starEach es X.env)).any (·.1) = false := by rfl) :
    wE X (.Call (.Name x p1) (e :: es) [] pos) σ H Q := by
  obtain ⟨f, fd, M, F, hm, hb⟩ := G.ex
  refine ⟨fun pins s I => ?_⟩
  refine wpAny_Call_Name_kw (ld_glob I hg hm ?_ hdb)
  exact PySem.W.callWith_K (h₀ := X.base) I.ok.mod.kin M.kp (thn (h.r pos pins s I) fun us s1 ⟨vs, H1, I1, r, q⟩ => ⟨I1.kIn, run_made M F (hr.mono hk) hb tk I1 r q⟩) he hpl
theorem eMake0 (G : MakeG X.prog X.w X.K X.mg X.base k x C ps sp) (hr : Room j X.A) (tk : Takes X W)
    (h : ∀ n d, H n = none → H d = none → d ≠ n → sp [.ref n] (upd (upd H d (.own n)) n (.ins C d [])) (fun v H2 => v = .non ∧ Q (.ref n) H2) fun c d H' => W c d σ H') (hk : k + 1 ≤ j := by decide)
    (hg : Gl X x := by rfl) (hdb : (x == ("__debug__" : Str)) = false := by decide) : wE X (.Call (.Name x p1) [] [] pos) σ H Q := by
  obtain ⟨f, fd, M, F, hm, hb⟩ := G.ex
  refine ⟨fun pins s I => ?_⟩
  refine wpAny_Call_Name_kw (ld_glob I hg hm ?_ hdb)
  exact PySem.W.callWith_K0 I.kIn M.kp (run_made (us := []) M F (hr.mono hk) hb tk I .nil h)
theorem eMeth {pl : Sem Bool} (G : MethG X.prog X.w X.K X.mg X.base k C m ps sp) (hr : Room j X.A) (tk : Takes X W)
    (h : wE X o σ H fun x H1 => ∃ a dx fs, x = .ref a ∧ H1 a = some (.ins C dx fs) ∧ fs.lookup m = none ∧ wA X (e :: es) σ H1 fun vs H2 => sp (x :: vs) H2 Q fun c d H' => W c d σ H') (hk : k ≤ j := by decide)
    (hst : starEach (e :: es) X.env = (false, eval e X.env) :: starEach es X.env := by rfl) (hpl : (backTo pos (starEach es X.env)).any (·.1) = false := by rfl)
    (ht : eval (.Call (.Attribute o m p1) (e :: es) [] pos) X.env = (do
      let ov ← eval o X.env
      standAt p1.atName
      let (f, first) ← holding [ov] (getMethod ov m pl)
      callWith pos f first (backTo pos (starEach (e :: es) X.env)) (backToKw pos (keywordEach [] X.env))) := by rfl) :
    wE X (.Call (.Attribute o m p1) (e :: es) [] pos) σ H Q := by
  obtain ⟨f, fd, hc, hm, F, hb⟩ := G.ex
  refine ⟨fun pins s I => ?_⟩
  refine PySem.W.methodCall_KW (pl := pl) (thn (h.r pins s I) fun u s1 ⟨x, H1, I1, rx, a, dx, fs, ex, ea, l, q⟩ => ?_) ht
  subst ex
  obtain rfl : u = Value.ref a := rx
  refine getmeth_ok I1 ea hc hm l ?_
  exact PySem.W.callWith_K (first := [.ref a]) (h₀ := X.base) I.ok.mod.kin hm.kp (thn (q.r pos pins s1 I1) fun us s2 ⟨vs, H2, I2, r, q2⟩ => ⟨I2.kIn, run_fnS (us := .ref a :: us) (vs := .ref a :: vs) F (hr.mono hk) hb (passAt tk σ) I2 (.cons rfl r) q2⟩) hst hpl
theorem eMeth0 {pl : Sem Bool} (G : MethG X.prog X.w X.K X.mg X.base k C m ps sp) (hr : Room j X.A) (tk : Takes X W)
    (h : wE X o σ H fun x H1 => ∃ a dx fs, x = .ref a ∧ H1 a = some (.ins C dx fs) ∧ fs.lookup m = none ∧ sp [x] H1 Q fun c d H' => W c d σ H') (hk : k ≤ j := by decide)
    (ht : eval (.Call (.Attribute o m p1) [] [] pos) X.env = (do
      let ov ← eval o X.env
      standAt p1.atName
      let (f, first) ← holding [ov] (getMethod ov m pl)
      callWith pos f first (backTo pos (starEach [] X.env)) (backToKw pos (keywordEach [] X.env))) := by rfl) :
    wE X (.Call (.Attribute o m p1) [] [] pos) σ H Q := by
  obtain ⟨f, fd, hc, hm, F, hb⟩ := G.ex
  refine ⟨fun pins s I => ?_⟩
  refine PySem.W.methodCall_KW (pl := pl) (thn (h.r pins s I) fun u s1 ⟨x, H1, I1, rx, a, dx, fs, ex, ea, l, q⟩ => ?_) ht
  subst ex
  obtain rfl : u = Value.ref a := rx
  refine getmeth_ok I1 ea hc hm l ?_
  exact PySem.W.callWith_K0 (first := [.ref a]) I1.kIn hm.kp (run_fnS (us := [.ref a]) (vs := [.ref a]) F (hr.mono hk) hb (passAt tk σ) I1 (.cons rfl .nil) q)
/-- try: body, except x as n: suite -/
theorem sTry (i : Nat) {n : Str} {c : Value} {body suite : List Stmt} {b0 : Stmt} {np pos' : Pos} {D : Ends} (hc : Names X x c) (tk : Takes X W)
    (h : ∀ W' : WX, W' = wAs X.K c i (fun a cls d D σ H => ∀ oe pn, Zc cls d oe → (∃ vs, oe.data = .fields vs) → wB (X.suite a ((a, oe) :: pn)) (b0 :: suite) D σ H) W D →
      ∀ pn xe, Takes (X.tr pn xe) W' → PassesOwn (model X.prog X.w) X.A X.env xe → wB (X.tr pn xe) body D σ H)
    (hN : X.N.Nodup := by assumption) (hi : X.N[i]? = some n := by rfl) (hs : X.stack = X.env :: X.outer := by rfl) (hf : X.env.frame = some X.env.locals := by rfl) (hln : X.env.kindOf n = some .local := by rfl) :
    wS X (.Try body [.ExceptHandler (some (.Name x np)) (some n) (b0 :: suite) pos'] [] [] pos) D σ H :=
  uS (ps_try_as (i := i) (tb := fun W' D σ H => ∀ pn xe, Takes (X.tr pn xe) W' → PassesOwn (model X.prog X.w) X.A X.env xe → wB (X.tr pn xe) body D σ H)
    (ts := fun a cls d D σ H => ∀ oe pn, Zc cls d oe → (∃ vs, oe.data = .fields vs) → wB (X.suite a ((a, oe) :: pn)) (b0 :: suite) D σ H) hs hf hN hi hln hc tk
    (fun W' pn xe t po => ⟨fun pins s σ H D I h => (h pn xe t po).r pins s I⟩) (fun a oe cls d pn z f => ⟨fun pins s σ H D I h => (h oe pn z f).r pins s I⟩)) (h _ rfl)
/-- raise -/
theorem sRaise {e : Expr} {D : Ends} {t : L2.St → Hp → XK → Prop} (tk : Takes X W) (he : PMk X e t) (h : t σ H fun c d H' => W c d σ H') (hc : X.calm = true := by rfl) : wS X (.Raise (some e) none pos) D σ H := uS (ps_raise hc tk he) h
end

section
variable {P : Program} {w : World} {K : PySem.W.Frag} {mg : Str → Option Value} {base : Heap} {k : Nat} {x qual : Str} {C : Addr} {st : Stmt} {N ps : List Str} {sp : Sp}
/-- a def's body, nothing leaves it -/
theorem okN {f : Addr} {fd : FuncData} (F : L2.Fun K x qual st f fd) (S : FnScope N ps (defScope st)) (len : ∀ vs H Q E, sp vs H Q E → vs.length = ps.length)
    (h : ∀ (X : Cx) (H : Hp) (vs : List V) (Q : VK) (E : XK), (∃ cdv A outer s, X = (cxOf (L2.CX P w) P w K mg base N qual (defScope st) f cdv A outer s H E).nox) → Room k X.A → Takes X W0 → sp vs H Q E →
      wB X (defBody st) { nx := fun _ H' => Q .non H', rt := Q } (start N vs) H) : FnOk P w K mg base (L2.CX P w) (k + 1) f fd ps sp :=
  F.okX S len fun cdv A outer s H vs Q E hr hs => ⟨_, (pB (X := (cxOf (L2.CX P w) P w K mg base N qual (defScope st) f cdv A outer s H E).nox) (defBody st)).nox, h _ H vs Q E ⟨cdv, A, outer, s, rfl⟩ hr takes0 hs⟩
end
end BR

namespace BR
open PySem PySem.Spec PyProof.Rows L2
/-! what values tell, apart from where they stand -/
inductive D where
  | non | bl (b : Bool) | int (i : Int) | str (x : Str)
  | tup (l : List D) | lst (l : List D) | obj (c : Str) (l : List (Str × D))
abbrev Reg := Addr → Prop
/-- a tuple of the program's top -/
def KTup (K : PySem.W.Frag) (a : Addr) (xs : List V) : Prop :=
  ∃ o its n, K.lookup a = some o ∧ o.cls = .type "tuple" ∧ o.data = .seq its n ∧ its.size ≤ sizeLine ∧ Vals xs its.toList
structure Rp where
  K : PySem.W.Frag
  CA : Str → Addr
mutual
/-- v stands for d; no object of it lies in S -/
inductive Is (R : Rp) (S : Reg) (H : Hp) : V → D → Prop
  | non : Is R S H .non .non
  | bl (b : Bool) : Is R S H (.bl b) (.bl b)
  | int (i : Int) : Is R S H (.int i) (.int i)
  | str (x : Str) : Is R S H (.str x) (.str x)
  | tup {a : Addr} {xs : List V} {ds : List D} : ¬ S a → H a = some (.tup xs) → IsA R S H xs ds → Is R S H (.ref a) (.tup ds)
  | tupK {a : Addr} {xs : List V} {ds : List D} : KTup R.K a xs → IsA R S H xs ds → Is R S H (.ref a) (.tup ds)
  | lst {a : Addr} {xs : List V} {ds : List D} : ¬ S a → H a = some (.lst xs) → IsA R S H xs ds → Is R S H (.ref a) (.lst ds)
  | obj {a dx : Addr} {c : Str} {fs : List (Str × V)} {ds : List (Str × D)} : ¬ S a → H a = some (.ins (R.CA c) dx fs) → IsF R S H fs ds → Is R S H (.ref a) (.obj c ds)
inductive IsA (R : Rp) (S : Reg) (H : Hp) : List V → List D → Prop
  | nil : IsA R S H [] []
  | cons {v : V} {vs : List V} {d : D} {ds : List D} : Is R S H v d → IsA R S H vs ds → IsA R S H (v :: vs) (d :: ds)
inductive IsF (R : Rp) (S : Reg) (H : Hp) : List (Str × V) → List (Str × D) → Prop
  | nil : IsF R S H [] []
  | cons {f : Str} {v : V} {vs : List (Str × V)} {d : D} {ds : List (Str × D)} : Is R S H v d → IsF R S H vs ds → IsF R S H ((f, v) :: vs) ((f, d) :: ds)
end
/-- all but S is kept -/
def Kp (S : Reg) (H H' : Hp) : Prop := ∀ a o, ¬ S a → H a = some o → H' a = some o
/-- what lies in S is there -/
def Live (S : Reg) (H : Hp) : Prop := ∀ a, S a → H a ≠ none
section
variable {R : Rp} {S : Reg} {H H' H2 : Hp}
theorem Kp.refl (S : Reg) (H : Hp) : Kp S H H := fun _ _ _ e => e
theorem Kp.trans (a : Kp S H H') (b : Kp S H' H2) : Kp S H H2 := fun c o n e => b c o n (a c o n e)
theorem Kp.of (a : Same H H') : Kp S H H' := fun c o _ e => a c o e
mutual
theorem Is.kp (k : Kp S H H') : ∀ {v : V} {d : D}, Is R S H v d → Is R S H' v d
  | _, _, .non => .non
  | _, _, .bl b => .bl b
  | _, _, .int i => .int i
  | _, _, .str x => .str x
  | _, _, .tup n e h => .tup n (k _ _ n e) (IsA.kp k h)
  | _, _, .tupK e h => .tupK e (IsA.kp k h)
  | _, _, .lst n e h => .lst n (k _ _ n e) (IsA.kp k h)
  | _, _, .obj n e h => .obj n (k _ _ n e) (IsF.kp k h)
theorem IsA.kp (k : Kp S H H') : ∀ {v : List V} {d : List D}, IsA R S H v d → IsA R S H' v d
  | _, _, .nil => .nil
  | _, _, .cons a b => .cons (Is.kp k a) (IsA.kp k b)
theorem IsF.kp (k : Kp S H H') : ∀ {v : List (Str × V)} {d : List (Str × D)}, IsF R S H v d → IsF R S H' v d
  | _, _, .nil => .nil
  | _, _, .cons a b => .cons (Is.kp k a) (IsF.kp k b)
end
theorem Is.up {v : V} {d : D} (h : Is R S H v d) (s : Same H H') : Is R S H' v d := Is.kp (Kp.of s) h
theorem IsA.up {v : List V} {d : List D} (h : IsA R S H v d) (s : Same H H') : IsA R S H' v d := IsA.kp (Kp.of s) h
theorem Is.go {v : V} {d : D} (h : Is R S H v d) (s : Kp S H H') : Is R S H' v d := Is.kp s h
theorem IsA.go {v : List V} {d : List D} (h : IsA R S H v d) (s : Kp S H H') : IsA R S H' v d := IsA.kp s h
theorem Live.up (l : Live S H) (s : Same H H') : Live S H' := fun a h z => by
  have q := l a h
  cases e : H a with
  | none => exact q e
  | some o => rw [s a o e] at z; cases z
theorem Live.new {p : Addr} (l : Live S H) (h : H p = none) : ¬ S p := fun z => l p z h
theorem Live.or {T : Reg} (l : Live S H) (k : Live T H) : Live (fun z => S z ∨ T z) H := fun a h => h.elim (l a) (k a)
theorem Live.none : Live (fun _ => False) H := fun _ z => z.elim
theorem same_new {p : Addr} {o : HO} (h : H p = none) : Same H (upd H p o) := fun b u e => by
  rw [upd_ne (ne_of_none e h)]
  exact e
theorem IsA.len : ∀ {vs : List V} {ds : List D}, IsA R S H vs ds → vs.length = ds.length
  | _, _, .nil => rfl
  | _, _, .cons _ h => by rw [List.length_cons, List.length_cons, IsA.len h]
theorem IsA.get : ∀ {vs : List V} {ds : List D} {i : Nat} {d : D}, IsA R S H vs ds → ds[i]? = some d → ∃ v, vs[i]? = some v ∧ Is R S H v d
  | _, _, _, _, .nil, e => by simp at e
  | _, _, 0, _, .cons a _, e => by simp at e; subst e; exact ⟨_, rfl, a⟩
  | _, _, i + 1, d, .cons _ b, e => by
    obtain ⟨v, h1, h2⟩ := IsA.get (i := i) (d := d) b (by simpa using e)
    exact ⟨v, by simpa using h1, h2⟩
theorem IsA.getV : ∀ {vs : List V} {ds : List D} {i : Nat} {v : V}, IsA R S H vs ds → vs[i]? = some v → ∃ d, ds[i]? = some d ∧ Is R S H v d
  | _, _, _, _, .nil, e => by simp at e
  | _, _, 0, _, .cons a _, e => by simp at e; subst e; exact ⟨_, rfl, a⟩
  | _, _, i + 1, d, .cons _ b, e => by
    obtain ⟨v, h1, h2⟩ := IsA.getV (i := i) (v := d) b (by simpa using e)
    exact ⟨v, by simpa using h1, h2⟩
theorem IsA.app : ∀ {vs us : List V} {ds es : List D}, IsA R S H vs ds → IsA R S H us es → IsA R S H (vs ++ us) (ds ++ es)
  | _, _, _, _, .nil, h => h
  | _, _, _, _, .cons a b, h => .cons a (IsA.app b h)
theorem IsA.ints : ∀ {is : List Int}, IsA R S H (is.map V.int) (is.map D.int)
  | [] => .nil
  | i :: r => .cons (.int i) IsA.ints
theorem IsA.of_ints : ∀ {vs : List V} {is : List Int}, IsA R S H vs (is.map D.int) → vs = is.map V.int
  | _, [], .nil => rfl
  | _, i :: r, .cons a b => by
    cases a
    rw [IsA.of_ints b]
    rfl
theorem KTup.sq {K : PySem.W.Frag} {a : Addr} {xs : List V} (h : KTup K a xs) : SqT K H a xs := .inr h
theorem Is.tupE {v : V} {ds : List D} (h : Is R S H v (.tup ds)) : ∃ a xs, v = .ref a ∧ SqT R.K H a xs ∧ IsA R S H xs ds := by
  cases h with
  | tup n e h => exact ⟨_, _, rfl, SqT.of e, h⟩
  | tupK e h => exact ⟨_, _, rfl, e.sq, h⟩
theorem Is.lstE {v : V} {ds : List D} (h : Is R S H v (.lst ds)) : ∃ a xs, v = .ref a ∧ ¬ S a ∧ H a = some (.lst xs) ∧ IsA R S H xs ds := by
  cases h with
  | lst n e h => exact ⟨_, _, rfl, n, e, h⟩
theorem IsF.look : ∀ {fs : List (Str × V)} {ds : List (Str × D)} {f : Str} {d : D}, IsF R S H fs ds → ds.lookup f = some d → ∃ v, fs.lookup f = some v ∧ Is R S H v d
  | _, _, _, _, .nil, e => by simp at e
  | _, _, f, d, .cons (f := g) a b, e => by
    by_cases z : f = g
    · subst z
      simp [List.lookup] at e
      subst e
      exact ⟨_, by simp [List.lookup], a⟩
    · have q : (f == g) = false := by simpa using z
      simp only [List.lookup, q] at e ⊢
      exact IsF.look b e
theorem IsF.lookN : ∀ {fs : List (Str × V)} {ds : List (Str × D)} {f : Str}, IsF R S H fs ds → ds.lookup f = none → fs.lookup f = none
  | _, _, _, .nil, e => rfl
  | _, _, f, .cons (f := g) a b, e => by
    by_cases z : f = g
    · subst z
      simp [List.lookup] at e
    · have q : (f == g) = false := by simpa using z
      simp only [List.lookup, q] at e ⊢
      exact IsF.lookN b e
/-- what is made anew -/
theorem Is.newT {p : Addr} {xs : List V} {ds : List D} (l : Live S H) (h : H p = none) (a : IsA R S H xs ds) : Is R S (upd H p (.tup xs)) (.ref p) (.tup ds) := .tup (l.new h) upd_same (a.up (same_new h))
theorem Is.newL {p : Addr} {xs : List V} {ds : List D} (l : Live S H) (h : H p = none) (a : IsA R S H xs ds) : Is R S (upd H p (.lst xs)) (.ref p) (.lst ds) := .lst (l.new h) upd_same (a.up (same_new h))

/-! ### two-place readings over what is known -/
variable {Q : VK} {v : V}
def D.items : D → Option (List D)
  | .tup l => some l
  | .lst l => some l
  | _ => none
theorem ixD {d e : D} {ds : List D} {i : Nat} (h : Is R S H v d) (hi : d.items = some ds) (he : ds[i]? = some e) (q : ∀ x, Is R S H x e → Q x H) : rIx R.K v (.int (i : Nat)) H Q := by
  cases d with
  | tup l =>
    cases hi
    obtain ⟨a, xs, rfl, hs, ha⟩ := h.tupE
    obtain ⟨x, hx, ix⟩ := ha.get he
    exact .inr (.inl ⟨a, xs, _, x, rfl, rfl, hs, atI_nat hx, q x ix⟩)
  | lst l =>
    cases hi
    obtain ⟨a, xs, rfl, _, hs, ha⟩ := h.lstE
    obtain ⟨x, hx, ix⟩ := ha.get he
    exact .inl ⟨a, xs, _, x, rfl, rfl, SqL.of hs, atI_nat hx, q x ix⟩
  | _ => cases hi
end
end BR

namespace BR
open PySem PySem.Spec PyProof.Rows L2
/-! ### fractions -/
def mkQ (p q : Int) : Rat := Rat.divInt p q
def frac (r : Rat) : D := .tup [.int r.num, .int (r.den : Int)]
structure Sz (n : Nat) (r : Rat) : Prop where
  num : r.num.natAbs < 2 ^ n
  den : r.den < 2 ^ n
theorem mkQ_self (r : Rat) : mkQ r.num (r.den : Int) = r := by
  unfold mkQ
  rw [Rat.divInt_ofNat]
  exact Rat.mkRat_self r
theorem den_pos (r : Rat) : (0 : Int) < (r.den : Int) := by
  have := r.den_pos
  omega
theorem mkQ_num {p q : Int} (h : 0 < q) : (mkQ p q).num = p / (Int.gcd p q : Int) := by
  unfold mkQ
  rw [Rat.num_divInt, Int.sign_eq_one_of_pos h, Int.one_mul, Int.gcd_comm]
theorem mkQ_den {p q : Int} (h : 0 < q) : ((mkQ p q).den : Int) = q / (Int.gcd p q : Int) := by
  unfold mkQ
  rw [Rat.den_divInt, if_neg (by omega), Int.gcd_comm]
  have e : (q.natAbs : Int) = q := Int.natAbs_of_nonneg (by omega)
  rw [Int.natCast_ediv, e]
theorem gcd_pos {p q : Int} (h : 0 < q) : (0 : Int) < (Int.gcd p q : Int) := by
  have : 0 < Int.gcd p q := Int.gcd_pos_of_ne_zero_right p (by omega)
  omega
theorem gcd_le {p q : Int} (h : 0 < q) : (Int.gcd p q : Int) ≤ q := Int.le_of_dvd h (Int.gcd_dvd_right p q)
theorem ediv_abs {p g : Int} (h : 0 < g) : (p / g).natAbs ≤ p.natAbs := Int.natAbs_ediv_le_natAbs p g
theorem mkQ_sz {n : Nat} {p q : Int} (h : 0 < q) (hp : p.natAbs < 2 ^ n) (hq : q.natAbs < 2 ^ n) : Sz n (mkQ p q) := by
  refine ⟨?_, ?_⟩
  · rw [mkQ_num h]
    exact Nat.lt_of_le_of_lt (ediv_abs (gcd_pos h)) hp
  · have e := mkQ_den (p := p) h
    have l := ediv_abs (p := q) (gcd_pos (p := p) h)
    omega
theorem mkQ_add {a b c d : Int} (h : 0 < b) (k : 0 < d) : mkQ (a * d + c * b) (b * d) = mkQ a b + mkQ c d := by
  unfold mkQ
  rw [Rat.divInt_add_divInt _ _ (by omega) (by omega)]
theorem mkQ_sub {a b c d : Int} (h : 0 < b) (k : 0 < d) : mkQ (a * d - c * b) (b * d) = mkQ a b - mkQ c d := by
  have q := mkQ_add (a := a) (c := -c) h k
  rw [Int.neg_mul, ← Int.sub_eq_add_neg] at q
  rw [q, Rat.sub_eq_add_neg]
  unfold mkQ
  rw [Rat.neg_divInt]
theorem mkQ_mul {a b c d : Int} : mkQ (a * c) (b * d) = mkQ a b * mkQ c d := by
  unfold mkQ
  rw [Rat.divInt_mul_divInt]
theorem mkQ_inj {a b c d : Int} (h : 0 < b) (k : 0 < d) : mkQ a b = mkQ c d ↔ a * d = c * b := by
  unfold mkQ
  exact Rat.divInt_eq_divInt_iff (by omega) (by omega)
theorem mkQ_neg {a b : Int} : mkQ (-a) b = - mkQ a b := by
  unfold mkQ
  rw [Rat.neg_divInt]
theorem frac_inj {r s : Rat} : frac r = frac s ↔ r = s := by
  constructor
  · intro h
    unfold frac at h
    injection h with h
    injection h with h1 h
    injection h with h2 _
    injection h1 with h1
    injection h2 with h2
    exact Rat.ext h1 (by omega)
  · intro h; rw [h]
theorem pow_le2 {a b : Nat} (h : a ≤ b) : 2 ^ a ≤ 2 ^ b := Nat.pow_le_pow_right (by decide) h
theorem Sz.mono {n m : Nat} {r : Rat} (h : Sz n r) (k : n ≤ m) : Sz m r := ⟨Nat.lt_of_lt_of_le h.num (pow_le2 k), Nat.lt_of_lt_of_le h.den (pow_le2 k)⟩
theorem abs_mul {a b : Int} {n m : Nat} (h : a.natAbs < 2 ^ n) (k : b.natAbs < 2 ^ m) : (a * b).natAbs < 2 ^ (n + m) := wide_lt h k
theorem abs_add {a b : Int} {n : Nat} (h : a.natAbs < 2 ^ n) (k : b.natAbs < 2 ^ n) : (a + b).natAbs < 2 ^ (n + 1) := by
  have : 2 ^ (n + 1) = 2 ^ n + 2 ^ n := by rw [Nat.pow_succ]; omega
  omega
theorem abs_sub {a b : Int} {n : Nat} (h : a.natAbs < 2 ^ n) (k : b.natAbs < 2 ^ n) : (a - b).natAbs < 2 ^ (n + 1) := by
  have : 2 ^ (n + 1) = 2 ^ n + 2 ^ n := by rw [Nat.pow_succ]; omega
  omega
/-! ### the gcd by remainders -/
theorem gcd_step (a b : Int) : Int.gcd b (a % b) = Int.gcd a b := by
  rw [Int.emod_def, Int.gcd_sub_mul_left_right, Int.gcd_comm]

/-! ### data that are equal -/
mutual
def D.py : D → PyData
  | .non => .none
  | .bl b => .bool b
  | .int i => .int i
  | .str x => .str x
  | .tup l => .tuple (D.pys l)
  | .lst l => .list (D.pys l)
  | .obj _ _ => .none
def D.pys : List D → List PyData
  | [] => []
  | d :: r => D.py d :: D.pys r
end
mutual
def D.plain : D → Bool
  | .obj _ _ => false
  | .tup l => D.plains l
  | .lst l => D.plains l
  | _ => true
def D.plains : List D → Bool
  | [] => true
  | d :: r => D.plain d && D.plains r
end
section
variable {R : Rp} {S : Reg} {H : Hp}
mutual
theorem Is.dp : ∀ {v : V} {d : D}, Is R S H v d → d.plain = true → Dp R.K H v d.py
  | _, _, .non, _ => .non
  | _, _, .bl b, _ => .bl b
  | _, _, .int i, _ => .int i
  | _, _, .str x, _ => .str x
  | _, _, .tup n e h, p => .tup (SqT.of e) (IsA.dp h (by simpa [D.plain] using p))
  | _, _, .tupK e h, p => .tup e.sq (IsA.dp h (by simpa [D.plain] using p))
  | _, _, .lst n e h, p => .lst (SqL.of e) (IsA.dp h (by simpa [D.plain] using p))
  | _, _, .obj n e h, p => by simp [D.plain] at p
theorem IsA.dp : ∀ {v : List V} {d : List D}, IsA R S H v d → D.plains d = true → DpAll R.K H v (D.pys d)
  | _, _, .nil, _ => .nil
  | _, _, .cons a b, p => by
    simp [D.plains] at p
    exact .cons (Is.dp a p.1) (IsA.dp b p.2)
end
/-- what is no object stays where an instance is written -/
def KpI (H H' : Hp) : Prop := ∀ a o, H a = some o → (∀ C dx fs, o ≠ .ins C dx fs) → H' a = some o
mutual
theorem Is.kpI {H' : Hp} (k : KpI H H') : ∀ {v : V} {d : D}, Is R S H v d → d.plain = true → Is R S H' v d
  | _, _, .non, _ => .non
  | _, _, .bl b, _ => .bl b
  | _, _, .int i, _ => .int i
  | _, _, .str x, _ => .str x
  | _, _, .tup n e h, p => .tup n (k _ _ e fun _ _ _ z => by cases z) (IsA.kpI k h (by simpa [D.plain] using p))
  | _, _, .tupK e h, p => .tupK e (IsA.kpI k h (by simpa [D.plain] using p))
  | _, _, .lst n e h, p => .lst n (k _ _ e fun _ _ _ z => by cases z) (IsA.kpI k h (by simpa [D.plain] using p))
  | _, _, .obj n e h, p => by simp [D.plain] at p
theorem IsA.kpI {H' : Hp} (k : KpI H H') : ∀ {v : List V} {d : List D}, IsA R S H v d → D.plains d = true → IsA R S H' v d
  | _, _, .nil, _ => .nil
  | _, _, .cons a b, p => by
    simp [D.plains] at p
    exact .cons (Is.kpI k a p.1) (IsA.kpI k b p.2)
end
theorem kpI_upd {n C dx C' dx' : Addr} {fs fs' : List (Str × V)} (h : H n = some (.ins C dx fs)) : KpI H (upd H n (.ins C' dx' fs')) := fun a o e z => by
  by_cases q : a = n
  · subst q
    rw [h] at e
    cases e
    exact absurd rfl (z _ _ _)
  · rw [upd_ne q]
    exact e
theorem plain_frac (r : Rat) : (frac r).plain = true := rfl
def D.okEq (d : D) : Bool := d.plain && SeqAt.shaped d.py
def D.eqv (d e : D) : Bool := PyData.eqv d.py e.py
theorem neD {d e : D} {x y : V} {Q : VK} (h : Is R S H x d) (k : Is R S H y e) (hd : d.okEq = true) (he : e.okEq = true) (q : Q (.bl (!D.eqv d e)) H) : rNeD R.K x y H Q := by
  unfold D.okEq at hd he
  rw [Bool.and_eq_true] at hd he
  exact ⟨_, _, h.dp hd.1, k.dp he.1, hd.2, he.2, q⟩
theorem eqD {d e : D} {x y : V} {Q : VK} (h : Is R S H x d) (k : Is R S H y e) (hd : d.okEq = true) (he : e.okEq = true) (q : Q (.bl (D.eqv d e)) H) : rEqD R.K x y H Q := by
  unfold D.okEq at hd he
  rw [Bool.and_eq_true] at hd he
  exact ⟨_, _, h.dp hd.1, k.dp he.1, hd.2, he.2, q⟩
theorem okEq_frac (r : Rat) : (frac r).okEq = true := by
  simp [D.okEq, frac, D.plain, D.plains, D.py, D.pys, SeqAt.shaped, PyData.canLay0, PyData.canLayAll0, PyData.depth, PyData.depthAll]
theorem eqv_frac (r s : Rat) : D.eqv (frac r) (frac s) = decide (r = s) := by
  simp only [D.eqv, frac, D.py, D.pys, PyData.eqv, PyData.eqvAll, Bool.and_true]
  by_cases h : r = s
  · subst h; simp
  · rw [decide_eq_false h]
    by_cases h1 : r.num = s.num
    · by_cases h2 : r.den = s.den
      · exact absurd (Rat.ext h1 h2) h
      · have : ¬ (r.den : Int) = s.den := by omega
        simp [h1, this]
    · simp [h1]
end
end BR

namespace BRX
open PySem PySem.Spec PySem.Calls PyProof.Rows PySem.W
section
variable {prog : Program} {w : World} {A : Around} {E : Value → Shared → Prop} {s : Shared} {K : Frag} {x D : Addr} {ox : Obj} {od : Option Obj}
theorem dataX {C : Addr} {n : Str} {a g : Value} (hc : (clsIn K C).isSome = true) (ha : findIn K (.ref C) n = some (some a)) (hg : specialIn K a "__get__" = some (some g)) (ht : takesIn K a = some true) : findObj K C od n = some (.bind g a) := by
  obtain ⟨z, hz⟩ := Option.isSome_iff_exists.mp hc
  unfold findObj
  simp [hz, ha, hg, ht]
/-- what isinstance asks of an exception's class, whatever its own dict -/
theorem clsX {Q : Option Value → Shared → Prop} (hga : findIn K (.ref D) "__getattribute__" = some (some (.builtin "BaseException.__getattribute__"))) (hgt : findIn K (.ref D) "__getattr__" = some none) (hsub : subIn K (.ref D) (.type "BaseException") = some true)
    (hdct : hasDictIn K D = true) (ha : findIn K (.ref D) "__class__" = some (some (.builtin "object.__class__"))) (hn : specialIn K (.builtin "object.__class__") "__get__" = some (some (.builtin "getset_descriptor.__get__")))
    (htk : takesIn K (.builtin "object.__class__") = some true) (hm : mroIn K D (.type "object") = some true) (Y : K.In s.heap) (J : InstAt s.heap x ox D od) (h : Q (some (.ref D)) { s with toks := s.toks + 1 }) : wpAny (model prog w) A (getAttr? (.ref x) "__class__") Q E s := by
  have hf : findObj K D od "__class__" = some (.bind (.builtin "getset_descriptor.__get__") (.builtin "object.__class__")) := dataX (by obtain ⟨cd, hc, _⟩ := any_some hdct; rw [hc]; rfl) ha hn htk
  obtain ⟨hp, g, d, t, os⟩ := s
  have a0 := J.type (M := model prog w)
  have a1 := looks_findIn (M := model prog w) Y hga
  have a2 := looks_findIn (M := model prog w) Y hgt
  have a3 := looks_find (M := model prog w) Y J hf
  have sb : Looks (model prog w) hp (isInstance (.ref x) (.type "BaseException")) true := a0.andThen (looks_subIn Y hsub)
  have b0 : (false && onTheHeap (Value.builtin "BaseException.__getattribute__")) = false := rfl
  have b2 : (Value.builtin "BaseException.__getattribute__" == Value.builtin "object.__getattribute__") = false := by decide +kernel
  have b1 : (onTheHeap (Value.ref D) && Value.builtin "BaseException.__getattribute__" == Value.builtin "object.__getattribute__") = false := by rw [b2]; rfl
  unfold getAttr? getAttrBy? getAttrBy
  refine wpAny_bind (wpAny_mkText (wpAny_bind (wpAny_attempt (wpAny_holding (wpAny_bind (a0.at (wpAny_bind (a1.at ?_))))))))
  show wpAny _ _ (if (onTheHeap (Value.ref D) && Value.builtin "BaseException.__getattribute__" == Value.builtin "object.__getattribute__") = true then _ else _) _ _ _ 
  rw [b1, if_neg Bool.false_ne_true]
  unfold getAttrByItsOwn hookBefore
  apply wpAny_bind
  rw [if_pos (show onTheHeap (Value.ref D) = true by rfl)]
  refine a2.at (wpAny_bind (wpAny_attempt (wpAny_holding ?_)))
  unfold callGetattribute
  rw [b0, if_neg Bool.false_ne_true]
  unfold boundAndCalled
  rw [PySem.F.excAttr_ValueError.ga.bind (.ref x)]
  apply wpAny_bind
  apply wpAny_pure
  show wpAny _ _ (call (.builtin "BaseException.__getattribute__") [.ref x, .str "__class__" t]) _ _ (⟨hp, g, d, t + 1, os⟩ : Shared)
  refine wpAny_call (codeAny_call_builtin PySem.F.excAttr_ValueError.ga.plain PySem.F.entry_bexc_ga (@check_slot (model prog w) _ _ ⟨hp, g, d, t + 1, os⟩ "BaseException.__getattribute__" "BaseException" "__getattribute__" (.ref x) [.str "__class__" t] [] _
    (by decide +kernel) (by decide +kernel) sb (PySem.F.args_bexc_ga (.ref x) (.str "__class__" t)) ?_))
  unfold Builtin.«object.__getattribute__»
  apply wpAny_bind
  refine wpAny_of_eq (a := ((Value.ref x : Value), [Value.str "__class__" t])) (by first | rfl | (simp only [slotArgs]; rfl)) (wpAny_bind (wpAny_pure (wpAny_bind (a0.at (wpAny_bind (a3.at ?_))))))
  show wpAny _ _ (holding [Value.builtin "object.__class__"] (call (.builtin "getset_descriptor.__get__") [.builtin "object.__class__", .ref x, .ref D]) >>= ret) _ _ _ 
  refine wpAny_bind (wpAny_holding (wpAny_call (class_get (s := ⟨hp, g, d, t + 1, os⟩) (ox := ox) (od := od) Y J hm (wpAny_pure ?_))))
  show wpAny _ _ (handedOut (.ref D)) _ _ _
  rw [handedOut_of (v := .ref D) rfl]
  first
    | exact wpAny_pure (wpAny_pure h)
    | exact wpAny_pure h
    | exact wpAny_pure (wpAny_bind (wpAny_pure (wpAny_pure h)))
end
end BRX

namespace BR
open PySem PySem.Spec PyProof.Rows L2
theorem kitX {K : PySem.W.Frag} {D x : Addr} {ox : Obj} (C : ExcC K D) : PySem.W.KitX K (.ref x) (.ref D) (fun h => ∃ od, PySem.W.InstAt h x ox D od) where
  ty := fun _ _ _ J => by obtain ⟨od, J⟩ := J; exact J.type
  it := fun _ _ Y _ => by
    obtain ⟨cd, hc, _⟩ := PySem.W.any_some C.hd
    unfold PySem.W.clsIn at hc
    split at hc
    · rename_i ho
      intro A' Q' E' s' k q
      unfold isType loadHead
      exact wpAny_bind (wpAny_loadPart (k _ _ (Y _ _ ho)) (wpAny_pure q))
    · cases hc
  ne := fun h tp dd its n sl Y htp => Bool.eq_false_iff.mpr fun q => by
    obtain ⟨cd, hc, _⟩ := PySem.W.any_some C.hd
    have e : D = tp := Value.ref.inj (beq_iff_eq.mp q)
    subst e
    unfold PySem.W.clsIn at hc
    split at hc
    · rename_i ho
      have z := (Y _ _ ho).symm.trans htp
      cases z
    · cases hc
  ca := fun Y J k => by
    obtain ⟨od, J⟩ := J
    exact BRX.clsX C.hg C.hk C.hs C.hd C.ha C.hn C.ht C.hm Y J k
/-- isinstance(e, c), e the exception that the suite holds, with its dict or without -/
def rIsX (K : PySem.W.Frag) (D a : Addr) (d : Option Addr) : List V → Hp → VK → Prop := fun xs H Q => ∃ (c : V) (cv : Value) (b : Bool), xs = [.ref a, c] ∧ (∀ u, RelV c u → u = cv) ∧ (∀ dd, d = some dd → ∃ fs, H dd = some (.xd fs)) ∧ PySem.W.kitOne K (.ref D) cv = some b ∧ Q (.bl b) H
theorem call_isX {X : Cx} {a D : Addr} {d : Option Addr} {oe : Obj} {pn : List (Addr × Obj)} (C : ExcC X.K D) (hz : Zc (.ref D) d oe) (hf : ∃ vs, oe.data = .fields vs) : CallR (X.suite a ((a, oe) :: pn)) (.builtin "isinstance") (rIsX X.K D a d) := by
  intro pins s σ H xs us Q I r h
  obtain ⟨c, cv, b, rfl, hcv, hd, e, q⟩ := h
  obtain ⟨u1, u2, rfl, r1, r2⟩ := vals2 r
  have e1 : u1 = Value.ref a := r1
  subst e1
  have ec := hcv _ r2
  subst ec
  obtain ⟨hget, _⟩ := I.pin (a, oe) (List.mem_append.mpr (.inl List.mem_cons_self))
  obtain ⟨vs, hv⟩ := hf
  have J : ∃ od, PySem.W.InstAt s.heap a oe D od := by
    cases d with
    | none =>
      refine ⟨none, hget, hz.1, by unfold PySem.W.notCls; rw [hv] <;> rfl, ?_⟩
      rw [hz.2]
      trivial
    | some dd =>
      obtain ⟨fs, hh⟩ := hd dd rfl
      have ob : ObjOk X.prog X.w H s.heap dd (.xd fs) := I.hok dd _ hh
      obtain ⟨mA, ⟨o, _, _, ho, _⟩, _⟩ := ob
      refine ⟨some o, hget, hz.1, by unfold PySem.W.notCls; rw [hv] <;> rfl, ?_⟩
      rw [hz.2]
      exact ho
  exact PySem.W.kia_one (kitX C) I.kIn J e (fun z => nomatch z) fun tk => ⟨.bl b, H, I.kept (t' := tk) fun _ _ z => z, rfl, q⟩
section
variable {X : Cx} {σ : L2.St} {H : Hp} {D : Ends} {e o : Expr} {f : Str} {p1 p2 p3 pos : Pos}
/-- self.f = e in an exception's __init__ -/
theorem sOst (h : wE X e σ H fun y H1 => wE X o σ H1 fun x H2 => ∃ a C : Addr, x = .ref a ∧ OexC X.K C ∧ PySem.W.findIn X.K (.ref C) f = some none ∧
      ((H2 a = some (exo a C none) ∧ ∀ dx, H2 dx = none → dx ≠ a → D.nx σ (upd (upd H2 dx (exd dx [(f, y)])) a (exo a C (some dx)))) ∨
        ∃ (dx : Addr) (fs : List (Str × V)), H2 a = some (exo a C (some dx)) ∧ H2 dx = some (exd dx fs) ∧ fs.length ≤ 900 ∧ D.nx σ (upd H2 dx (exd dx ((f, y) :: fs)))))
    (hs : swapsWith e (some (.Attribute o f p1)) pos.line X.env = pure false := by rfl) : wS X (.Assign [.Attribute o f p1] e pos) D σ H := uS (ps_ost (pE o) (pE e) hs) h
/-- e.f of the exception that the suite holds -/
theorem eXf {a C : Addr} {oe : Obj} {cls : Value} {d : Option Addr} {pn : List (Addr × Obj)} {n : Str} {Q : VK} (T : XfC X.K C) (hno : PySem.W.findIn X.K (.ref C) n = some none) (hz : Zc cls d oe) (hf : ∃ vs, oe.data = .fields vs)
    (h : wE (X.suite a ((a, oe) :: pn)) e σ H fun x H1 => x = .ref a ∧ cls = .ref C ∧ ∃ (dd : Addr) (fs : List (Str × V)) (v : V), d = some dd ∧ H1 dd = some (.xd fs) ∧ fs.lookup n = some v ∧ Q v H1)
    (hb : attributeBase e n X.env (eval e X.env) = eval e X.env := by rfl) : wE (X.suite a ((a, oe) :: pn)) (.Attribute e n pos) σ H Q := uE (pe_xf T hno hz hf (pE e) hb) h
end
/-- an exception's class of the text, with its own __init__ -/
structure ErrC (K : PySem.W.Frag) (mg : Str → Option Value) (x : Str) (C : Addr) : Prop where
  gC : mg x = some (.ref C)
  ox : OexC K C
  xf : XfC K C
  ex : ExcC K C
structure ErrI (K : PySem.W.Frag) (mg : Str → Option Value) (x qual : Str) (C : Addr) (st : Stmt) (ps : List Str) : Prop where
  er : ErrC K mg x C
  ini : ∃ f fd, PySem.W.findIn K (.ref C) "__init__" = some (some (.ref f)) ∧ PySem.W.typeIn K (.ref f) = some (.type "function") ∧ L2.Fun K "__init__" qual st f fd ∧ Binds K fd ps []
/-- the same, the __init__'s promise shown -/
structure ErrG (P : Program) (w : World) (K : PySem.W.Frag) (mg : Str → Option Value) (base : Heap) (k : Nat) (x : Str) (C : Addr) (ps : List Str) (sp : Sp) : Prop where
  er : ErrC K mg x C
  ini : ∃ f fd, PySem.W.findIn K (.ref C) "__init__" = some (some (.ref f)) ∧ PySem.W.typeIn K (.ref f) = some (.type "function") ∧ FnOk P w K mg base (L2.CX P w) k f fd ps sp ∧ Binds K fd ps []
section
variable {X : Cx} {σ : L2.St} {H : Hp} {D : Ends} {e : Expr} {es : List Expr} {x : Str} {C : Addr} {p pos p2 : Pos} {k j : Nat} {ps : List Str} {sp : Sp} {W : WX}
/-- raise C(e, ..) -/
theorem sRaiseI (G : ErrG X.prog X.w X.K X.mg X.base k x C ps sp) (hr : Room j X.A) (tk : Takes X W)
    (h : wA X (e :: es) σ H fun vs H1 => vs.length ≤ 1000 ∧ ∀ a, H1 a = none → sp (.ref a :: vs) (upd H1 a (exo a C none))
      (fun v H2 => v = .non ∧ ∃ (d : Addr) (fs : List (Str × V)), H2 a = some (exo a C (some d)) ∧ H2 d = some (exd d fs) ∧ H1 d = none ∧ W (.ref C) (some d) σ (upd (del H2 a) d (.xd fs))) (fun _ _ _ => False)) (hk : k + 1 ≤ j := by decide)
    (hg : Gl X x := by rfl) (hdb : (x == ("__debug__" : Str)) = false := by decide) (he : starEach (e :: es) X.env = (false, eval e X.env) :: starEach es X.env := by rfl) (hpl : (backTo pos (starEach es X.env)).any (·.1) = false := by rfl) (hc : X.calm = true := by rfl) :
    wS X (.Raise (some (.Call (.Name x p) (e :: es) [] pos)) none p2) D σ H := by
  obtain ⟨f, fd, iC, tI, F, hb⟩ := G.ini
  refine sRaise tk (pmk_oex G.er.ox iC tI F (hr.mono hk) hb .nil (fun _ _ _ _ _ _ _ z => ?_) hg G.er.gC (pA _) hdb he hpl) ?_ hc
  · obtain ⟨_, _, _, _, _, _, _, _, _, _, _, _, z⟩ := z
    exact z.elim
  · show wA X (e :: es) σ H _
    simpa only [List.append_nil] using h
end
section
variable {P : Program} {w : World} {K : PySem.W.Frag} {mg : Str → Option Value} {base : Heap} {k : Nat} {x qual : Str} {C : Addr} {st : Stmt} {N ps : List Str} {sp : Sp}
/-- a def's body that may raise -/
theorem okR {f : Addr} {fd : FuncData} (F : L2.Fun K x qual st f fd) (S : FnScope N ps (defScope st)) (len : ∀ vs H Q E, sp vs H Q E → vs.length = ps.length)
    (h : ∀ (X : Cx) (H : Hp) (vs : List V) (Q : VK) (E : XK), (∃ cdv A outer s, X = cxOf (L2.CX P w) P w K mg base N qual (defScope st) f cdv A outer s H E) → Room k X.A → Takes X (fun c d _ H' => E c d H') → PassesOwn (model X.prog X.w) X.A X.env X.xe → sp vs H Q E →
      wB X (defBody st) { nx := fun _ H' => Q .non H', rt := Q } (start N vs) H) : FnOk P w K mg base (L2.CX P w) (k + 1) f fd ps sp :=
  F.okX S len fun cdv A outer s H vs Q E hr hs => ⟨_, pB (X := cxOf (L2.CX P w) P w K mg base N qual (defScope st) f cdv A outer s H E) (defBody st), h _ H vs Q E ⟨cdv, A, outer, s, rfl⟩ hr (takes_of rfl rfl rfl rfl) (passes_of rfl) hs⟩
end
end BR
namespace BR
open PySem PySem.Spec PyProof.Rows L2
theorem lk0 {α : Type} {f : Str} {v : α} {r : List (Str × α)} : List.lookup f ((f, v) :: r) = some v := by simp [List.lookup]
theorem lk1 {α : Type} {f g : Str} {w : α} {r : List (Str × α)} (h : ¬ f = g) : List.lookup f ((g, w) :: r) = List.lookup f r := by
  have e : (f == g) = false := by simpa using h
  simp [List.lookup, e]
/-- a built-in class as a value -/
theorem eBl0 {X : Cx} {σ : L2.St} {H : Hp} {Q : VK} {x : Str} {v : V} {u : Value} {pos : Pos} (hm : X.mg x = none) (hv : bootBuiltins x = some u) (r : RelV v u) (q : Q v H) (hg : Gl X x := by rfl) (hn : x ≠ "__name__" := by decide) (hd : (x == ("__debug__" : Str)) = false := by decide) : wE X (.Name x pos) σ H Q := uE (pe_bltn hg hm hv r hn hd) q
/-- a class of the text, as isinstance names it -/
structure NamC (K : PySem.W.Frag) (mg : Str → Option Value) (x : Str) (C : Addr) : Prop where
  gC : mg x = some (.ref C)
  hd : PySem.W.hasDictIn K C = true
  ty : PySem.W.typeIn K (.ref C) = some (.type "type")
theorem ErrC.nam {K : PySem.W.Frag} {mg : Str → Option Value} {x : Str} {C : Addr} (T : ErrC K mg x C) : NamC K mg x C := ⟨T.gC, T.ex.hd, T.ox.tyC⟩
theorem kitC {K : PySem.W.Frag} {mg : Str → Option Value} {x : Str} {D C : Addr} {b : Bool} (T : NamC K mg x C) (s : PySem.W.subIn K (.ref D) (.ref C) = some b) (n : D = C → b = true) : PySem.W.kitOne K (.ref D) (.ref C) = some b := by
  unfold PySem.W.kitOne
  by_cases e : D = C
  · rw [if_pos (by rw [e]; simp), n e]
  · have ne : ¬ ((Value.ref D == Value.ref C) = true) := fun z => e (Value.ref.inj (beq_iff_eq.mp z))
    rw [if_neg ne]
    obtain ⟨cd, hc, _⟩ := PySem.W.any_some T.hd
    unfold PySem.W.kitCls
    simp only [hc, T.ty, Option.isSome_some, Bool.true_and, beq_self_eq_true, if_true]
    exact s
theorem kitT {K : PySem.W.Frag} {D : Addr} {n : String} {b : Bool} (k : PySem.W.kitMeta n = true) (s : PySem.W.subIn K (.ref D) (.type n) = some b) : PySem.W.kitOne K (.ref D) (.type n) = some b := by
  unfold PySem.W.kitOne
  rw [if_neg (by simp)]
  unfold PySem.W.kitCls
  simp only [k, if_true]
  exact s
/-! ### what the top has left -/
section
open PySem.W
variable {K : PySem.W.Frag} {h : Heap} {mg : Str → Option Value} {x qual : Str} {f C CB : Addr} {st : Stmt} {ps : List Str}
theorem defAt_mk {od an : Option Addr} {sl : Array (Option Value)} {oc kV dc pm cd ct : Value} (X : K.In h) (G : h.Ns mainGlobals mg) (b : ∀ (kV doc pm : Value) (an : Option Addr) (cdv ct : Value) (us : List Value), us.length = ps.length → bindArgs (fnOf x x (L2.defArgs st) (L2.defBody st) (L2.defScope st) .none kV doc pm an cdv ct) ⟨us, []⟩ = pure (ps.zip us))
    (a : nsIn K mainGlobals x = some (some (.ref f))) (l : K.lookup f = some ⟨oc, od, .func (fnOf x x (L2.defArgs st) (L2.defBody st) (L2.defScope st) .none kV dc pm an cd ct), sl⟩) (c : codeIn K cd x = true) (k : keepIn K (.ref f) = true) : DefAt K mg x st ps := by
  have F := L2.fun_mk (st := st) l c k
  exact ⟨f, _, F, mg_of X G a, F.binds b⟩
theorem initAt_mk {od an : Option Addr} {sl : Array (Option Value)} {oc kV dc pm cd ct : Value} (X : K.In h) (G : h.Ns mainGlobals mg) (b : ∀ (kV doc pm : Value) (an : Option Addr) (cdv ct : Value) (us : List Value), us.length = ps.length → bindArgs (fnOf "__init__" qual (L2.defArgs st) (L2.defBody st) (L2.defScope st) .none kV doc pm an cdv ct) ⟨us, []⟩ = pure (ps.zip us))
    (aC : nsIn K mainGlobals x = some (some (.ref C))) (mk : makesIn K C = true) (kc : keepIn K (.ref C) = true) (a : findIn K (.ref C) "__init__" = some (some (.ref f))) (i : isFn K (.ref f) = true)
    (l : K.lookup f = some ⟨oc, od, .func (fnOf "__init__" qual (L2.defArgs st) (L2.defBody st) (L2.defScope st) .none kV dc pm an cd ct), sl⟩) (c : codeIn K cd qual = true) (k : keepIn K (.ref f) = true) : InitAt K mg x qual C st ps := by
  have F := L2.fun_mk (st := st) l c k
  exact ⟨f, _, ⟨mk, a, i, kc⟩, F, mg_of X G aC, F.binds b⟩
theorem methAt_mk {m : Str} {od an : Option Addr} {sl : Array (Option Value)} {oc kV dc pm cd ct : Value} (T : Cls K C) (b : ∀ (kV doc pm : Value) (an : Option Addr) (cdv ct : Value) (us : List Value), us.length = ps.length → bindArgs (fnOf m qual (L2.defArgs st) (L2.defBody st) (L2.defScope st) .none kV doc pm an cdv ct) ⟨us, []⟩ = pure (ps.zip us))
    (a : findIn K (.ref C) m = some (some (.ref f))) (i : isFn K (.ref f) = true) (l : K.lookup f = some ⟨oc, od, .func (fnOf m qual (L2.defArgs st) (L2.defBody st) (L2.defScope st) .none kV dc pm an cd ct), sl⟩) (c : codeIn K cd qual = true) (k : keepIn K (.ref f) = true) : MethAt K C m qual st ps := by
  have F := L2.fun_mk (st := st) l c k
  exact ⟨f, _, T, ⟨a, i, k⟩, F, F.binds b⟩
theorem errC_mk {nm q : Str} {N : Addr} {bs bm : List Value} {sn : List Str} {sub : List Value} {ab : Bool} {col : Option Bool} {dd : Option Addr} {m0 m1 m2 m3 m5 : Option Value} (X : K.In h) (G : h.Ns mainGlobals mg)
    (aC : nsIn K mainGlobals x = some (some (.ref C))) (xL : K.lookup C = some (excClassObj nm q C N bs bm true sn sub ab col dd m0 m1 m2 m3 m5 "ValueError.__new__")) (rb : HandSPX.refsVE bm = true)
    (sa : findIn K (.ref C) "__setattr__" = some (some (.builtin "object.__setattr__"))) (ga : findIn K (.ref C) "__getattribute__" = some (some (.builtin "BaseException.__getattribute__"))) (gg : findIn K (.ref C) "__getattr__" = some none)
    (eC : subIn K (.ref C) (.type "BaseException") = some true) (tC : typeIn K (.ref C) = some (.type "type")) (kC : keepIn K (.ref C) = true) (hC : hasDictIn K C = true)
    (ha : findIn K (.ref C) "__class__" = some (some (.builtin "object.__class__"))) (hn : specialIn K (.builtin "object.__class__") "__get__" = some (some (.builtin "getset_descriptor.__get__"))) (ht : takesIn K (.builtin "object.__class__") = some true) (hm : mroIn K C (.type "object") = some true) :
    ErrC K mg x C := ⟨mg_of X G aC, ⟨⟨nm, q, N, bs, bm, sn, sub, ab, col, dd, m0, m1, m2, m3, m5, xL, rb⟩, sa, eC, tC, kC⟩, ⟨ga, gg, eC, hC⟩, ⟨ga, gg, eC, hC, ha, hn, ht, hm⟩⟩
theorem errI_mk {od an : Option Addr} {sl : Array (Option Value)} {oc kV dc pm cd ct : Value} (T : ErrC K mg x C) (b : ∀ (kV doc pm : Value) (an : Option Addr) (cdv ct : Value) (us : List Value), us.length = ps.length → bindArgs (fnOf "__init__" qual (L2.defArgs st) (L2.defBody st) (L2.defScope st) .none kV doc pm an cdv ct) ⟨us, []⟩ = pure (ps.zip us))
    (a : findIn K (.ref C) "__init__" = some (some (.ref f))) (t : typeIn K (.ref f) = some (.type "function"))
    (l : K.lookup f = some ⟨oc, od, .func (fnOf "__init__" qual (L2.defArgs st) (L2.defBody st) (L2.defScope st) .none kV dc pm an cd ct), sl⟩) (c : codeIn K cd qual = true) (k : keepIn K (.ref f) = true) : ErrI K mg x qual C st ps := by
  have F := L2.fun_mk (st := st) l c k
  exact ⟨T, f, _, a, t, F, F.binds b⟩
end
end BR

namespace BR
open PySem PySem.Spec PyProof.Rows L2
/-! ### displays over what is known; sources of draws -/
section
variable {X : Cx} {σ : L2.St} {H : Hp} {Q : VK} {es : List Expr} {pos : Pos}
theorem eTupD (R : Rp) (S : Reg) (ds : List D) {k} (h : wA X es σ H fun xs H1 => Live S H1 ∧ IsA R S H1 xs ds ∧ ∀ v H2, Same H1 H2 → Is R S H2 v (.tup ds) → Q v H2) (hl : ds.length ≤ 1000 := by first | decide | simp) : wE X (.Tuple es k pos) σ H Q :=
  eTup <| h.mono fun vs H1 ⟨l, a, q⟩ => ⟨Nat.le_of_lt (small1000 (by rw [a.len]; exact hl)), fun t ht => q _ _ (same_new ht) (Is.newT l ht a)⟩
theorem eLstD (R : Rp) (S : Reg) (ds : List D) (h : wA X es σ H fun xs H1 => Live S H1 ∧ IsA R S H1 xs ds ∧ ∀ v H2, Same H1 H2 → Is R S H2 v (.lst ds) → Q v H2) (hl : ds.length ≤ 1000 := by first | decide | simp) : wE X (.List es pos) σ H Q :=
  eLst <| h.mono fun vs H1 ⟨l, a, q⟩ => ⟨Nat.le_of_lt (small1000 (by rw [a.len]; exact hl)), fun t ht => q _ _ (same_new ht) (Is.newL l ht a)⟩
end
def SrcAt (H : Hp) (s : Addr) : Prop := ∃ (a : Int) (b : Fin 4294967296) (c : Int), H s = some (.lst [.int a, .int (b.val : Nat), .int c])
abbrev Src (s : Addr) : Reg := fun a => a = s
structure Dr (s : Addr) (H H' : Hp) : Prop where
  kp : Kp (Src s) H H'
  src : SrcAt H' s
section
variable {s : Addr} {H H' H2 : Hp} {R : Rp}
theorem Dr.refl (h : SrcAt H s) : Dr s H H := ⟨Kp.refl _ _, h⟩
theorem Dr.trans (a : Dr s H H') (b : Dr s H' H2) : Dr s H H2 := ⟨a.kp.trans b.kp, b.src⟩
theorem SrcAt.up (h : SrcAt H s) (k : Same H H') : SrcAt H' s := by
  obtain ⟨a, b, c, e⟩ := h
  exact ⟨a, b, c, k _ _ e⟩
theorem SrcAt.live (h : SrcAt H s) : Live (Src s) H := fun a e z => by
  obtain ⟨_, _, _, q⟩ := h
  rw [show a = s from e] at z
  rw [z] at q
  cases q
theorem Dr.same (h : SrcAt H s) (k : Same H H') : Dr s H H' := ⟨Kp.of k, h.up k⟩
theorem Dr.then (a : Dr s H H') (k : Same H' H2) : Dr s H H2 := a.trans (Dr.same a.src k)
theorem Dr.live (a : Dr s H H') : Live (Src s) H' := a.src.live
theorem Is.dr {v : V} {d : D} (h : Is R (Src s) H v d) (k : Dr s H H') : Is R (Src s) H' v d := h.go k.kp
theorem IsA.dr {v : List V} {d : List D} (h : IsA R (Src s) H v d) (k : Dr s H H') : IsA R (Src s) H' v d := h.go k.kp
theorem Dr.upd (h : SrcAt H s) (a : Int) (b : Fin 4294967296) (c : Int) : Dr s H (upd H s (.lst [.int a, .int (b.val : Nat), .int c])) := ⟨fun x o n e => by rw [upd_ne n]; exact e, a, b, c, upd_same⟩
end
def spSource : Sp := fun vs H Q _ => ∃ n : Int, vs = [.int n] ∧ ∀ s H', Same H H' → H s = none → SrcAt H' s → Q (.ref s) H'
def spDraw : Sp := fun vs H Q _ => ∃ s n, vs = [.ref s, .int n] ∧ SrcAt H s ∧ 0 < n ∧ n.natAbs.log2 < 9000 ∧ ∀ r H', Dr s H H' → 0 ≤ r → r < n → Q (.int r) H'
def spPick (R : Rp) : Sp := fun vs H Q _ => ∃ (s : Addr) (l : V) (ds : List D), vs = [.ref s, l] ∧ SrcAt H s ∧ Is R (Src s) H l (.lst ds) ∧ 0 < ds.length ∧ ds.length ≤ 1000 ∧ ∀ (i : Nat) (d : D) x H', Dr s H H' → ds[i]? = some d → Is R (Src s) H' x d → Q x H'
/-- one of some ints -/
theorem pickI {R : Rp} {s : Addr} {l : V} {is : List Int} {H : Hp} {Q : VK} {E : XK} (h : SrcAt H s) (k : Is R (Src s) H l (.lst (is.map D.int))) (h0 : 0 < is.length) (h1 : is.length ≤ 1000) (q : ∀ j H', Dr s H H' → j ∈ is → Q (.int j) H') : spPick R [.ref s, l] H Q E := by
  refine ⟨s, l, _, rfl, h, k, by rw [List.length_map]; exact h0, by rw [List.length_map]; exact h1, fun i d x H' dr e ix => ?_⟩
  rw [List.getElem?_map] at e
  cases z : is[i]? with
  | none => rw [z] at e; cases e
  | some j =>
    rw [z] at e
    cases e
    cases ix
    exact q j H' dr (List.mem_of_getElem? z)
end BR
namespace BR
open PySem PySem.Spec PyProof.Rows L2
section
variable {R : Rp} {S T : Reg} {H H' : Hp}
mutual
theorem Is.reg (k : ∀ a, S a → T a) : ∀ {v : V} {d : D}, Is R T H v d → Is R S H v d
  | _, _, .non => .non
  | _, _, .bl b => .bl b
  | _, _, .int i => .int i
  | _, _, .str x => .str x
  | _, _, .tup n e h => .tup (fun z => n (k _ z)) e (IsA.reg k h)
  | _, _, .tupK e h => .tupK e (IsA.reg k h)
  | _, _, .lst n e h => .lst (fun z => n (k _ z)) e (IsA.reg k h)
  | _, _, .obj n e h => .obj (fun z => n (k _ z)) e (IsF.reg k h)
theorem IsA.reg (k : ∀ a, S a → T a) : ∀ {v : List V} {d : List D}, IsA R T H v d → IsA R S H v d
  | _, _, .nil => .nil
  | _, _, .cons a b => .cons (Is.reg k a) (IsA.reg k b)
theorem IsF.reg (k : ∀ a, S a → T a) : ∀ {v : List (Str × V)} {d : List (Str × D)}, IsF R T H v d → IsF R S H v d
  | _, _, .nil => .nil
  | _, _, .cons a b => .cons (Is.reg k a) (IsF.reg k b)
end
mutual
/-- a new region's objects were not there -/
theorem Is.regN (k : ∀ a, T a → S a ∨ H a = none) : ∀ {v : V} {d : D}, Is R S H v d → Is R T H v d
  | _, _, .non => .non
  | _, _, .bl b => .bl b
  | _, _, .int i => .int i
  | _, _, .str x => .str x
  | _, _, .tup n e h => .tup (fun z => (k _ z).elim n (fun y => by rw [y] at e; cases e)) e (IsA.regN k h)
  | _, _, .tupK e h => .tupK e (IsA.regN k h)
  | _, _, .lst n e h => .lst (fun z => (k _ z).elim n (fun y => by rw [y] at e; cases e)) e (IsA.regN k h)
  | _, _, .obj n e h => .obj (fun z => (k _ z).elim n (fun y => by rw [y] at e; cases e)) e (IsF.regN k h)
theorem IsA.regN (k : ∀ a, T a → S a ∨ H a = none) : ∀ {v : List V} {d : List D}, IsA R S H v d → IsA R T H v d
  | _, _, .nil => .nil
  | _, _, .cons a b => .cons (Is.regN k a) (IsA.regN k b)
theorem IsF.regN (k : ∀ a, T a → S a ∨ H a = none) : ∀ {v : List (Str × V)} {d : List (Str × D)}, IsF R S H v d → IsF R T H v d
  | _, _, .nil => .nil
  | _, _, .cons a b => .cons (Is.regN k a) (IsF.regN k b)
end
/-- list(xs), tuple(xs) -/
def rListO (K : PySem.W.Frag) : List V → Hp → VK → Prop := fun xs H Q => ∃ p ys, xs = [.ref p] ∧ (SqL K H p ys ∨ SqT K H p ys) ∧ ∀ l, H l = none → Q (.ref l) (upd H l (.lst ys))
theorem listOf {d : D} {ds : List D} {v : V} {Q : VK} (h : Is R S H v d) (hi : d.items = some ds) (l : Live S H) (q : ∀ v' H', Same H H' → Is R S H' v' (.lst ds) → Q v' H') : rListO R.K [v] H Q := by
  cases d with
  | tup x =>
    cases hi
    obtain ⟨a, xs, rfl, hs, ha⟩ := h.tupE
    exact ⟨a, xs, rfl, .inr hs, fun p hp => q _ _ (same_new hp) (Is.newL l hp ha)⟩
  | lst x =>
    cases hi
    obtain ⟨a, xs, rfl, _, hs, ha⟩ := h.lstE
    exact ⟨a, xs, rfl, .inl (SqL.of hs), fun p hp => q _ _ (same_new hp) (Is.newL l hp ha)⟩
  | _ => cases hi
def rTupO (K : PySem.W.Frag) : List V → Hp → VK → Prop := fun xs H Q => ∃ p ys, xs = [.ref p] ∧ ((SqL K H p ys ∧ ∀ l, H l = none → Q (.ref l) (upd H l (.tup ys))) ∨ (SqT K H p ys ∧ Q (.ref p) H))
theorem tupOf {d : D} {ds : List D} {v : V} {Q : VK} (h : Is R S H v d) (hi : d.items = some ds) (l : Live S H) (q : ∀ v' H', Same H H' → Is R S H' v' (.tup ds) → Q v' H') : rTupO R.K [v] H Q := by
  cases d with
  | tup x =>
    cases hi
    obtain ⟨a, xs, e, hs, ha⟩ := id h.tupE
    subst e
    exact ⟨a, xs, rfl, .inr ⟨hs, q _ _ (Same.refl _) h⟩⟩
  | lst x =>
    cases hi
    obtain ⟨a, xs, rfl, _, hs, ha⟩ := h.lstE
    exact ⟨a, xs, rfl, .inl ⟨SqL.of hs, fun p hp => q _ _ (same_new hp) (Is.newT l hp ha)⟩⟩
  | _ => cases hi
end
section
variable {X : Cx} {σ : L2.St} {H : Hp}
/-- what grows: an order that keeps all outside T, and the object at L -/
structure Grow (Gr : Hp → Hp → Prop) (T : Reg) (L : Addr) : Prop where
  refl : ∀ H, Gr H H
  trans : ∀ {H H' H2}, Gr H H' → Gr H' H2 → Gr H H2
  kp : ∀ {H H'}, Gr H H' → Kp T H H'
  at_ : ∀ {H H' o}, Gr H H' → H L = some o → H' L = some o
theorem grow_same (T : Reg) (L : Addr) : Grow Same T L := ⟨Same.refl, fun a b => a.trans b, Kp.of, fun a e => a _ _ e⟩
end
end BR
namespace BR
open PySem PySem.Spec PyProof.Rows L2
/-! ### a comprehension over what is known -/
/-- what a comprehension's list, being filled, leaves of the heap before it -/
structure Fills (Fin : Hp → Prop) (Gr : Hp → Hp → Prop) (T : Reg) (L : Addr) (H1 : Hp) : Prop where
  start : Fin (upd H1 L (.lst []))
  grow : ∀ {H H'}, Fin H → Gr H H' → Fin H'
  app : ∀ {H xs}, Fin H → Fin (upd H L (.lst xs))
  kp : ∀ {H H'}, Fin H → Gr H H' → Kp T H H'
  at_ : ∀ {H H' o}, Fin H → Gr H H' → H L = some o → H' L = some o
  inT : T L
section
variable {X : Cx} {σ : L2.St} {R : Rp} {T : Reg} {Fin : Hp → Prop} {Gr : Hp → Hp → Prop} {L : Addr} {H1 : Hp} {J : It} {n : Nat} {G : Hp → Prop} {Y : Nat → Hp → V → Hp → Prop} {sc : Scope} {elt tg : Expr} {own : List (Str × Nat)} {Q : Hp → Prop}
theorem lcG (wk : Walk J n G Y) (es : List D) (hn : es.length = n) (h9 : n ≤ 1000) (F : Fills Fin Gr T L H1) (hG : ∀ H, Fin H → G H)
    (st : ∀ i e x H H', es[i]? = some e → Fin H → Y i H x H' → (H' L ≠ none → kG X sc tg x (wipe σ (own.map (·.2))) H' fun σ2 H2 => wipe σ2 (own.map (·.2)) = wipe σ (own.map (·.2)) ∧ H2 = H' ∧ kE X sc elt σ2 H2 fun y H4 => Gr H' H4 ∧ Is R T H4 y e) ∧ Gr H H')
    (hd : ∀ H xs, Fin H → H L = some (.lst xs) → IsA R T H xs es → Q H) :
    ∃ n G Y, Walk J n G Y ∧ ∃ Pv : Nat → Hp → Prop, Pv 0 (upd H1 L (.lst [])) ∧ (∀ i H, i ≤ n → Pv i H → G H) ∧
      (∀ i x H H', i < n → Pv i H → Y i H x H' → kG X sc tg x (wipe σ (own.map (·.2))) H' fun σ2 H2 => wipe σ2 (own.map (·.2)) = wipe σ (own.map (·.2)) ∧
        kT X sc [] σ2 H2 fun k H3 => if k = true then kE X sc elt σ2 H3 fun y H4 => ∃ acc, H4 L = some (.lst acc) ∧ acc.length < sizeLine ∧ Pv (i + 1) (upd H4 L (.lst (acc ++ [y]))) else Pv (i + 1) H3) ∧
      ∀ H, Pv n H → Q H := by
  refine ⟨n, G, Y, wk, fun i H => Fin H ∧ ∃ acc, H L = some (.lst acc) ∧ IsA R T H acc (es.take i), ⟨F.start, [], upd_same, .nil⟩, fun i H _ p => hG H p.1, ?_, ?_⟩
  · rintro i x H H' hi ⟨hF, acc, hL, ia⟩ y
    have he : es[i]? = some es[i] := List.getElem?_eq_getElem (by omega)
    obtain ⟨go, gr⟩ := st i _ x H H' he hF y
    have hF' := F.grow hF gr
    have hL' := F.at_ hF gr hL
    have g := go (by rw [hL']; exact fun z => by cases z)
    intro s0 H0 C cl fp
    refine ⟨fun pins s u I r => thn ((g s0 H0 C cl fp).r pins s u I r) fun _ s' ⟨σ', H2, I', e1, e2, k⟩ => ⟨σ', H2, I', e1, ?_⟩⟩
    subst e2
    refine kTnil (iteT ?_)
    intro s0 H0 C cl fp
    refine (k s0 H0 C cl fp).mono fun v H4 ⟨gr4, iv⟩ => ⟨acc, F.at_ hF' gr4 hL', ?_, F.app (F.grow hF' gr4), acc ++ [v], upd_same, ?_⟩
    · rw [ia.len, List.length_take]
      exact small1000 (by omega)
    · have kp := (F.kp hF gr).trans (F.kp hF' gr4)
      have kl : Kp T H4 (upd H4 L (.lst (acc ++ [v]))) := fun a o n e => by
        rw [upd_ne (fun z => n (by rw [z]; exact F.inT))]
        exact e
      have et : es.take (i + 1) = es.take i ++ [es[i]] := by rw [List.take_append_getElem]
      rw [et]
      exact ((ia.go kp).go kl).app (.cons (iv.go kl) .nil)
  · rintro H ⟨hF, acc, hL, ia⟩
    rw [List.take_of_length_le (by omega)] at ia
    exact hd H acc hF hL ia
end
/-- where nothing but new objects comes -/
theorem fills_same {H1 : Hp} {L : Addr} {S : Reg} (hL : H1 L = none) : Fills (fun H => Same H1 H) Same (fun a => S a ∨ a = L) L H1 where
  start := same_new hL
  grow := fun a b => a.trans b
  app := fun a b o e => by rw [upd_ne (ne_of_none e hL)]; exact a _ _ e
  kp := fun _ b => Kp.of b
  at_ := fun _ b e => b _ _ e
  inT := .inr rfl
theorem live_or {S : Reg} {H : Hp} {L : Addr} (l : Live S H) (h : H L ≠ none) : Live (fun a => S a ∨ a = L) H := fun a z => z.elim (l a) (fun e => by rw [e]; exact h)
/-- the filled list itself -/
theorem Is.filled {R : Rp} {S : Reg} {H1 H : Hp} {L : Addr} {xs : List V} {es : List D} (l : Live S H1) (hL : H1 L = none) (e : H L = some (.lst xs)) (a : IsA R (fun a => S a ∨ a = L) H xs es) : Is R S H (.ref L) (.lst es) := .lst (l.new hL) e (a.reg fun _ z => .inl z)
end BR
namespace BR
open PySem PySem.Spec PyProof.Rows L2
/-- xs + ys where the lists are only read (the script) -/
def rCatR (K : PySem.W.Frag) : R2 := fun x y H Q => ∃ l b xs zs, x = .ref l ∧ y = .ref b ∧ SqL K H l xs ∧ SqL K H b zs ∧ xs.length + zs.length ≤ sizeLine ∧ ∀ p, H p = none → Q (.ref p) (upd H p (.lst (xs ++ zs)))
theorem op_catR {X : Cx} : OpR X (binaryOp .Add) (rCatR X.K) := by
  intro pins s σ H x y v u Q I rx ry h
  obtain ⟨l, b, xs, zs, rfl, rfl, hl, hb, hz, q⟩ := h
  cases rx
  cases ry
  obtain ⟨is, r1, ⟨⟨c1, d1, t1, e1⟩, n1, o1, k1, _, m1⟩, _⟩ := I.list hl
  obtain ⟨js, r2, ⟨⟨c2, d2, t2, e2⟩, n2, o2, k2, _, m2⟩, _⟩ := I.list hb
  simp only at k1 m1 k2 m2
  subst k1 m1 k2 m2
  have l1 := r1.length
  have l2 := r2.length
  have e : is.toArray ++ js.toArray = (is ++ js).toArray := by simp
  refine concat_meets ⟨_, o1, rfl⟩ ⟨_, o2, rfl⟩ noFill_list_add seq_list_add PySem.F.slot_list_add PySem.F.entry_list_add (PySem.F.args_list_add_2 _ _) (list_addW l b is.toArray js.toArray n1 n2 d1 d2 e1 e2 (by simp; omega)) ⟨o1, o2, ?_⟩
  rw [e]
  exact ⟨.ref _, _, I.lnew (t' := s.toks) (r1.append r2) (by rw [List.length_append]; omega), rfl, q _ I.fresh⟩
theorem cut_take (xs : List V) (n : Nat) : cutV xs none (some (n : Int)) = xs.take n := by
  unfold cutV
  rw [HT.sIx_none, HT.sIx_nat, List.drop_zero, Nat.sub_zero]
  by_cases h : n ≤ xs.length
  · rw [Nat.min_eq_left h]
  · rw [Nat.min_eq_right (by omega), List.take_of_length_le (Nat.le_refl _), List.take_of_length_le (by omega)]
end BR
namespace BR
open PySem PySem.Spec PyProof.Rows L2
theorem call_listO {X : Cx} : CallR X (.type "list") (rListO X.K) := call_list_of
theorem call_tupO {X : Cx} : CallR X (.type "tuple") (rTupO X.K) := call_tuple_of
def rLenO (K : PySem.W.Frag) : List V → Hp → VK → Prop := fun xs H Q => ∃ p ys, xs = [.ref p] ∧ (SqL K H p ys ∨ SqT K H p ys) ∧ Q (.int ys.length) H
theorem call_lenO {X : Cx} : CallR X (.builtin "len") (rLenO X.K) := call_len_seq
theorem lenOf {R : Rp} {S : Reg} {H : Hp} {v : V} {d : D} {ds : List D} {Q : VK} (h : Is R S H v d) (hi : d.items = some ds) (q : Q (.int (ds.length : Int)) H) : rLenO R.K [v] H Q := by
  cases d with
  | tup x =>
    cases hi
    obtain ⟨a, xs, rfl, hs, ha⟩ := h.tupE
    exact ⟨a, xs, rfl, .inr hs, by rw [ha.len]; exact q⟩
  | lst x =>
    cases hi
    obtain ⟨a, xs, rfl, _, hs, ha⟩ := h.lstE
    exact ⟨a, xs, rfl, .inl (SqL.of hs), by rw [ha.len]; exact q⟩
  | _ => cases hi
end BR

namespace BR
open PySem PySem.Spec PyProof.Rows L2

theorem log2_small {i : Int} {n : Nat} (h : i.natAbs < 2 ^ n) (h0 : 0 < i.natAbs) : i.natAbs.log2 < n := (Nat.log2_lt (by omega)).mpr h
def spGcd : Sp := fun vs H Q _ => ∃ a b : Int, vs = [.int a, .int b] ∧ 0 < b ∧ Q (.int (Int.gcd a b : Int)) H
/-- a fraction as it is passed: a list or a tuple -/
def IsP (R : Rp) (S : Reg) (H : Hp) (v : V) (p q : Int) : Prop := Is R S H v (.tup [.int p, .int q]) ∨ Is R S H v (.lst [.int p, .int q])
theorem IsP.up {R : Rp} {S : Reg} {H H' : Hp} {v : V} {p q : Int} (h : IsP R S H v p q) (s : Same H H') : IsP R S H' v p q := by
  rcases h with h | h
  · exact .inl (h.up s)
  · exact .inr (h.up s)
theorem ixP {R : Rp} {S : Reg} {H : Hp} {v : V} {p q : Int} {Q : VK} {j : Int} {i : Nat} (h : IsP R S H v p q) (e : [p, q][i]? = some j) (k : Q (.int j) H) : rIx R.K v (.int (i : Nat)) H Q := by
  have ix : ([D.int p, D.int q] : List D)[i]? = some (.int j) := by
    have : ([D.int p, D.int q] : List D) = [p, q].map D.int := rfl
    rw [this, List.getElem?_map, e]
    rfl
  rcases h with h | h
  · exact ixD h rfl ix fun x hx => by cases hx; exact k
  · exact ixD h rfl ix fun x hx => by cases hx; exact k
theorem gP {R : Rp} {S : Reg} {X : Cx} {H : Hp} {σ : L2.St} {v : V} {p q : Int} {a b : Expr} {k : Nat} {pos : Pos} {Q : L2.St → Hp → Prop} (h : IsP R S H v p q) (g : wGs X [a, b] [.int p, .int q] σ H Q) (hK : X.K = R.K := by rfl) (hc : X.calm = true := by rfl)
    (hl : 2 = (assignEach [a, b] X.env).length := by rfl) (hst : (assignEach [a, b] X.env).findIdx? (·.1) = none := by rfl) : wG X (.Tuple [a, b] k pos) v σ H Q := by
  rcases h with h | h
  · obtain ⟨z, xs, rfl, hs, ha⟩ := h.tupE
    have e : xs = [V.int p, V.int q] := IsA.of_ints (is := [p, q]) ha
    subst e
    exact gT rfl (by rw [hK]; exact hs) g hl hc hst
  · obtain ⟨z, xs, rfl, _, hs, ha⟩ := h.lstE
    have e : xs = [V.int p, V.int q] := IsA.of_ints (is := [p, q]) ha
    subst e
    exact gL rfl (SqL.of hs) g hl hc hst
def spLow (R : Rp) : Sp := fun vs H Q _ => ∃ S v p q n, vs = [v] ∧ Live S H ∧ IsP R S H v p q ∧ 0 < q ∧ p.natAbs < 2 ^ n ∧ q.natAbs < 2 ^ n ∧ n ≤ 9000 ∧
  ∀ v' H', Same H H' → Is R S H' v' (frac (mkQ p q)) → Sz n (mkQ p q) → Q v' H'
def spErr2 (f g : Str) (C : Addr) : Sp := fun vs H Q _ => ∃ a v w, vs = [.ref a, v, w] ∧ H a = some (exo a C none) ∧ ∀ dx, H dx = none → dx ≠ a → Q .non (upd (upd (upd H dx (exd dx [(f, v)])) a (exo a C (some dx))) dx (exd dx [(g, w), (f, v)]))
/-- an error of the class at C has come, with its two fields -/
def Gone (f g : Str) (C : Addr) (H : Hp) (v w : V) (E : XK) : Prop := ∀ d H', Same H H' → H d = none → H' d = some (.xd [(g, w), (f, v)]) → E (.ref C) (some d) H'
def dueF (p q : Int) : Option (Str × Int) := if q < 1 then some ("bottom", q) else if ¬ (-1000000 ≤ p ∧ p ≤ 1000000) then some ("number", p) else if ¬ (-1000000 ≤ q ∧ q ≤ 1000000) then some ("number", q) else none
def spChk (R : Rp) (C : Addr) : Sp := fun vs H Q E => ∃ S v p q, vs = [v] ∧ Live S H ∧ IsP R S H v p q ∧ (∀ t n, dueF p q = some (t, n) → Gone "what" "count" C H (.str t) (.int n) E) ∧ (dueF p q = none → ∀ H', Same H H' → Q .non H')

def gateD (m b : Rat) : D := .obj "Gate" [("factor", frac m), ("amount", frac b)]
def dueG (p q a b : Int) : Option (Str × Int) := (dueF p q).or ((dueF a b).or (if p < 1 then some ("factor", p) else none))
def spGate (R : Rp) (CE : Addr) : Sp := fun vs H Q E => ∃ S H0 n dx x y p q a b, vs = [.ref n, x, y] ∧ Same H0 H ∧ H0 n = none ∧ H n = some (.ins (R.CA "Gate") dx []) ∧ Live S H0 ∧ IsP R S H0 x p q ∧ IsP R S H0 y a b ∧
  (∀ t k, dueG p q a b = some (t, k) → Gone "what" "count" CE H0 (.str t) (.int k) E) ∧
  (dueG p q a b = none → ∀ H', Same H0 H' → Is R S H' (.ref n) (gateD (mkQ p q) (mkQ a b)) → Sz 20 (mkQ p q) → Sz 20 (mkQ a b) → 0 < mkQ p q → Q .non H')
theorem dueF_none {p q : Int} (h : dueF p q = none) : 1 ≤ q ∧ -1000000 ≤ p ∧ p ≤ 1000000 ∧ q ≤ 1000000 := by
  unfold dueF at h
  split at h
  · cases h
  · split at h
    · cases h
    · split at h
      · cases h
      · omega
theorem mkQ_pos {p q : Int} (h : 0 < p) (k : 0 < q) : 0 < mkQ p q := by
  rw [Rat.lt_iff, mkQ_num k]
  have g := gcd_pos (p := p) k
  have d : (Int.gcd p q : Int) ∣ p := Int.gcd_dvd_left p q
  have : 0 < p / (Int.gcd p q : Int) := Int.ediv_pos_of_pos_of_dvd h (by omega) d
  simpa using this
theorem Gone.same {f g : Str} {C : Addr} {H H' : Hp} {v w : V} {E : XK} (h : Gone f g C H v w E) (s : Same H H') : Gone f g C H' v w E := fun d H2 s2 hd he => h d H2 (s.trans s2) (s.free hd) he
def spFra (R : Rp) : Sp := fun vs H Q _ => ∃ s h, vs = [.ref s, .int h] ∧ SrcAt H s ∧ 2 ≤ h ∧ h ≤ 2 ^ 200 ∧ ∀ t b v H', Dr s H H' → Is R (Src s) H' v (.tup [.int t, .int b]) → -h ≤ t → t ≤ h → 1 ≤ b → b ≤ h → Q v H'
def spGt (R : Rp) : Sp := fun vs H Q _ => ∃ s h, vs = [.ref s, .int h] ∧ SrcAt H s ∧ 3 ≤ h ∧ h ≤ 2 ^ 200 ∧ ∀ p q a b v H', Dr s H H' → Is R (Src s) H' v (.tup [.tup [.int p, .int q], .tup [.int a, .int b]]) →
  1 ≤ p → p ≤ h → 1 ≤ q → q ≤ h → -h ≤ a → a ≤ h → 1 ≤ b → b ≤ h → Q v H'
theorem log_of {n : Int} (h0 : 0 < n) (h : n ≤ 2 ^ 210) : n.natAbs.log2 < 9000 := by
  have e : n.natAbs ≤ 2 ^ 210 := by
    have : ((2 ^ 210 : Nat) : Int) = (2 : Int) ^ 210 := by rw [Int.natCast_pow]; rfl
    omega
  exact (Nat.log2_lt (by omega)).mpr (Nat.lt_of_le_of_lt e (Nat.pow_lt_pow_right (a := 2) (by decide) (show 210 < 9000 by decide)))
section
/-- what is left of the heap when the error has been made -/
theorem gone_of {H : Hp} {C a d : Addr} {f g : Str} {v u : V} (ha : H a = none) (hd : upd H a (exo a C none) d = none) (hne : d ≠ a) :
    let H2 := upd (upd (upd (upd H a (exo a C none)) d (exd d [(f, v)])) a (exo a C (some d))) d (exd d [(g, u), (f, v)])
    H2 a = some (exo a C (some d)) ∧ H2 d = some (exd d [(g, u), (f, v)]) ∧ H d = none ∧ Same H (upd (del H2 a) d (.xd [(g, u), (f, v)])) := by
  rw [upd_ne hne] at hd
  refine ⟨by rw [upd_ne hne.symm, upd_same], upd_same, hd, fun b o e => ?_⟩
  have n1 := ne_of_none e ha
  have n2 := ne_of_none e hd
  rw [upd_ne n2, del_ne n1, upd_ne n2, upd_ne n1, upd_ne n2, upd_ne n1]
  exact e
/-- raise C(f, g) where the error's wish is known -/
theorem raise2 {X : Cx} {σ : L2.St} {H : Hp} {x : Str} {C : Addr} {f g : Str} {ps : List Str} {j : Nat} {W : WX} {D : Ends} {e1 e2 : Expr} {p pos p2 : Pos} (G : ErrG X.prog X.w X.K X.mg X.base 1 x C ps (spErr2 f g C)) (hr : Room j X.A) (tk : Takes X W)
    (h : wA X [e1, e2] σ H fun vs H1 => ∃ v u, vs = [v, u] ∧ Gone f g C H1 v u (fun c d H' => W c d σ H')) (hk : 2 ≤ j := by decide)
    (hg : Gl X x := by rfl) (hdb : (x == ("__debug__" : Str)) = false := by decide) (he : starEach (e1 :: [e2]) X.env = (false, eval e1 X.env) :: starEach [e2] X.env := by rfl) (hpl : (backTo pos (starEach [e2] X.env)).any (·.1) = false := by rfl) (hc : X.calm = true := by rfl) :
    wS X (.Raise (some (.Call (.Name x p) [e1, e2] [] pos)) none p2) D σ H :=
  sRaiseI G hr tk (h.mono fun vs H1 ⟨v, u, ev, q⟩ => ⟨by rw [ev]; show 2 ≤ 1000; decide, fun a ha => ⟨a, v, u, by rw [ev], upd_same, fun dx hd hne => by
    obtain ⟨z1, z2, z3, z4⟩ := gone_of (f := f) (g := g) (v := v) (u := u) ha hd hne
    exact ⟨rfl, dx, _, z1, z2, z3, q dx _ z4 z3 upd_same⟩⟩⟩) hk hg hdb he hpl hc
end
/-! ### a fraction by its value and its size -/
/-- v is a fraction, a list or a tuple, of the value r; its numbers lie below 2 ^ n -/
structure Fr (R : Rp) (S : Reg) (H : Hp) (v : V) (n : Nat) (r : Rat) : Prop where
  ex : ∃ a b : Int, IsP R S H v a b ∧ 0 < b ∧ a.natAbs < 2 ^ n ∧ b.natAbs < 2 ^ n ∧ mkQ a b = r ∧ 0 < n
theorem Fr.up {R : Rp} {S : Reg} {H H' : Hp} {v : V} {n : Nat} {r : Rat} (h : Fr R S H v n r) (s : Same H H') : Fr R S H' v n r := by
  obtain ⟨a, b, p, q⟩ := h.ex
  exact ⟨a, b, p.up s, q⟩
theorem IsP.go {R : Rp} {S : Reg} {H H' : Hp} {v : V} {p q : Int} (h : IsP R S H v p q) (s : Kp S H H') : IsP R S H' v p q := by
  rcases h with h | h
  · exact .inl (h.go s)
  · exact .inr (h.go s)
theorem Fr.go {R : Rp} {S : Reg} {H H' : Hp} {v : V} {n : Nat} {r : Rat} (h : Fr R S H v n r) (s : Kp S H H') : Fr R S H' v n r := by
  obtain ⟨a, b, p, q⟩ := h.ex
  exact ⟨a, b, p.go s, q⟩
theorem Fr.of {R : Rp} {S : Reg} {H : Hp} {v : V} {n : Nat} {r : Rat} (h : Is R S H v (frac r)) (z : Sz n r) (h0 : 0 < n := by omega) : Fr R S H v n r := by
  refine ⟨_, _, .inl h, den_pos r, z.num, ?_, mkQ_self r, h0⟩
  have := z.den
  omega
theorem Fr.ofP {R : Rp} {S : Reg} {H : Hp} {v : V} {n : Nat} {a b : Int} (h : IsP R S H v a b) (hb : 0 < b) (p : a.natAbs < 2 ^ n) (q : b.natAbs < 2 ^ n) (h0 : 0 < n := by omega) : Fr R S H v n (mkQ a b) := ⟨a, b, h, hb, p, q, rfl, h0⟩
def spFr1 (R : Rp) (f : Rat → Rat) (g : Nat → Nat) : Sp := fun vs H Q _ => ∃ S v n r, vs = [v] ∧ Live S H ∧ Fr R S H v n r ∧ n ≤ 9000 ∧ ∀ v' H', Same H H' → Is R S H' v' (frac (f r)) → Sz (g n) (f r) → Q v' H'
/-- a def of two fractions -/
def spFr2 (R : Rp) (C : Rat → Rat → Prop) (f : Rat → Rat → Rat) (g : Nat → Nat → Nat) : Sp := fun vs H Q _ => ∃ S v u n m r t, vs = [v, u] ∧ Live S H ∧ Fr R S H v n r ∧ Fr R S H u m t ∧ g n m ≤ 8999 ∧ C r t ∧ ∀ v' H', Same H H' → Is R S H' v' (frac (f r t)) → Sz (g n m) (f r t) → Q v' H'
abbrev C0 : Rat → Rat → Prop := fun _ _ => True
abbrev gS : Nat → Nat → Nat := fun n m => n + m
abbrev gS1 : Nat → Nat → Nat := fun n m => n + m + 1
def spPlus (R : Rp) : Sp := spFr2 R C0 (fun r t => r + t) gS1
def spMinus (R : Rp) : Sp := spFr2 R C0 (fun r t => r - t) gS1
def spTimes (R : Rp) : Sp := spFr2 R C0 (fun r t => r * t) gS
def spOver (R : Rp) : Sp := spFr2 R (fun _ t => t ≠ 0) (fun r t => r / t) gS
/-- two ints into a fraction -/
def spLow2 (R : Rp) : Sp := fun vs H Q _ => ∃ S a b n, vs = [.int a, .int b] ∧ Live S H ∧ 0 < b ∧ a.natAbs < 2 ^ n ∧ b.natAbs < 2 ^ n ∧ n ≤ 9000 ∧ ∀ v' H', Same H H' → Is R S H' v' (frac (mkQ a b)) → Sz n (mkQ a b) → Q v' H'
theorem big_ok {n : Nat} (h : n ≤ 8999) : n ≤ 1000000 := by omega
theorem mulW {i j : Int} {a b : Nat} (ha : i.natAbs < 2 ^ a) (hb : j.natAbs < 2 ^ b) (h0 : 0 < a) (h1 : 0 < b) (h : a + b ≤ 9000) : CMulW i j := wide_mul ha hb h0 h1 (by omega)
theorem mkQ_div {a b c d : Int} (h : 0 < b) (k : 0 < d) (hc : 0 < c) : mkQ (a * d) (b * c) = mkQ a b / mkQ c d := by
  have e : mkQ a b / mkQ c d = mkQ a b * mkQ d c := by
    rw [Rat.div_def]
    congr 1
    unfold mkQ
    rw [Rat.inv_divInt]
  rw [e, ← mkQ_mul]
theorem mkQ_div2 {a b c d : Int} (h : 0 < b) (k : 0 < d) (hc : c < 0) : mkQ (-(a * d)) (-(b * c)) = mkQ a b / mkQ c d := by
  have e : mkQ a b / mkQ c d = mkQ a b * mkQ d c := by
    rw [Rat.div_def]
    congr 1
    unfold mkQ
    rw [Rat.inv_divInt]
  rw [e, ← mkQ_mul]
  unfold mkQ
  rw [Rat.neg_divInt_neg]
theorem mkQ_zero {a b : Int} (h : 0 < b) : mkQ a b = 0 ↔ a = 0 := by
  have e : (0 : Rat) = mkQ 0 1 := by decide +kernel
  rw [e, mkQ_inj h (by decide)]
  omega
theorem okEq_nofrac {d : D} (r : Rat) : (frac r).okEq = true := okEq_frac r
/-! ### gates and lines as objects -/
def faD (c : Str) (m b : Rat) : D := .obj c [("factor", frac m), ("amount", frac b)]
theorem gateD_fa (m b : Rat) : gateD m b = faD "Gate" m b := rfl
/-- the fields of the class are plain -/
structure FAok (R : Rp) (c : Str) : Prop where
  cl : Cls R.K (R.CA c)
  n1 : NoAttr R.K (R.CA c) "factor"
  n2 : NoAttr R.K (R.CA c) "amount"
theorem fldD {R : Rp} {S : Reg} {H : Hp} {x : V} {c : Str} {ds : List (Str × D)} {f : Str} {d : D} {Q : VK} (h : Is R S H x (.obj c ds)) (hc : Cls R.K (R.CA c)) (hn : NoAttr R.K (R.CA c) f) (hd : ds.lookup f = some d) (q : ∀ v, Is R S H v d → Q v H) :
    rFld R.K f x H Q := by
  cases h with
  | obj n e hf =>
    obtain ⟨v, l, i⟩ := hf.look hd
    exact ⟨_, _, _, _, v, rfl, e, hc, hn, l, q v i⟩
theorem fldF {R : Rp} {S : Reg} {H : Hp} {x : V} {c : Str} {m b : Rat} {Q : VK} (h : Is R S H x (faD c m b)) (hc : FAok R c) (q : ∀ v, Is R S H v (frac m) → Q v H) :
    rFld R.K "factor" x H Q := fldD h hc.cl hc.n1 lk0 q
theorem fldM {R : Rp} {S : Reg} {H : Hp} {x : V} {c : Str} {m b : Rat} {Q : VK} (h : Is R S H x (faD c m b)) (hc : FAok R c) (q : ∀ v, Is R S H v (frac b) → Q v H) :
    rFld R.K "amount" x H Q := fldD (f := ("amount" : Str)) h hc.cl hc.n2 ((lk1 (g := ("factor" : Str)) (f := ("amount" : Str)) (by decide +kernel)).trans lk0) q
def spLine (R : Rp) : Sp := fun vs H Q _ => ∃ S H0 n dx x y i j r t, vs = [.ref n, x, y] ∧ Same H0 H ∧ H0 n = none ∧ H n = some (.ins (R.CA "Line") dx []) ∧ Live S H0 ∧ Fr R S H0 x i r ∧ Fr R S H0 y j t ∧ i ≤ 9000 ∧ j ≤ 9000 ∧
  ∀ H', Same H0 H' → Is R S H' (.ref n) (faD "Line" r t) → Sz i r → Sz j t → Q .non H'
def spCarry (R : Rp) : Sp := fun vs H Q _ => ∃ S c v u n m k r b t, vs = [v, u] ∧ Live S H ∧ FAok R c ∧ Is R S H v (faD c r b) ∧ Sz n r ∧ Sz m b ∧ Fr R S H u k t ∧ 0 < n ∧ 0 < m ∧ n + k + m + 1 ≤ 8999 ∧
  ∀ v' H', Same H H' → Is R S H' v' (frac (r * t + b)) → Sz (n + k + m + 1) (r * t + b) → Q v' H'
/-- a constant pair of the top -/
structure ConQ (K : PySem.W.Frag) (mg : Str → Option Value) (x : Str) (a b : Int) : Prop where
  ex : ∃ p, mg x = some (.ref p) ∧ KTup K p [.int a, .int b]
theorem eCon {R : Rp} {X : Cx} {σ : L2.St} {H : Hp} {Q : VK} {x : Str} {pos : Pos} {a b : Int} (c : ConQ R.K X.mg x a b) (q : ∀ v, (∀ S H', Is R S H' v (.tup [.int a, .int b])) → Q v H) (hg : Gl X x := by rfl) (hd : (x == ("__debug__" : Str)) = false := by decide) : wE X (.Name x pos) σ H Q := by
  obtain ⟨p, hm, hk⟩ := c.ex
  exact eGl (v := .ref p) hm rfl (q _ fun S H' => .tupK hk (IsA.ints (is := [a, b]))) hg hd
theorem frac_one : frac 1 = .tup [.int 1, .int 1] := rfl
theorem frac_zero : frac 0 = .tup [.int 0, .int 1] := rfl
theorem sz_one : Sz 1 (1 : Rat) := ⟨by decide, by decide⟩
theorem sz_zero : Sz 1 (0 : Rat) := ⟨by decide, by decide⟩
theorem conq_mk {K : PySem.W.Frag} {h : Heap} {mg : Str → Option Value} {x : Str} {p : Addr} {dd : Option Addr} {a b : Int} {t u : Tok} {n : Nat} {sl : Array (Option Value)} (X : K.In h) (G : h.Ns mainGlobals mg) (g : PySem.W.nsIn K mainGlobals x = some (some (.ref p)))
    (l : K.lookup p = some ⟨.type "tuple", dd, .seq #[.int a t, .int b u] n, sl⟩) : ConQ K mg x a b :=
  ⟨p, PySem.W.mg_of X G g, _, _, _, l, rfl, rfl, (by show 2 ≤ sizeLine; decide), .cons ⟨_, rfl⟩ (.cons ⟨_, rfl⟩ .nil)⟩
/-- what stays -/
def restD (r b : Rat) : D := if r = 1 then (if b = 0 then .str "all" else .non) else frac (b / (1 - r))
def spRest (R : Rp) : Sp := fun vs H Q _ => ∃ S c v n m r b, vs = [v] ∧ Live S H ∧ FAok R c ∧ Is R S H v (faD c r b) ∧ Sz n r ∧ Sz m b ∧ 0 < n ∧ 0 < m ∧ m + (1 + n + 1) ≤ 8999 ∧
  ∀ v' H', Same H H' → Is R S H' v' (restD r b) → (r ≠ 1 → Sz (m + (1 + n + 1)) (b / (1 - r))) → Q v' H'
section
variable {X : Cx} {σ : L2.St} {H : Hp} {Q : VK} {R : Rp} {j : Nat} {W : WX} {e : Expr} {es : List Expr} {p1 pos : Pos} {CE : Addr}
theorem same_made {n d C : Addr} (hn : H n = none) (hd : H d = none) : Same H (upd (upd H d (.own n)) n (.ins C d [])) := fun b o e => by
  rw [upd_ne (ne_of_none e hn), upd_ne (ne_of_none e hd)]
  exact e
/-- Gate(..) of good numbers -/
theorem eGate (G : MakeG X.prog X.w X.K X.mg X.base 4 "Gate" (R.CA "Gate") ["self", "factor", "amount"] (spGate R CE)) (hr : Room j X.A) (tk : Takes X W)
    (h : wA X (e :: es) σ H fun vs H1 => ∃ S x y p q a b, vs = [x, y] ∧ Live S H1 ∧ IsP R S H1 x p q ∧ IsP R S H1 y a b ∧ dueG p q a b = none ∧ ∀ v H', Same H1 H' → Is R S H' v (faD "Gate" (mkQ p q) (mkQ a b)) → Sz 20 (mkQ p q) → Sz 20 (mkQ a b) → 0 < mkQ p q → Q v H') (hk : 5 ≤ j := by decide)
    (hg : Gl X "Gate" := by rfl) (he : starEach (e :: es) X.env = (false, eval e X.env) :: starEach es X.env := by rfl) (hpl : (backTo pos (starEach es X.env)).any (·.1) = false := by rfl) : wE X (.Call (.Name "Gate" p1) (e :: es) [] pos) σ H Q :=
  eMake G hr tk (h.mono fun vs H1 ⟨S, x, y, p, q, a, b, ev, l, hx, hy, due, k⟩ => fun n d hn hd hne => ⟨S, H1, n, d, x, y, p, q, a, b, by rw [ev], same_made hn hd, hn, upd_same, l, hx, hy, (fun t z ez => by rw [due] at ez; cases ez), fun _ H' s i z1 z2 z3 => ⟨rfl, k _ _ s i z1 z2 z3⟩⟩) hk hg (by decide) he hpl
theorem eLine (G : MakeG X.prog X.w X.K X.mg X.base 3 "Line" (R.CA "Line") ["self", "factor", "amount"] (spLine R)) (hr : Room j X.A) (tk : Takes X W)
    (h : wA X (e :: es) σ H fun vs H1 => ∃ S x y n m r t, vs = [x, y] ∧ Live S H1 ∧ Fr R S H1 x n r ∧ Fr R S H1 y m t ∧ n ≤ 9000 ∧ m ≤ 9000 ∧ ∀ v H', Same H1 H' → Is R S H' v (faD "Line" r t) → Sz n r → Sz m t → Q v H') (hk : 4 ≤ j := by decide)
    (hg : Gl X "Line" := by rfl) (he : starEach (e :: es) X.env = (false, eval e X.env) :: starEach es X.env := by rfl) (hpl : (backTo pos (starEach es X.env)).any (·.1) = false := by rfl) : wE X (.Call (.Name "Line" p1) (e :: es) [] pos) σ H Q :=
  eMake G hr tk (h.mono fun vs H1 ⟨S, x, y, n', m', r, t, ev, l, hx, hy, n9, m9, k⟩ => fun n d hn hd hne => ⟨S, H1, n, d, x, y, n', m', r, t, by rw [ev], same_made hn hd, hn, upd_same, l, hx, hy, n9, m9, fun H' s i z1 z2 => ⟨rfl, k _ _ s i z1 z2⟩⟩) hk hg (by decide) he hpl
end
theorem dueG_ok {p q a b : Int} (p1 : 1 ≤ p) (p2 : p ≤ 1000000) (q1 : 1 ≤ q) (q2 : q ≤ 1000000) (a1 : -1000000 ≤ a) (a2 : a ≤ 1000000) (b1 : 1 ≤ b) (b2 : b ≤ 1000000) : dueG p q a b = none := by
  unfold dueG dueF
  rw [if_neg (by omega), if_neg (by omega), if_neg (by omega), if_neg (by omega), if_neg (by omega), if_neg (by omega), if_neg (by omega)]
  rfl
/-! ### the turns of a law over the script's cells -/
def spLaw (K : PySem.W.Frag) : Sp := fun vs H Q _ => ∃ (a : Addr) (ns : List Int), vs = [.ref a] ∧ SqL K H a (ns.map V.int) ∧ ns.length ≤ 63 ∧ ∀ H', Q (.bl true) H'
section
variable {X : Cx} {σ : L2.St} {H : Hp} {D : Ends}
/-- for cell in (script + [0])[:n] -/
theorem sCells {tg : Expr} {sts : List Stmt} {x : Str} {px pz pl pb ps p2 pos pn : Pos} {jz jn : Nat} {n : Nat} {a : Addr} {ns : List Int} (i : Nat) (Sh : L2.St → Prop) (hs : SqL X.K H a (ns.map V.int)) (h63 : ns.length ≤ 63) (hσ : σ[i]? = some (some (.ref a))) (h0 : Sh σ)
    (body : ∀ (c : Int) (L : Addr) (cs : List Int) (σ' : L2.St) (H' : Hp), Sh σ' → H' L = some (.lst (cs.map V.int)) → wG X tg (.int c) σ' H' fun σ2 H2 => wB X sts { D with nx := fun σ3 H3 => Sh σ3 ∧ H3 L = some (.lst (cs.map V.int)), ct := fun σ3 H3 => Sh σ3 ∧ H3 L = some (.lst (cs.map V.int)), bk := D.nx } σ2 H2)
    (fin : ∀ σ' H', Sh σ' → D.nx σ' H') (hp : PassesOwn (model X.prog X.w) X.A X.env X.xe := by exact PassesOwn.never) (hc : X.calm = true := by rfl)
    (hf : ∀ v, foldedSetIterable (.Subscript (.BinOp (.Name x px) .Add (.List [.Constant (.int 0) jz pz] pl) pb) (.Slice none (some (.Constant (.int (n : Int)) jn pn)) none p2) ps) X.env v = pure v := by intro _; rfl)
    (hN : X.N[i]? = some x := by rfl) (hv : Vis X.env.scope x := by first | exact Or.inl rfl | exact Or.inr (Or.inl rfl) | exact Or.inr (Or.inr rfl))
    (hd : (x == ("__debug__" : Str)) = false := by decide) (hcd : (x == ("__classdict__" : Str)) = false := by decide) (hst : starEach ([.Constant (.int 0) jz pz] : List Expr) X.env = (false, eval (.Constant (.int 0) jz pz) X.env) :: starEach [] X.env := by rfl) :
    wS X (.For tg (.Subscript (.BinOp (.Name x px) .Add (.List [.Constant (.int 0) jz pz] pl) pb) (.Slice none (some (.Constant (.int (n : Int)) jn pn)) none p2) ps) sts [] pos) D σ H := by
  refine sFor (iL <| eSl (lo := none) (hi := some _) sl_list po_none (po_some (pE _)) ?_) hp hc hf
  refine eOp op_catR <| eV i hσ (eLst <| aCons (eI <| aNil ⟨by show 1 ≤ sizeLine; decide, fun z hz => ⟨a, z, _, _, rfl, rfl, Same.seq (same_new hz) hs, SqL.of upd_same, ?_, fun c hc => ?_⟩⟩) hst) hN hv hd hcd
  · rw [List.length_map]
    exact Nat.le_of_lt (small1000 (by simp; omega))
  refine eI ⟨_, rfl, c, _, rfl, SqL.of upd_same, fun lc hlc => ?_⟩
  generalize upd (upd H z (HO.lst [V.int 0])) c (HO.lst (List.map V.int ns ++ [V.int 0])) = H0 at hlc
  have ec : cutV (List.map V.int ns ++ [V.int 0]) none (some (n : Int)) = ((ns ++ [0]).take n).map V.int := by
    have e : List.map V.int ns ++ [V.int 0] = (ns ++ [0]).map V.int := by simp
    rw [e, cut_take, List.map_take]
  rw [ec]
  generalize (ns ++ [0]).take n = cs
  have hl1 : upd H0 lc (.lst (cs.map V.int)) lc = some (.lst (cs.map V.int)) := upd_same
  generalize upd H0 lc (.lst (cs.map V.int)) = H1 at hl1
  refine ⟨lc, rfl, ⟨_, SqL.of hl1⟩, _, _, _, walk_list (xs := cs.map V.int), fun i σ H' => Sh σ ∧ H' lc = some (.lst (cs.map V.int)), ⟨h0, hl1⟩, fun i σ H' _ h => SqL.of h.2, ?_, fun σ H' h => fin σ H' h.1⟩
  rintro i x σ H2 H2' hi ⟨h1, h2⟩ ⟨rfl, hx⟩
  obtain ⟨m, rfl⟩ : ∃ m, x = V.int m := by
    rw [List.getElem?_map] at hx
    cases e : cs[i]? with
    | none => rw [e] at hx; cases hx
    | some u => rw [e] at hx; exact ⟨u, (Option.some.inj hx).symm⟩
  exact body m lc cs σ _ h1 h2
/-- for k in range(n), nothing of a turn but its shape and what stands kept -/
theorem sTurns {tg : Expr} {sts : List Stmt} {e : Expr} {p1 p2 pos : Pos} (mR : X.mg "range" = none) (Pv : L2.St → Hp → Prop)
    (h : wA X [e] σ H fun vs H1 => ∃ j : Int, vs = [.int j] ∧ 0 ≤ j ∧ j ≤ 1000000 ∧ Pv σ H1 ∧ (∀ (k : Nat) σ' H', (k : Int) < j → Pv σ' H' → wG X tg (.int (k : Int)) σ' H' fun σ2 H2 => wB X sts { D with nx := Pv, ct := Pv, bk := D.nx } σ2 H2) ∧ ∀ σ' H', Pv σ' H' → D.nx σ' H')
    (hp : PassesOwn (model X.prog X.w) X.A X.env X.xe := by exact PassesOwn.never) (hc : X.calm = true := by rfl) (hf : ∀ v, foldedSetIterable (.Call (.Name "range" p1) [e] [] p2) X.env v = pure v := by intro _; rfl) (hg : Gl X "range" := by rfl)
    (hs : starEach [e] X.env = [(false, eval e X.env)] := by rfl) : wS X (.For tg (.Call (.Name "range" p1) [e] [] p2) sts [] pos) D σ H := by
  refine sFor (iR1 mR (h.mono fun vs H1 ⟨n, ev, n0, n9, h0, hb, hd⟩ => ⟨n, ev, by omega, by omega, n.toNat, _, _, walk_range, fun _ σ H' => Pv σ H', h0, fun _ _ _ _ _ => True.intro, ?_, hd⟩) hg hs) hp hc hf
  rintro i x σ H2 H2' hi h2 ⟨rfl, rfl⟩
  show wG X tg (V.int (0 + (i : Int))) σ H2' _
  rw [Int.zero_add]
  exact hb i σ _ (by omega) h2
end
theorem walk {l : PySem.W.OpenLaw} {q : Program} {loose : List Str} {XP : (Str → Option Value) → Heap → Prop} {YP : World → Heap → Prop} {d : DefRec} {K : Params → PySem.W.Frag} {k : Nat} (hn : l.most = some 63) (hdf : d.params.defaults = []) (hr : Room k callerA)
    (hY : ∀ (w : World) (h : Heap), YP w h → (K w.params).In h)
    (F : ∀ (w : World) (mg : Str → Option Value) (fa : Addr) (h : Heap), (K w.params).In h → h.Ns mainGlobals mg → mg d.name = some (.ref fa) →
      ∃ fd : FuncData, (∀ (s : Shared) (u : Value), BindsTo s fd ⟨[u], []⟩ [("_law_script", u)]) ∧ ∀ base : Heap, (K w.params).In base → base.Ns mainGlobals mg → FnOk l.prog w (K w.params) mg base (L2.CX l.prog w) k fa fd ["_law_script"] (spLaw (K w.params))) :
    PySem.W.WalkO q loose XP YP l.row.toRowW d [] (fun f vs => PySem.call f vs) :=
  L2.walk_of (n := 63) (k := k) (x := "_law_script") (CX := fun w => L2.CX l.prog w) (sp := fun w => spLaw (K w.params)) hn (by decide) hdf hr hY F (fun _ _ a ns hl _ hS => ⟨a, ns, rfl, hS, hl, fun _ => rfl⟩) fun _ _ _ _ _ z => by
    obtain ⟨_, _, _, _, _, _, _, _, _, _, _, _, z⟩ := z
    exact z
end BR

namespace BR
open PySem PySem.Spec PyProof.Rows L2
/-! ### lists and tuples walked, sets of ints, orders -/
section
variable {X : Cx} {σ : L2.St} {H : Hp} {R : Rp} {tg e : Expr} {T : It → Hp → Prop}
/-- the iterator, just made behind all that is there -/
theorem it_new {pins : List (Addr × Obj)} {s : Shared} {J : It} {tn : Nat → Heap → Prop} {ob : Obj} (I : Inv X pins σ H s) (t : Turn X.prog X.w X.K tg J [s.heap.objs.size] s.heap.objs.size tn)
    (z : tn 0 (s.heap.push ob)) (q : T J H) : PIE X pins σ tg T (.ref s.heap.objs.size) { s with heap := s.heap.push ob } := by
  refine ⟨_, _, _, J, H, rfl, ?_, t, z, ?_, q⟩
  · exact I.kept (t' := s.toks) fun _ _ k => Heap.get?_push_of_some _ k
  · intro b hb
    cases List.mem_singleton.mp hb
    exact I.fpOk (Nat.le_refl _) (I.hok.fresh (Nat.le_refl _))
theorem it_any {pins : List (Addr × Obj)} {s : Shared} {a : Addr} {xs : List V} (I : Inv X pins σ H s) (h : (SqL X.K H a xs ∧ T (Itl X.K a) H) ∨ (SqT X.K H a xs ∧ T (Itt X.K a) H)) :
    wpAny (model X.prog X.w) X.A (pyIter (.ref a)) (PIE X pins σ tg T) X.xe s := by
  rcases h with ⟨hs, q⟩ | ⟨hs, q⟩
  · obtain ⟨_, _, hp, _⟩ := I.list hs
    exact wpAny_pyIter_list hp.isList (it_new I (turn_list a _) ⟨_, Heap.get?_push_size _ rfl, rfl, rfl⟩ q)
  · obtain ⟨_, _, hp, _⟩ := I.tuple hs
    exact wpAny_pyIter_tuple hp (it_new I (turn_tuple a _) ⟨_, Heap.get?_push_size _ rfl, rfl, rfl⟩ q)
/-- what is walked is a list or a tuple; all but S is kept -/
theorem iW (hK : X.K = R.K) (h : wE X e σ H fun x H1 => ∃ S d ds, Is R S H1 x d ∧ d.items = some ds ∧ ∀ J xs, IsA R S H1 xs ds → Walk J xs.length (fun H' => Kp S H1 H') (YAt xs) → T J H1) : wI X tg e σ H T := by
  refine ⟨fun pins s I => thn (h.r pins s I) fun u s1 ⟨x, H1, I1, rx, S, d, ds, hi, hd, q⟩ => ?_⟩
  have fin : ∀ {a : Addr} {xs : List V}, (∀ H', Kp S H1 H' → SqT X.K H' a xs) → IsA R S H1 xs ds → wpAny (model X.prog X.w) X.A (pyIter (.ref a)) (PIE X pins σ tg T) X.xe s1 := fun up ha =>
    it_any I1 (.inr ⟨up _ (Kp.refl _ _), q _ _ ha ⟨fun i H' hi k => walk_tup.goes i H' hi (up H' k), fun H' k => walk_tup.stops H' (up H' k), fun i H' x H2 hi k y => walk_tup.yields i H' x H2 hi (up H' k) y⟩⟩)
  cases d with
  | tup l =>
    cases hd
    cases hi with
    | tup n e ha =>
      cases rx
      exact fin (fun H' k => SqT.of (k _ _ n e)) ha
    | tupK e ha =>
      cases rx
      exact fin (fun H' k => by rw [hK]; exact e.sq) ha
  | lst l =>
    cases hd
    obtain ⟨a, xs, rfl, n, hs, ha⟩ := id hi.lstE
    cases rx
    have up : ∀ H', Kp S H1 H' → SqL X.K H' a xs := fun H' k => SqL.of (k _ _ n hs)
    exact it_any I1 (.inl ⟨SqL.of hs, q _ _ ha ⟨fun i H' hi k => walk_list.goes i H' hi (up H' k), fun H' k => walk_list.stops H' (up H' k), fun i H' x H2 hi k y => walk_list.yields i H' x H2 hi (up H' k) y⟩⟩)
  | _ => cases hd
end
/-- len of a set of ints -/
def rLenS (w : World) : List V → Hp → VK → Prop := fun xs H Q => ∃ a S n, xs = [.ref a] ∧ H a = some (SetO w a S n) ∧ Q (.int (n : Nat)) H
theorem call_lenS {X : Cx} : CallR X (.builtin "len") (rLenS X.w) := by
  intro pins s σ H xs us Q I r h
  obtain ⟨a, S, n, rfl, ha, q⟩ := h
  obtain ⟨u, rfl, ru⟩ := vals1 r
  cases ru
  obtain ⟨o, es, ep, t, h1, h2, h3, _, _, _, hz, hf, hn, _⟩ := setO_get I ha
  refine PySem.call_len_set h1 h2 h3 hf ?_ ⟨.int (n : Nat), H, I.tok _, ⟨s.toks + 1, by rw [hn]⟩, q⟩
  have : scanBound ≤ 2 ^ 62 := by decide
  omega
end BR
namespace BR
open PySem PySem.Spec PyProof.Rows L2
theorem IsA.rev {R : Rp} {S : Reg} {H : Hp} : ∀ {vs : List V} {ds : List D}, IsA R S H vs ds → IsA R S H vs.reverse ds.reverse
  | _, _, .nil => .nil
  | _, _, .cons a b => by
    rw [List.reverse_cons, List.reverse_cons]
    exact (IsA.rev b).app (.cons a .nil)
/-- an order of n gates -/
def ordB (n : Nat) (os : List Int) : Bool := decide (os.length = n ∧ (∀ i ∈ os, 0 ≤ i ∧ i < (n : Int)) ∧ os.Nodup)
theorem ordB_iff {n : Nat} {os : List Int} : ordB n os = true ↔ os.length = n ∧ (∀ i ∈ os, 0 ≤ i ∧ i < (n : Int)) ∧ os.Nodup := by
  unfold ordB
  simp
def spChkGs (R : Rp) (CE : Addr) : Sp := fun vs H Q E => ∃ S v d ds, ∃ m : Nat, vs = [v, .int (m : Nat)] ∧ Live S H ∧ Is R S H v d ∧ d.items = some ds ∧ (¬ (1 ≤ ds.length ∧ ds.length ≤ m) → Gone "what" "count" CE H (.str "gates") (.int (ds.length : Nat)) E) ∧ (1 ≤ ds.length → ds.length ≤ m → Q .non H)
def spIsNum : Sp := fun vs H Q _ => ∃ i, vs = [.int i] ∧ Q (.bl true) H
def spIsOrd (R : Rp) : Sp := fun vs H Q _ => ∃ S v d os n, vs = [v, .int (n : Nat)] ∧ Live S H ∧ Is R S H v d ∧ d.items = some (os.map D.int) ∧ n ≤ 1000 ∧ ∀ H', Same H H' → Q (.bl (ordB n os)) H'
def spChkO (R : Rp) : Sp := fun vs H Q _ => ∃ S v d ds u e os, vs = [v, u] ∧ Live S H ∧ Is R S H v d ∧ d.items = some ds ∧ Is R S H u e ∧ e.items = some (os.map D.int) ∧ ds.length ≤ 1000 ∧ ordB ds.length os = true ∧ ∀ H', Same H H' → Q .non H'
section
variable {X : Cx} {σ : L2.St} {H : Hp} {e o : Expr} {es : List Expr} {D : Ends} {p1 p2 pos : Pos}
/-- s.add(k) as a statement -/
theorem sAdd (h : wE X o σ H fun x H1 => (∃ a S n, x = V.ref a ∧ H1 a = some (SetO X.w a S n)) ∧ wA X (e :: es) σ H1 fun xs H2 => rSAdd X.w x xs H2 fun _ H3 => D.nx σ H3)
    (hs : swapsWith (.Call (.Attribute o "add" p1) (e :: es) [] p2) none pos.line X.env = pure false := by rfl)
    (hbase : attributeBase o "add" X.env (eval o X.env) = eval o X.env := by rfl)
    (hfew : ((backTo p2 (starEach (e :: es) X.env)).all (fun x => !x.1) && (backToKw p2 (keywordEach [] X.env)).all (fun x => x.1.isSome) && decide ((e :: es).length + ([] : List Keyword).length + (if ([] : List Keyword).isEmpty then 0 else 1) < 30)) = true := by rfl) (hline : (p1.endLine == p2.line) = true := by rfl) (hst : starEach (e :: es) X.env = (false, eval e X.env) :: starEach es X.env := by rfl) (hplain : (backTo p2 (starEach es X.env)).any (·.1) = false := by rfl) :
    wS X (.Expr (.Call (.Attribute o "add" p1) (e :: es) [] p2) pos) D σ H :=
  sExpr (uE (pe_sadd (pE o) (pA (e :: es)) hbase hfew hline hst hplain) h) hs
end
end BR
namespace BR
open PySem PySem.Spec PyProof.Rows L2
theorem same_of_kp {H H' : Hp} {p : Addr} {o : HO} (hp : H p = none) (k : Kp (fun a => a = p) (upd H p o) H') : Same H H' := fun b u e => by
  have n := ne_of_none e hp
  exact k b u n (by rw [upd_ne n]; exact e)
section
variable {X : Cx} {σ : L2.St} {H : Hp} {Q : VK} {pos p1 : Pos}
theorem eCTy0 {r : List V → Hp → VK → Prop} {x : Str} {T : String} (hc : CallR X (.type T) r) (hm : X.mg x = none) (h : r [] H Q) (hg : Gl X x := by rfl) (hv : bootBuiltins x = some (.type T) := by decide +kernel)
    (hn : x ≠ "__name__" := by decide) (hdb : (x == ("__debug__" : Str)) = false := by decide) : wE X (.Call (.Name x p1) [] [] pos) σ H Q := uE (pe_callTy0 hc hg hm hv hn hdb) h
end
end BR
namespace BR
open PySem PySem.Spec PyProof.Rows L2
/-! ### lists of gates, orders, whole passages -/
abbrev G2 := Rat × Rat
def gD (g : G2) : D := faD "Gate" g.1 g.2
structure GatesAt (R : Rp) (S : Reg) (H : Hp) (v : V) (gs : List G2) (n : Nat) : Prop where
  ex : ∃ d, Is R S H v d ∧ d.items = some (gs.map gD)
  lo : 1 ≤ gs.length
  hi : gs.length ≤ 8
  sz : ∀ g ∈ gs, Sz n g.1 ∧ Sz n g.2
  pos : ∀ g ∈ gs, 0 < g.1
  n0 : 0 < n
  n9 : n ≤ 400
structure OrdAt (R : Rp) (S : Reg) (H : Hp) (v : V) (n : Nat) (os : List Int) : Prop where
  ex : ∃ d, Is R S H v d ∧ d.items = some (os.map D.int)
  ok : ordB n os = true
section
variable {R : Rp} {S : Reg} {H H' : Hp} {v : V} {gs : List G2} {n : Nat} {os : List Int}
theorem GatesAt.go (h : GatesAt R S H v gs n) (k : Kp S H H') : GatesAt R S H' v gs n := { h with ex := h.ex.imp fun _ z => ⟨z.1.go k, z.2⟩ }
theorem GatesAt.up (h : GatesAt R S H v gs n) (k : Same H H') : GatesAt R S H' v gs n := h.go (Kp.of k)
theorem OrdAt.go (h : OrdAt R S H v n os) (k : Kp S H H') : OrdAt R S H' v n os := { h with ex := h.ex.imp fun _ z => ⟨z.1.go k, z.2⟩ }
theorem OrdAt.up (h : OrdAt R S H v n os) (k : Same H H') : OrdAt R S H' v n os := h.go (Kp.of k)
theorem OrdAt.len (h : OrdAt R S H v n os) : os.length = n := (ordB_iff.mp h.ok).1
/-- the index at a place, and its gate -/
theorem OrdAt.at_ (h : OrdAt R S H v gs.length os) {i : Nat} (hi : i < os.length) : ∃ k : Nat, os[i] = (k : Int) ∧ ∃ g, gs[k]? = some g ∧ g ∈ gs := by
  obtain ⟨h1, h2⟩ := (ordB_iff.mp h.ok).2.1 _ (List.getElem_mem hi)
  refine ⟨os[i].toNat, by omega, gs[os[i].toNat]'(by omega), List.getElem?_eq_getElem _, List.getElem_mem _⟩
end
def thr (l g : G2) : G2 := (g.1 * l.1, g.1 * l.2 + g.2)
def gAt (gs : List G2) (i : Int) : G2 := (gs[i.toNat]?).getD (1, 0)
def lineQ (gs : List G2) (os : List Int) : G2 := os.foldl (fun l i => thr l (gAt gs i)) (1, 0)
theorem lineQ_snoc (gs : List G2) (os : List Int) (i : Int) : lineQ gs (os ++ [i]) = thr (lineQ gs os) (gAt gs i) := by
  unfold lineQ
  rw [List.foldl_append]
  rfl
theorem gAt_nat {gs : List G2} {k : Nat} {g : G2} (h : gs[k]? = some g) : gAt gs (k : Int) = g := by
  unfold gAt
  rw [Int.toNat_natCast, h]
  rfl
/-- an int of a walked list -/
theorem at_int {os : List Int} {i : Nat} {x : V} (hi : i < os.length) (h : (os.map V.int)[i]? = some x) : x = V.int os[i] := by
  rw [List.getElem?_map, List.getElem?_eq_getElem hi] at h
  exact (Option.some.inj h).symm
theorem ixG {R : Rp} {S : Reg} {H : Hp} {v : V} {gs : List G2} {n k : Nat} {g : G2} {Q : VK} (h : GatesAt R S H v gs n) (e : gs[k]? = some g) (q : ∀ x, Is R S H x (faD "Gate" g.1 g.2) → Q x H) : rIx R.K v (.int (k : Nat)) H Q := by
  obtain ⟨d, a, b⟩ := h.ex
  exact ixD a b (by rw [List.getElem?_map, e]; rfl) q
abbrev fsz (n k : Nat) : Nat := 1 + k * n
abbrev asz (n k : Nat) : Nat := 1 + k * (2 * n + 1)
theorem fsz0 {n k : Nat} : 0 < fsz n k := by unfold fsz; omega
theorem asz0 {n k : Nat} : 0 < asz n k := by unfold asz; omega
theorem fsz_le {n k : Nat} (hk : k ≤ 8) (hn : n ≤ 400) : fsz n k ≤ 3201 := by
  have : k * n ≤ 8 * 400 := Nat.mul_le_mul hk hn
  unfold fsz
  omega
theorem asz_le {n k : Nat} (hk : k ≤ 8) (hn : n ≤ 400) : asz n k ≤ 6409 := by
  have : k * (2 * n + 1) ≤ 8 * 801 := Nat.mul_le_mul hk (by omega)
  unfold asz
  omega
theorem fsz_s {n k : Nat} : n + fsz n k = fsz n (k + 1) := by
  unfold fsz
  rw [Nat.succ_mul]
  omega
theorem asz_s {n k : Nat} : n + asz n k + n + 1 = asz n (k + 1) := by
  have e : (k + 1) * (2 * n + 1) = k * (2 * n + 1) + (2 * n + 1) := Nat.succ_mul _ _
  show n + (1 + k * (2 * n + 1)) + n + 1 = 1 + (k + 1) * (2 * n + 1)
  rw [e]
  generalize k * (2 * n + 1) = z
  omega
/-- the whole line of an order -/
def spLineW (R : Rp) : Sp := fun vs H Q _ => ∃ S v gs n u os, vs = [v, u] ∧ Live S H ∧ GatesAt R S H v gs n ∧ OrdAt R S H u gs.length os ∧
  ∀ v' H', Same H H' → Is R S H' v' (faD "Line" (lineQ gs os).1 (lineQ gs os).2) → Sz (fsz n os.length) (lineQ gs os).1 → Sz (asz n os.length) (lineQ gs os).2 → Q v' H'
def spWorth (R : Rp) : Sp := fun vs H Q _ => ∃ S v gs n u os t os2, vs = [v, u, t] ∧ Live S H ∧ GatesAt R S H v gs n ∧ OrdAt R S H u gs.length os ∧ OrdAt R S H t gs.length os2 ∧ asz n os.length + asz n os2.length + 1 ≤ 8999 ∧
  ∀ v' H', Same H H' → Is R S H' v' (frac ((lineQ gs os).2 - (lineQ gs os2).2)) → Sz (asz n os.length + asz n os2.length + 1) ((lineQ gs os).2 - (lineQ gs os2).2) → Q v' H'
end BR
namespace BR
open PySem PySem.Spec PyProof.Rows L2
section
variable {X : Cx} {σ : L2.St} {H : Hp} {e o : Expr} {es : List Expr} {D : Ends} {p1 p2 p3 pos tpos : Pos} {tg : Expr} {T : It → Hp → Prop} {R : Rp} {Q : VK}
/-- l.append(e) as a statement -/
theorem sApp (h : wE X o σ H fun x H1 => tyV X.K "list" x H1 ∧ wA X (e :: es) σ H1 fun xs H2 => rAppend x xs H2 fun _ H3 => D.nx σ H3)
    (hs : swapsWith (.Call (.Attribute o "append" p1) (e :: es) [] p2) none pos.line X.env = pure false := by rfl)
    (hbase : attributeBase o "append" X.env (eval o X.env) = eval o X.env := by rfl)
    (hfew : ((backTo p2 (starEach (e :: es) X.env)).all (fun x => !x.1) && (backToKw p2 (keywordEach [] X.env)).all (fun x => x.1.isSome) && decide ((e :: es).length + ([] : List Keyword).length + (if ([] : List Keyword).isEmpty then 0 else 1) < 30)) = true := by rfl) (hline : (p1.endLine == p2.line) = true := by rfl)
    (hst : starEach (e :: es) X.env = (false, eval e X.env) :: starEach es X.env := by rfl) (hplain : (backTo p2 (starEach es X.env)).any (·.1) = false := by rfl) :
    wS X (.Expr (.Call (.Attribute o "append" p1) (e :: es) [] p2) pos) D σ H :=
  sExpr (uE (pe_bm PySem.F.plainAttrs_list PySem.F.slot_list_append PySem.F.type_list_append mt_append (pE o) (pA (e :: es)) hbase hfew hline hst hplain) h) hs
theorem ty_list {K : PySem.W.Frag} {a : Addr} {xs : List V} (h : H a = some (.lst xs)) : tyV K "list" (.ref a) H := .inl ⟨rfl, xs, SqL.of h⟩
/-- reversed of a list or a tuple -/
theorem iRevW {p : Pos} (hK : X.K = R.K) (hm : X.mg "reversed" = none) (h : wE X e σ H fun x H1 => ∃ S d ds, Is R S H1 x d ∧ d.items = some ds ∧ ∀ J xs, IsA R S H1 xs ds → Walk J xs.length (fun H' => Kp S H1 H') (fun i H x H' => H' = H ∧ xs[xs.length - 1 - i]? = some x) → T J H1)
    (hg : Gl X "reversed" := by rfl) (hs : starEach [e] X.env = (false, eval e X.env) :: starEach [] X.env := by rfl) : wI X tg (.Call (.Name "reversed" p) [e] [] pos) σ H T := by
  refine uI (RT.pi_revA hg hm (pE e) hs) (h.mono fun x H1 ⟨S, d, ds, hi, hd, q⟩ => ?_)
  cases d with
  | tup l =>
    cases hd
    have fin : ∀ {a : Addr} {xs : List V}, (∀ H', Kp S H1 H' → SqT X.K H' a xs) → IsA R S H1 xs ds → SqT X.K H1 a xs ∧ T (RT.ItvT X.K a xs.length) H1 := fun up ha =>
      ⟨up _ (Kp.refl _ _), q _ _ ha ⟨fun i H' hi k => ⟨hi, _, _, up H' k, List.getElem?_eq_getElem (by omega)⟩, fun H' k => Nat.le_refl _, fun i H' x H2 hi k y => ⟨y.1, y.2 _ (up H' k)⟩⟩⟩
    cases hi with
    | tup n e ha => exact ⟨_, _, rfl, .inr (fin (fun H' k => SqT.of (k _ _ n e)) ha)⟩
    | tupK e ha => exact ⟨_, _, rfl, .inr (fin (fun H' k => by rw [hK]; exact e.sq) ha)⟩
  | lst l =>
    cases hd
    obtain ⟨a, xs, rfl, n, hs, ha⟩ := id hi.lstE
    have up : ∀ H', Kp S H1 H' → SqL X.K H' a xs := fun H' k => SqL.of (k _ _ n hs)
    exact ⟨_, _, rfl, .inl ⟨SqL.of hs, q _ _ ha ⟨fun i H' hi k => walk_rev.goes i H' hi (up H' k), fun H' k => walk_rev.stops H' (up H' k), fun i H' x H2 hi k y => walk_rev.yields i H' x H2 hi (up H' k) y⟩⟩⟩
  | _ => cases hd
/-- enumerate of a list -/
theorem iEnumW {p : Pos} {elts : List Expr} {kk : Nat} (hm : X.mg "enumerate" = none) (h : wE X e σ H fun x H1 => ∃ S l, Is R S H1 x (.lst l) ∧ ∀ J xs, IsA R S H1 xs l → Walk J xs.length (fun H' => Kp S H1 H') (YPair (fun i => some (.int (i : Nat))) (fun i => xs[i]?)) → T J H1)
    (hg : Gl X "enumerate" := by rfl) (hs : starEach [e] X.env = [(false, eval e X.env)] := by rfl) : wI X (.Tuple elts kk tpos) (.Call (.Name "enumerate" p) [e] [] pos) σ H T := by
  refine uI (pi_enum hg hm (pA [e]) hs) ?_
  refine (aCons (h.mono fun x H1 ⟨S, l, hi, q⟩ => aNil ?_) hs : wA X [e] σ H _)
  obtain ⟨a, xs, rfl, n, hs, ha⟩ := id hi.lstE
  have up : ∀ H', Kp S H1 H' → SqL X.K H' a xs := fun H' k => SqL.of (k _ _ n hs)
  exact ⟨a, xs, rfl, SqL.of hs, q _ _ ha ⟨fun i H' hi k => walk_enum.goes i H' hi (up H' k), fun H' k => walk_enum.stops H' (up H' k), fun i H' x H2 hi k y => walk_enum.yields i H' x H2 hi (up H' k) y⟩⟩
/-- l[::-1] of a list -/
theorem eRev {k : Nat} (h : wE X e σ H fun x H1 => ∃ S l, Live S H1 ∧ Is R S H1 x (.lst l) ∧ ∀ v H', Same H1 H' → Is R S H' v (.lst l.reverse) → Q v H') : wE X (.Subscript e (.Slice none none (some (.UnaryOp .USub (.Constant (.int 1) k p1) p2)) p3) pos) σ H Q := by
  refine uE (pe_revL (pE e)) (h.mono fun x H1 ⟨S, l, lv, hi, q⟩ => ?_)
  obtain ⟨a, xs, rfl, n, hs, ha⟩ := id hi.lstE
  exact ⟨a, xs, rfl, SqL.of hs, fun p hp => q _ _ (same_new hp) (Is.newL lv hp ha.rev)⟩
end
end BR
namespace BR
open PySem PySem.Spec PyProof.Rows L2
/-! ### arrows, turns, paths -/
def sgnQ (r : Rat) : Int := if 0 < r.num then 1 else if r.num < 0 then -1 else 0
def arrQ (g : G2) : G2 := (1 - g.1, g.2)
def vD (p : G2) : D := .tup [frac p.1, frac p.2]
def crossQ (p q : G2) : Rat := p.1 * q.2 - p.2 * q.1
/-- the product of the factors of an order's gates, the first last -/
def lfQ (gs : List G2) (os : List Int) : Rat := os.foldr (fun i p => p * (gAt gs i).1) 1
def ptQ (gs : List G2) (os : List Int) : Nat → G2
  | 0 => (0, 0)
  | k + 1 => ((ptQ gs os k).1 + (arrQ (gAt gs (os.getD k 0))).1 * lfQ gs (os.drop (k + 1)), (ptQ gs os k).2 + (arrQ (gAt gs (os.getD k 0))).2 * lfQ gs (os.drop (k + 1)))
abbrev ssz (n : Nat) : Nat := n + 2 + fsz n 8
abbrev psz (n k : Nat) : Nat := 1 + k * (ssz n + 1)
theorem psz_s {n k : Nat} : psz n k + ssz n + 1 = psz n (k + 1) := by
  have e : (k + 1) * (ssz n + 1) = k * (ssz n + 1) + (ssz n + 1) := Nat.succ_mul _ _
  show 1 + k * (ssz n + 1) + ssz n + 1 = 1 + (k + 1) * (ssz n + 1)
  rw [e]
  generalize k * (ssz n + 1) = z
  omega
theorem ssz_le {n : Nat} (hn : n ≤ 80) : ssz n ≤ 723 := by
  have : 8 * n ≤ 8 * 80 := Nat.mul_le_mul (Nat.le_refl _) hn
  show n + 2 + (1 + 8 * n) ≤ 723
  omega
theorem psz_le {n k : Nat} (hk : k ≤ 8) (hn : n ≤ 80) : psz n k ≤ 5793 := by
  have h := ssz_le hn
  have : k * (ssz n + 1) ≤ 8 * 724 := Nat.mul_le_mul hk (by omega)
  show 1 + k * (ssz n + 1) ≤ 5793
  generalize k * (ssz n + 1) = z at this
  omega
theorem fsz_mono {n j k : Nat} (h : j ≤ k) : fsz n j ≤ fsz n k := by
  have : j * n ≤ k * n := Nat.mul_le_mul h (Nat.le_refl _)
  show 1 + j * n ≤ 1 + k * n
  omega
def spSign (R : Rp) : Sp := fun vs H Q _ => ∃ S v r, vs = [v] ∧ Is R S H v (frac r) ∧ Q (.int (sgnQ r)) H
def spCross (R : Rp) : Sp := fun vs H Q _ => ∃ S v u n m p q, vs = [v, u] ∧ Live S H ∧ Is R S H v (vD p) ∧ Is R S H u (vD q) ∧ (Sz n p.1 ∧ Sz n p.2) ∧ (Sz m q.1 ∧ Sz m q.2) ∧ 0 < n ∧ 0 < m ∧ n + m + (n + m) + 1 ≤ 8999 ∧
  ∀ v' H', Same H H' → Is R S H' v' (frac (crossQ p q)) → Sz (n + m + (n + m) + 1) (crossQ p q) → Q v' H'
def spArrow (R : Rp) : Sp := fun vs H Q _ => ∃ S v n g, vs = [v] ∧ Live S H ∧ Is R S H v (faD "Gate" g.1 g.2) ∧ Sz n g.1 ∧ Sz n g.2 ∧ 0 < n ∧ n ≤ 8000 ∧ ∀ v' H', Same H H' → Is R S H' v' (vD (arrQ g)) → Sz (n + 2) (arrQ g).1 → Sz (n + 2) (arrQ g).2 → Q v' H'
def spTurn (R : Rp) : Sp := fun vs H Q _ => ∃ S v u n g h, vs = [v, u] ∧ Live S H ∧ Is R S H v (faD "Gate" g.1 g.2) ∧ Is R S H u (faD "Gate" h.1 h.2) ∧ Sz n g.1 ∧ Sz n g.2 ∧ Sz n h.1 ∧ Sz n h.2 ∧ 0 < n ∧ n ≤ 2000 ∧
  ∀ H', Same H H' → Q (.int (sgnQ (crossQ (arrQ g) (arrQ h)))) H'
def spMoved (R : Rp) : Sp := fun vs H Q _ => ∃ S v u n m p q, vs = [v, u] ∧ Live S H ∧ Is R S H v (vD p) ∧ Is R S H u (vD q) ∧ (Sz n p.1 ∧ Sz n p.2) ∧ (Sz m q.1 ∧ Sz m q.2) ∧ 0 < n ∧ 0 < m ∧ n + m + 1 ≤ 8999 ∧
  ∀ v' H', Same H H' → Is R S H' v' (vD (p.1 + q.1, p.2 + q.2)) → Sz (n + m + 1) (p.1 + q.1) → Sz (n + m + 1) (p.2 + q.2) → Q v' H'
def spStr (R : Rp) : Sp := fun vs H Q _ => ∃ S v u n m p r, vs = [v, u] ∧ Live S H ∧ Is R S H v (vD p) ∧ Is R S H u (frac r) ∧ (Sz n p.1 ∧ Sz n p.2) ∧ Sz m r ∧ 0 < n ∧ 0 < m ∧ n + m ≤ 8999 ∧
  ∀ v' H', Same H H' → Is R S H' v' (vD (p.1 * r, p.2 * r)) → Sz (n + m) (p.1 * r) → Sz (n + m) (p.2 * r) → Q v' H'
def spLater (R : Rp) : Sp := fun vs H Q _ => ∃ S v gs n u os, vs = [v, u] ∧ Live S H ∧ GatesAt R S H v gs n ∧ OrdAt R S H u gs.length os ∧
  ∀ v' H' ds, Same H H' → Is R S H' v' (.lst ds) → (∀ k, k ≤ os.length → ds[k]? = some (frac (lfQ gs (os.drop k)))) → (∀ k, k ≤ os.length → Sz (fsz n (os.length - k)) (lfQ gs (os.drop k))) → Q v' H'
def spPoints (R : Rp) : Sp := fun vs H Q _ => ∃ S v gs n u os, vs = [v, u] ∧ Live S H ∧ GatesAt R S H v gs n ∧ n ≤ 80 ∧ Is R S H u (.lst (os.map D.int)) ∧ ordB gs.length os = true ∧
  ∀ v' H' ds, Same H H' → Is R S H' v' (.lst ds) → ds.length = os.length + 1 → (∀ k, k ≤ os.length → ds[k]? = some (vD (ptQ gs os k))) → (∀ k, k ≤ os.length → Sz (psz n k) (ptQ gs os k).1 ∧ Sz (psz n k) (ptQ gs os k).2) → Q v' H'
theorem ix2 {R : Rp} {S : Reg} {H : Hp} {v : V} {p : G2} {Q : VK} (h : Is R S H v (vD p)) : (∀ q : (∀ x, Is R S H x (frac p.1) → Q x H), rIx R.K v (.int 0) H Q) ∧ (∀ q : (∀ x, Is R S H x (frac p.2) → Q x H), rIx R.K v (.int 1) H Q) :=
  ⟨fun q => ixD (i := 0) h rfl rfl q, fun q => ixD (i := 1) h rfl rfl q⟩
theorem GatesAt.regN {R : Rp} {S T : Reg} {H : Hp} {v : V} {gs : List G2} {n : Nat} (h : GatesAt R S H v gs n) (k : ∀ a, T a → S a ∨ H a = none) : GatesAt R T H v gs n := { h with ex := h.ex.imp fun _ z => ⟨z.1.regN k, z.2⟩ }
theorem OrdAt.regN {R : Rp} {S T : Reg} {H : Hp} {v : V} {n : Nat} {os : List Int} (h : OrdAt R S H v n os) (k : ∀ a, T a → S a ∨ H a = none) : OrdAt R T H v n os := { h with ex := h.ex.imp fun _ z => ⟨z.1.regN k, z.2⟩ }
end BR
namespace BR
open PySem PySem.Spec PyProof.Rows L2
theorem ixLastV {R : Rp} {S : Reg} {K : PySem.W.Frag} {H : Hp} {p : Addr} {acc : List V} {ds : List D} {d : D} {i : Nat} {Q : VK} (hp : H p = some (.lst acc)) (ia : IsA R S H acc ds) (hl : ds.length = i + 1) (e : ds[i]? = some d) (q : ∀ x, Is R S H x d → Q x H) : rIx K (.ref p) (.int (-1)) H Q := by
  obtain ⟨x, hx, ix⟩ := ia.get e
  have la := ia.len
  have at_ : atI acc (-1) = some x := by
    unfold atI ixN
    rw [if_neg (by decide), if_pos (by omega)]
    have e2 : (-1 + (acc.length : Int)).toNat = i := by omega
    show acc[(-1 + (acc.length : Int)).toNat]? = some x
    rw [e2]
    exact hx
  exact .inl ⟨p, acc, _, x, rfl, rfl, SqL.of hp, at_, q x ix⟩
theorem lfQ_cons (gs : List G2) (i : Int) (os : List Int) : lfQ gs (i :: os) = lfQ gs os * (gAt gs i).1 := rfl
theorem kp_in {S : Reg} {H : Hp} {p : Addr} {o : HO} (h : S p) : Kp S H (upd H p o) := fun a u n e => by
  rw [upd_ne (fun z => n (by rw [z]; exact h))]
  exact e
end BR
namespace BR
open PySem PySem.Spec PyProof.Rows L2
/-! ### facts of gates -/
structure F4 where
  p : Int
  q : Int
  a : Int
  b : Int
structure F4.Ok (f : F4) : Prop where
  p1 : 1 ≤ f.p
  p2 : f.p ≤ 1000000
  q1 : 1 ≤ f.q
  q2 : f.q ≤ 1000000
  a1 : -1000000 ≤ f.a
  a2 : f.a ≤ 1000000
  b1 : 1 ≤ f.b
  b2 : f.b ≤ 1000000
def fD (f : F4) : D := .tup [.tup [.int f.p, .int f.q], .tup [.int f.a, .int f.b]]
def f2 (f : F4) : G2 := (mkQ f.p f.q, mkQ f.a f.b)
structure FactsAt (R : Rp) (S : Reg) (H : Hp) (v : V) (fs : List F4) : Prop where
  ex : ∃ d, Is R S H v d ∧ d.items = some (fs.map fD)
  lo : 1 ≤ fs.length
  hi : fs.length ≤ 8
  ok : ∀ f ∈ fs, f.Ok
def spMade (R : Rp) : Sp := fun vs H Q _ => ∃ S v fs, vs = [v] ∧ Live S H ∧ FactsAt R S H v fs ∧ ∀ v' H', Same H H' → Is R S H' v' (.lst ((fs.map f2).map gD)) → GatesAt R S H' v' (fs.map f2) 20 → Q v' H'
theorem FactsAt.go {R : Rp} {S : Reg} {H H' : Hp} {v : V} {fs : List F4} (h : FactsAt R S H v fs) (k : Kp S H H') : FactsAt R S H' v fs := { h with ex := h.ex.imp fun _ z => ⟨z.1.go k, z.2⟩ }
theorem FactsAt.up {R : Rp} {S : Reg} {H H' : Hp} {v : V} {fs : List F4} (h : FactsAt R S H v fs) (k : Same H H') : FactsAt R S H' v fs := h.go (Kp.of k)
theorem F4.Ok.due {f : F4} (h : f.Ok) : dueG f.p f.q f.a f.b = none := dueG_ok h.p1 h.p2 h.q1 h.q2 h.a1 h.a2 h.b1 h.b2
theorem gates_of {R : Rp} {S : Reg} {H : Hp} {v : V} {fs : List F4} (i : Is R S H v (.lst ((fs.map f2).map gD))) (lo : 1 ≤ fs.length) (hi : fs.length ≤ 8) (ok : ∀ f ∈ fs, f.Ok) : GatesAt R S H v (fs.map f2) 20 where
  ex := ⟨_, i, rfl⟩
  lo := by rw [List.length_map]; exact lo
  hi := by rw [List.length_map]; exact hi
  sz := fun g hg => by
    obtain ⟨f, hf, rfl⟩ := List.mem_map.mp hg
    have o := ok f hf
    have e : (2 : Nat) ^ 20 = 1048576 := by decide
    have h1 := o.p1
    have h2 := o.p2
    have h3 := o.q1
    have h4 := o.q2
    have h5 := o.a1
    have h6 := o.a2
    have h7 := o.b1
    have h8 := o.b2
    exact ⟨mkQ_sz (by omega) (by omega) (by omega), mkQ_sz (by omega) (by omega) (by omega)⟩
  pos := fun g hg => by
    obtain ⟨f, hf, rfl⟩ := List.mem_map.mp hg
    have o := ok f hf
    have h1 := o.p1
    have h3 := o.q1
    exact mkQ_pos (by omega) (by omega)
  n0 := by decide
  n9 := by decide
end BR
namespace BR
open PySem PySem.Spec PyProof.Rows L2
/-! ### signs -/
def sgnI (i : Int) : Int := if 0 < i then 1 else if i < 0 then -1 else 0
theorem sgnI_eq (i : Int) : (if decide (0 < i) = true then (1 : Int) else 0) - (if decide (i < 0) = true then 1 else 0) = sgnI i := by
  unfold sgnI
  by_cases h1 : 0 < i
  · have h2 : ¬ i < 0 := by omega
    simp [h1, h2]
  · by_cases h2 : i < 0
    · simp [h1, h2]
    · simp [h1, h2]
theorem sgnQ_mkQ {p q : Int} (h : 0 < q) : sgnQ (mkQ p q) = sgnI p := by
  have g := gcd_pos (p := p) h
  have dv : (Int.gcd p q : Int) ∣ p := Int.gcd_dvd_left p q
  obtain ⟨c, hc⟩ := dv
  have e : (mkQ p q).num = c := by
    rw [mkQ_num h]
    exact Int.ediv_eq_of_eq_mul_right (by omega) hc
  unfold sgnQ sgnI
  rw [e]
  generalize (Int.gcd p q : Int) = d at hc g
  have i1 : 0 < c ↔ 0 < p := by
    rw [hc]
    constructor
    · intro z; exact Int.mul_pos g z
    · intro z; exact Int.pos_of_mul_pos_right z (by omega)
  have i2 : c < 0 ↔ p < 0 := by
    rw [hc]
    constructor
    · intro z; exact Int.mul_neg_of_pos_of_neg g z
    · intro z
      by_cases q : c < 0
      · exact q
      · have := Int.mul_nonneg (Int.le_of_lt g) (show 0 ≤ c by omega)
        omega
  simp only [i1, i2]
theorem sgnQ_num (r : Rat) : sgnI r.num = sgnQ r := rfl
theorem sgn_gap {a b c d : Int} (h : 0 < b) (k : 0 < d) : sgnI (a * d - c * b) = sgnQ (mkQ a b - mkQ c d) := by
  rw [← mkQ_sub h k, sgnQ_mkQ (Int.mul_pos h k)]
theorem sgnQ_neg (r : Rat) : sgnQ (-r) = 0 - sgnQ r := by
  unfold sgnQ
  have : (-r).num = - r.num := by simp
  rw [this]
  by_cases h1 : 0 < r.num
  · rw [if_neg (by omega), if_pos (by omega), if_pos h1]; rfl
  · by_cases h2 : r.num < 0
    · rw [if_pos (by omega), if_neg h1, if_pos h2]; rfl
    · rw [if_neg (by omega), if_neg (by omega), if_neg h1, if_neg h2]; rfl
theorem sgnQ_mul {r t : Rat} (h : 0 < t) : sgnQ (r * t) = sgnQ r := by
  have e : r * t = mkQ (r.num * t.num) (r.den * t.den) := by
    rw [mkQ_mul, mkQ_self, mkQ_self]
  have tn : 0 < t.num := by
    rw [Rat.lt_iff] at h
    simpa using h
  rw [e, sgnQ_mkQ (Int.mul_pos (den_pos r) (den_pos t)), ← sgnQ_num]
  unfold sgnI
  have i1 : 0 < r.num * t.num ↔ 0 < r.num := ⟨fun z => Int.pos_of_mul_pos_left z (by omega), fun z => Int.mul_pos z tn⟩
  have i2 : r.num * t.num < 0 ↔ r.num < 0 := by
    constructor
    · intro z
      by_cases q : r.num < 0
      · exact q
      · have := Int.mul_nonneg (show 0 ≤ r.num by omega) (Int.le_of_lt tn)
        omega
    · intro z
      exact Int.mul_neg_of_neg_of_pos z tn
  simp only [i1, i2]
theorem sgnQ_zero : sgnQ 0 = 0 := rfl
theorem sgnQ_eq0 {r : Rat} (h : sgnQ r = 0) : r = 0 := by
  unfold sgnQ at h
  by_cases h1 : 0 < r.num
  · rw [if_pos h1] at h; cases h
  · rw [if_neg h1] at h
    by_cases h2 : r.num < 0
    · rw [if_pos h2] at h; cases h
    · exact Rat.num_eq_zero.mp (by omega)
/-- passing gates from a number on -/
def thrX (gs : List G2) (os : List Int) (x : Rat) : Rat := os.foldl (fun x i => (gAt gs i).1 * x + (gAt gs i).2) x
theorem thrX_snoc (gs : List G2) (os : List Int) (i : Int) (x : Rat) : thrX gs (os ++ [i]) x = (gAt gs i).1 * thrX gs os x + (gAt gs i).2 := by
  unfold thrX
  rw [List.foldl_append]
  rfl
def spThr (R : Rp) : Sp := fun vs H Q _ => ∃ S v fs u os x r n, vs = [v, u, x] ∧ Live S H ∧ FactsAt R S H v fs ∧ Is R S H u (.lst (os.map D.int)) ∧ (∀ i ∈ os, 0 ≤ i ∧ i < (fs.length : Int)) ∧ os.length ≤ 20 ∧ Is R S H x (frac r) ∧ Sz n r ∧ 0 < n ∧ n ≤ 2000 ∧
  ∀ v' H', Same H H' → Is R S H' v' (frac (thrX (fs.map f2) os r)) → Sz (n + 41 * os.length) (thrX (fs.map f2) os r) → Q v' H'
theorem ixFct {R : Rp} {S : Reg} {H : Hp} {v : V} {fs : List F4} {k : Nat} {f : F4} {Q : VK} (h : FactsAt R S H v fs) (e : fs[k]? = some f) (q : ∀ x, Is R S H x (fD f) → Q x H) : rIx R.K v (.int (k : Nat)) H Q := by
  obtain ⟨d, a, b⟩ := h.ex
  exact ixD a b (by rw [List.getElem?_map, e]; rfl) q
theorem gAt_f2 {fs : List F4} {k : Nat} {f : F4} (h : fs[k]? = some f) : gAt (fs.map f2) (k : Int) = f2 f := gAt_nat (by rw [List.getElem?_map, h]; rfl)
theorem max3I (a b c : Int) : ∃ m, nuMax3 (.int a) (.int b) (.int c) = some (.int m) ∧ a ≤ m ∧ b ≤ m ∧ c ≤ m := by
  have e2 : ∀ i j : Int, nuMax2 (.int i) (.int j) = some (.int (if i < j then j else i)) := fun i j => by
    show some (if decide (i < j) = true then V.int j else V.int i) = _
    by_cases h : i < j
    · simp [h]
    · simp [h]
  refine ⟨if (if a < b then b else a) < c then c else (if a < b then b else a), ?_, ?_⟩
  · show (nuMax2 (.int a) (.int b)).bind (fun m => nuMax2 m (.int c)) = _
    rw [e2]
    exact e2 _ _
  · split <;> split <;> omega
end BR
namespace BR
open PySem PySem.Spec PyProof.Rows L2
/-! ### defs whose last parameters have defaults that no call writes -/
structure DefGD (P : Program) (w : World) (K : PySem.W.Frag) (mg : Str → Option Value) (base : Heap) (k : Nat) (x : Str) (ps : List Str) (dvs : List V) (sp : Sp) : Prop where
  ex : ∃ f fd ds, FnOk P w K mg base (L2.CX P w) k f fd ps sp ∧ mg x = some (.ref f) ∧ PySem.W.keepIn K (.ref f) = true ∧ Binds K fd ps ds ∧ Vals dvs ds
structure DefAtD (K : PySem.W.Frag) (mg : Str → Option Value) (x : Str) (st : Stmt) (ps : List Str) (dvs : List V) : Prop where
  ex : ∃ f fd ds, L2.FunD K x x (L2.defArgs st) (L2.defBody st) (L2.defScope st) dvs [] f fd ∧ mg x = some (.ref f) ∧ Binds K fd ps ds ∧ Vals dvs ds
section
variable {X : Cx} {σ : L2.St} {H : Hp} {Q : VK} {k j : Nat} {x : Str} {ps : List Str} {dvs : List V} {sp : Sp} {W : WX} {p1 pos : Pos} {e : Expr} {es : List Expr}
theorem eCallD (G : DefGD X.prog X.w X.K X.mg X.base k x ps dvs sp) (hr : Room j X.A) (tk : Takes X W) (h : wA X (e :: es) σ H fun vs H1 => sp (vs ++ dvs) H1 Q fun c d H' => W c d σ H') (hk : k ≤ j := by decide) (hg : Gl X x := by rfl)
    (hdb : (x == ("__debug__" : Str)) = false := by decide) (he : starEach (e :: es) X.env = (false, eval e X.env) :: starEach es X.env := by rfl) (hpl : (backTo pos (starEach es X.env)).any (·.1) = false := by rfl) :
    wE X (.Call (.Name x p1) (e :: es) [] pos) σ H Q := by
  obtain ⟨f, fd, ds, F, hm, hkp, hb, hd⟩ := G.ex
  exact uE (pe_callSD F (hr.mono hk) hg hm hkp hb hd (passAt tk) (pA _) hdb he hpl) h
end
section
variable {P : Program} {w : World} {K : PySem.W.Frag} {mg : Str → Option Value} {base : Heap} {k : Nat} {x qual : Str} {st : Stmt} {N ps : List Str} {sp : Sp} {dvs : List V}
/-- a def with defaults, its body may raise -/
theorem okRD {f : Addr} {fd : FuncData} (F : L2.FunD K x qual (L2.defArgs st) (L2.defBody st) (L2.defScope st) dvs [] f fd) (S : FnScope N ps (defScope st)) (len : ∀ vs H Q E, sp vs H Q E → vs.length = ps.length)
    (h : ∀ (X : Cx) (H : Hp) (vs : List V) (Q : VK) (E : XK), (∃ cdv A outer s, X = cxOf (L2.CX P w) P w K mg base N qual (defScope st) f cdv A outer s H E) → Room k X.A → Takes X (fun c d _ H' => E c d H') → PassesOwn (model X.prog X.w) X.A X.env X.xe → sp vs H Q E →
      wB X (defBody st) { nx := fun _ H' => Q .non H', rt := Q } (start N vs) H) : FnOk P w K mg base (L2.CX P w) (k + 1) f fd ps sp :=
  F.ok S len fun cdv A outer s H vs Q E hr hs => ⟨_, pB (X := cxOf (L2.CX P w) P w K mg base N qual (defScope st) f cdv A outer s H E) (defBody st), h _ H vs Q E ⟨cdv, A, outer, s, rfl⟩ hr (takes_of rfl rfl rfl rfl) (passes_of rfl) hs⟩
open PySem.W in
/-- one default, an int -/
theorem defAtD_mk {h : Heap} {f T : Addr} {od an dd : Option Addr} {sl sl2 : Array (Option Value)} {oc kV dc pm cd ct tc : Value} {i : Int} {t : Tok} {n : Nat} (X : K.In h) (G : h.Ns mainGlobals mg) {m : Nat} (hm : m + 1 = ps.length)
    (b : ∀ (T : Addr) (kV doc pm : Value) (an : Option Addr) (cdv ct : Value) (us its : List Value), us.length = m → its.length = 1 →
      ∃ k, bindArgs (fnOf x x (L2.defArgs st) (L2.defBody st) (L2.defScope st) (.ref T) kV doc pm an cdv ct) ⟨us, []⟩ = seqItems? (.ref T) >>= k ∧ k (some its.toArray) = pure (ps.zip (us ++ its.drop 0)))
    (a : nsIn K mainGlobals x = some (some (.ref f))) (l : K.lookup f = some ⟨oc, od, .func (fnOf x x (L2.defArgs st) (L2.defBody st) (L2.defScope st) (.ref T) kV dc pm an cd ct), sl⟩) (c : codeIn K cd x = true) (k : keepIn K (.ref f) = true)
    (lT : K.lookup T = some ⟨tc, dd, .seq #[.int i t] n, sl2⟩) : DefAtD K mg x st ps [.int i] := by
  have F : L2.FunD K x x (L2.defArgs st) (L2.defBody st) (L2.defScope st) [.int i] [] f (fnOf x x (L2.defArgs st) (L2.defBody st) (L2.defScope st) (.ref T) kV dc pm an cd ct) :=
    ⟨⟨oc, od, .ref T, kV, dc, pm, an, cd, ct, sl, rfl, l, c, .inr ⟨fun z => (by cases z), T, _, [.int i t], n, rfl, lT, rfl, .cons ⟨t, rfl⟩ .nil⟩, .inl rfl⟩, k⟩
  obtain ⟨ds, h1, h2⟩ := F.binds1 (ps := ps) m 0 (fun z => by cases z) hm b
  exact ⟨f, _, ds, F, mg_of X G a, h2, h1⟩
end
end BR

namespace BR
open PySem PySem.Spec PyProof.Rows L2
/-! ### shuffles -/
theorem plains_ints : ∀ (l : List Int), D.plains (l.map D.int) = true
  | [] => rfl
  | i :: l => by
    show (true && D.plains (l.map D.int)) = true
    rw [plains_ints l]
    rfl
theorem lay_ints : ∀ (l : List Int), PyData.canLayAll0 (D.pys (l.map D.int)) = true
  | [] => by simp [D.pys, PyData.canLayAll0]
  | i :: l => by
    have := lay_ints l
    simp only [List.map, D.pys, D.py, PyData.canLayAll0, this]
    simp [PyData.canLay0]
theorem dep_ints : ∀ (l : List Int), PyData.depthAll (D.pys (l.map D.int)) ≤ 1
  | [] => by simp [D.pys, PyData.depthAll]
  | i :: l => by
    have := dep_ints l
    simp only [List.map, D.pys, D.py, PyData.depthAll, PyData.depth]
    omega
theorem okEq_ints (l : List Int) : (D.lst (l.map D.int)).okEq = true := by
  have h1 := plains_ints l
  have h2 := lay_ints l
  have h3 := dep_ints l
  simp only [D.okEq, D.plain, h1, D.py, SeqAt.shaped, PyData.canLay0, h2, PyData.depth, Bool.true_and, decide_eq_true_iff]
  omega
theorem eqv_ints_nil (l : List Int) : D.eqv (.lst (l.map D.int)) (.lst []) = decide (l = []) := by
  cases l with
  | nil => simp [D.eqv, D.py, D.pys, PyData.eqv, PyData.eqvAll]
  | cons a r => simp [D.eqv, D.py, D.pys, PyData.eqv, PyData.eqvAll]
theorem eraseIdx_map' {α β : Type} (f : α → β) : ∀ (l : List α) (i : Nat), (l.map f).eraseIdx i = (l.eraseIdx i).map f
  | [], _ => rfl
  | _ :: _, 0 => rfl
  | a :: l, i + 1 => by
    show f a :: (l.map f).eraseIdx i = f a :: (l.eraseIdx i).map f
    rw [eraseIdx_map' f l i]
theorem erase_perm {α : Type} : ∀ (l : List α) (i : Nat) (h : i < l.length), (l[i] :: l.eraseIdx i).Perm l
  | a :: l, 0, _ => List.Perm.refl _
  | a :: l, i + 1, h => by
    have := erase_perm l i (by simpa using h)
    exact (List.Perm.swap _ _ _).trans (List.Perm.cons a this)
def spShuf (R : Rp) : Sp := fun vs H Q _ => ∃ (S : Reg) (s : Addr) (v : V) (d : D) (os : List Int), vs = [.ref s, v] ∧ SrcAt H s ∧ Is R S H v d ∧ d.items = some (os.map D.int) ∧ os.length ≤ 1000 ∧ ∀ (q : Addr) (H' : Hp) (os' : List Int), Dr s H H' → H q = none → H' q = some (.lst (os'.map V.int)) → os'.Perm os → Q (.ref q) H'
theorem listOfN {R : Rp} {S : Reg} {H : Hp} {d : D} {ds : List D} {v : V} {Q : VK} (h : Is R S H v d) (hi : d.items = some ds) (q : ∀ p xs, H p = none → IsA R S H xs ds → Q (.ref p) (upd H p (.lst xs))) : rListO R.K [v] H Q := by
  cases d with
  | tup x =>
    cases hi
    obtain ⟨a, xs, rfl, hs, ha⟩ := h.tupE
    exact ⟨a, xs, rfl, .inr hs, fun p hp => q _ _ hp ha⟩
  | lst x =>
    cases hi
    obtain ⟨a, xs, rfl, _, hs, ha⟩ := h.lstE
    exact ⟨a, xs, rfl, .inl (SqL.of hs), fun p hp => q _ _ hp ha⟩
  | _ => cases hi
section
variable {X : Cx} {σ : L2.St} {H : Hp} {e o : Expr} {es : List Expr} {p1 p2 : Pos} {Q : VK}
/-- l.pop(i) -/
theorem ePopAt (h : wE X o σ H fun x H1 => tyV X.K "list" x H1 ∧ wA X (e :: es) σ H1 fun xs H2 => rPopAt x xs H2 Q) (hbase : attributeBase o "pop" X.env (eval o X.env) = eval o X.env := by rfl)
    (hfew : ((backTo p2 (starEach (e :: es) X.env)).all (fun x => !x.1) && (backToKw p2 (keywordEach [] X.env)).all (fun x => x.1.isSome) && decide ((e :: es).length + ([] : List Keyword).length + (if ([] : List Keyword).isEmpty then 0 else 1) < 30)) = true := by rfl) (hline : (p1.endLine == p2.line) = true := by rfl)
    (hst : starEach (e :: es) X.env = (false, eval e X.env) :: starEach es X.env := by rfl) (hplain : (backTo p2 (starEach es X.env)).any (·.1) = false := by rfl) : wE X (.Call (.Attribute o "pop" p1) (e :: es) [] p2) σ H Q :=
  uE (pe_bm PySem.F.plainAttrs_list PySem.F.slot_list_pop PySem.F.type_list_pop mt_popAt (pE o) (pA (e :: es)) hbase hfew hline hst hplain) h
end
end BR
namespace BR
open PySem PySem.Spec PyProof.Rows L2
/-! ### bounded fractions -/
structure Bd (A B : Nat) (r : Rat) : Prop where
  num : r.num.natAbs ≤ A
  den : r.den ≤ B
theorem Bd.mk' {A B : Nat} {p q : Int} (h : 0 < q) (hp : p.natAbs ≤ A) (hq : q.natAbs ≤ B) : Bd A B (mkQ p q) := by
  have g := gcd_pos (p := p) h
  constructor
  · rw [mkQ_num h]
    exact Nat.le_trans (ediv_abs g) hp
  · have e := mkQ_den (p := p) h
    have l : q / (Int.gcd p q : Int) ≤ q := Int.ediv_le_self _ (by omega)
    omega
theorem Bd.mul {A B C E : Nat} {r t : Rat} (h : Bd A B r) (k : Bd C E t) : Bd (A * C) (B * E) (r * t) := by
  have e : r * t = mkQ (r.num * t.num) (r.den * t.den) := by rw [mkQ_mul, mkQ_self, mkQ_self]
  rw [e]
  refine Bd.mk' (Int.mul_pos (den_pos r) (den_pos t)) ?_ ?_
  · rw [Int.natAbs_mul]
    exact Nat.mul_le_mul h.num k.num
  · rw [Int.natAbs_mul]
    exact Nat.mul_le_mul h.den k.den
theorem Bd.add {A B C E : Nat} {r t : Rat} (h : Bd A B r) (k : Bd C E t) : Bd (A * E + C * B) (B * E) (r + t) := by
  have e : r + t = mkQ (r.num * t.den + t.num * r.den) (r.den * t.den) := by rw [mkQ_add (den_pos r) (den_pos t), mkQ_self, mkQ_self]
  rw [e]
  refine Bd.mk' (Int.mul_pos (den_pos r) (den_pos t)) ?_ ?_
  · refine Nat.le_trans (Int.natAbs_add_le _ _) (Nat.add_le_add ?_ ?_)
    · rw [Int.natAbs_mul]
      exact Nat.mul_le_mul h.num k.den
    · rw [Int.natAbs_mul]
      exact Nat.mul_le_mul k.num h.den
  · rw [Int.natAbs_mul]
    exact Nat.mul_le_mul h.den k.den
theorem Bd.neg {A B : Nat} {r : Rat} (h : Bd A B r) : Bd A B (-r) := ⟨by simpa using h.num, by simpa using h.den⟩
theorem Bd.sz {A B n : Nat} {r : Rat} (h : Bd A B r) (a : A < 2 ^ n) (b : B < 2 ^ n) : Sz n r := ⟨Nat.lt_of_le_of_lt h.num a, Nat.lt_of_le_of_lt h.den b⟩
structure F4.Sm (f : F4) : Prop where
  p1 : 1 ≤ f.p
  p2 : f.p ≤ 5
  q1 : 1 ≤ f.q
  q2 : f.q ≤ 4
  a1 : -9 ≤ f.a
  a2 : f.a ≤ 9
  b1 : 1 ≤ f.b
  b2 : f.b ≤ 4
theorem F4.Sm.ok {f : F4} (h : f.Sm) : f.Ok := ⟨h.p1, by have := h.p2; omega, h.q1, by have := h.q2; omega, by have := h.a1; omega, by have := h.a2; omega, h.b1, by have := h.b2; omega⟩
theorem F4.Sm.bf {f : F4} (h : f.Sm) : Bd 5 4 (f2 f).1 := by
  have h1 := h.p1
  have h2 := h.p2
  have h3 := h.q1
  have h4 := h.q2
  exact Bd.mk' (by omega) (by omega) (by omega)
theorem F4.Sm.ba {f : F4} (h : f.Sm) : Bd 9 4 (f2 f).2 := by
  have h1 := h.a1
  have h2 := h.a2
  have h3 := h.b1
  have h4 := h.b2
  exact Bd.mk' (by omega) (by omega) (by omega)
/-- a gate measured otherwise -/
def msQ (c d : Rat) (g : G2) : G2 := (g.1, c * g.2 + (d + -(g.1 * d)))
def spGate8 (R : Rp) : Sp := fun vs H Q _ => ∃ (s : Addr), vs = [.ref s] ∧ SrcAt H s ∧ ∀ v' H' f, Dr s H H' → Is R (Src s) H' v' (fD f) → f.Sm → Q v' H'
def spMeas (R : Rp) : Sp := fun vs H Q _ => ∃ (S : Reg) (v u t : V) (f : F4) (c d : Rat), vs = [v, u, t] ∧ Live S H ∧ Is R S H v (fD f) ∧ Is R S H u (frac c) ∧ Is R S H t (frac d) ∧ f.Sm ∧ Bd 7 5 c ∧ Bd 10 3 d ∧
  ∀ v' H' f', Same H H' → Is R S H' v' (fD f') → F4.Ok f' → f2 f' = msQ c d (f2 f) → Q v' H'
end BR
namespace BR
open PySem PySem.Spec PyProof.Rows L2
/-! ### orders from shuffled indexes -/
abbrev idsI (n : Nat) : List Int := (List.range n).map fun (k : Nat) => (k : Int)
theorem ids_nodup (n : Nat) : (idsI n).Nodup := by
  refine List.Pairwise.map _ ?_ List.nodup_range
  intro a b h z
  exact h (by omega)
theorem ordB_perm {n : Nat} {os : List Int} (h : os.Perm (idsI n)) : ordB n os = true := by
  refine ordB_iff.mpr ⟨?_, ?_, ?_⟩
  · rw [h.length_eq, List.length_map, List.length_range]
  · intro i hi
    have := h.mem_iff.mp hi
    obtain ⟨k, hk, rfl⟩ := List.mem_map.mp this
    have := List.mem_range.mp hk
    omega
  · exact h.nodup_iff.mpr (ids_nodup n)
end BR

namespace BR
open PySem PySem.Spec PyProof.Rows L2
/-! ### list(range(n)); comprehensions whose turns draw -/
theorem rgV_ids (n : Nat) : rgV 0 (n : Int) = (idsI n).map V.int := by
  unfold rgV idsI
  rw [List.map_map, Int.sub_zero, Int.toNat_natCast]
  refine List.map_congr_left fun i _ => ?_
  show V.int (0 + (i : Int)) = V.int (i : Int)
  rw [Int.zero_add]
section
variable {X : Cx} {σ : L2.St} {H : Hp} {a : Expr} {p p2 pos pos2 : Pos} {Q : VK}
theorem eListRange (mL : X.mg "list" = none) (mR : X.mg "range" = none) (h : wE X a σ H fun x H1 => ∃ n : Nat, x = .int (n : Nat) ∧ n ≤ 1000 ∧ ∀ q, H1 q = none → Q (.ref q) (upd H1 q (.lst ((idsI n).map V.int))))
    (hc : X.calm = true := by rfl) (hg : Gl X "list" := by rfl) (hg2 : Gl X "range" := by rfl)
    (na : starEach [.Call (.Name "range" p2) [a] [] pos2] X.env = (false, eval (.Call (.Name "range" p2) [a] [] pos2) X.env) :: starEach [] X.env := by rfl) (nb : starEach [a] X.env = (false, eval a X.env) :: starEach [] X.env := by rfl) :
    wE X (.Call (.Name "list" p) [.Call (.Name "range" p2) [a] [] pos2] [] pos) σ H Q := by
  refine uE (pe_listRg hc hg mL (prg_1 hg2 mR (pE a) nb) na) (h.mono fun x H1 ⟨n, e, h9, q⟩ => ⟨n, e, RgOk.of_le (by omega) (by omega) (by omega) (by omega), fun z hz => ?_⟩)
  rw [rgV_ids]
  exact q z hz
end
section
variable {X : Cx} {σ : L2.St} {R : Rp} {T : Reg} {Fin : Hp → Prop} {Gr : Hp → Hp → Prop} {L : Addr} {H1 : Hp} {J : It} {n : Nat} {G : Hp → Prop} {Y : Nat → Hp → V → Hp → Prop} {sc : Scope} {elt tg : Expr} {own : List (Str × Nat)} {Q : Hp → Prop}
/-- each turn's value is one of many -/
theorem lcP (wk : Walk J n G Y) (P : Nat → D → Prop) (h9 : n ≤ 1000) (F : Fills Fin Gr T L H1) (hG : ∀ H, Fin H → G H)
    (st : ∀ i x H H', i < n → Fin H → Y i H x H' → (∀ us, H' L = some (.lst us) → kG X sc tg x (wipe σ (own.map (·.2))) H' fun σ2 H2 => wipe σ2 (own.map (·.2)) = wipe σ (own.map (·.2)) ∧ H2 = H' ∧ kE X sc elt σ2 H2 fun y H4 => Gr H' H4 ∧ ∃ e, P i e ∧ Is R T H4 y e) ∧ Gr H H')
    (hd : ∀ H xs es, Fin H → H L = some (.lst xs) → es.length = n → (∀ i e, es[i]? = some e → P i e) → IsA R T H xs es → Q H) :
    ∃ n G Y, Walk J n G Y ∧ ∃ Pv : Nat → Hp → Prop, Pv 0 (upd H1 L (.lst [])) ∧ (∀ i H, i ≤ n → Pv i H → G H) ∧
      (∀ i x H H', i < n → Pv i H → Y i H x H' → kG X sc tg x (wipe σ (own.map (·.2))) H' fun σ2 H2 => wipe σ2 (own.map (·.2)) = wipe σ (own.map (·.2)) ∧
        kT X sc [] σ2 H2 fun k H3 => if k = true then kE X sc elt σ2 H3 fun y H4 => ∃ acc, H4 L = some (.lst acc) ∧ acc.length < sizeLine ∧ Pv (i + 1) (upd H4 L (.lst (acc ++ [y]))) else Pv (i + 1) H3) ∧
      ∀ H, Pv n H → Q H := by
  refine ⟨n, G, Y, wk, fun i H => Fin H ∧ ∃ acc es, H L = some (.lst acc) ∧ es.length = i ∧ (∀ j e, es[j]? = some e → P j e) ∧ IsA R T H acc es, ⟨F.start, [], [], upd_same, rfl, fun j e z => by simp at z, .nil⟩, fun i H _ p => hG H p.1, ?_, ?_⟩
  · rintro i x H H' hi ⟨hF, acc, es, hL, hl, hP, ia⟩ y
    obtain ⟨go, gr⟩ := st i x H H' hi hF y
    have hF' := F.grow hF gr
    have hL' := F.at_ hF gr hL
    have g := go _ hL'
    intro s0 H0 C cl fp
    refine ⟨fun pins s u I r => thn ((g s0 H0 C cl fp).r pins s u I r) fun _ s' ⟨σ', H2, I', e1, e2, k⟩ => ⟨σ', H2, I', e1, ?_⟩⟩
    subst e2
    refine kTnil (iteT ?_)
    intro s0 H0 C cl fp
    refine (k s0 H0 C cl fp).mono fun v H4 ⟨gr4, d, pd, iv⟩ => ⟨acc, F.at_ hF' gr4 hL', ?_, F.app (F.grow hF' gr4), acc ++ [v], es ++ [d], upd_same, ?_, ?_, ?_⟩
    · rw [ia.len]
      exact small1000 (by omega)
    · rw [List.length_append, hl]
      rfl
    · intro j e z
      by_cases hj : j < es.length
      · rw [List.getElem?_append_left hj] at z
        exact hP j e z
      · rw [List.getElem?_append_right (by omega)] at z
        have : j - es.length = 0 := by
          have := (List.getElem?_eq_some_iff.mp z).1
          simp at this
          omega
        rw [this] at z
        cases z
        rw [show j = i by omega]
        exact pd
    · have kp := (F.kp hF gr).trans (F.kp hF' gr4)
      have kl : Kp T H4 (upd H4 L (.lst (acc ++ [v]))) := fun a o n e => by
        rw [upd_ne (fun z => n (by rw [z]; exact F.inT))]
        exact e
      exact ((ia.go kp).go kl).app (.cons (iv.go kl) .nil)
  · rintro H ⟨hF, acc, es, hL, hl, hP, ia⟩
    exact hd H acc es hF hL hl hP ia
end
/-- where the turns draw -/
theorem fills_dr {H1 : Hp} {L s : Addr} (hL : H1 L = none) (hs : SrcAt H1 s) : Fills (fun H => Dr s H1 H) (Dr s) (fun a => a = s ∨ a = L) L H1 where
  start := Dr.same hs (same_new hL)
  grow := fun a b => a.trans b
  app := fun {H xs} a => by
    have n : s ≠ L := fun z => by
      obtain ⟨_, _, _, e⟩ := hs
      rw [z, hL] at e
      cases e
    refine ⟨fun b o nb e => ?_, ?_⟩
    · rw [upd_ne (ne_of_none e hL)]
      exact a.kp _ _ nb e
    · obtain ⟨x, y, z, e⟩ := a.src
      exact ⟨x, y, z, by rw [upd_ne n]; exact e⟩
  kp := fun _ b a o n e => b.kp a o (fun z => n (.inl z)) e
  at_ := fun {H H' o} a b e => b.kp _ _ (fun z => by
    obtain ⟨_, _, _, q⟩ := hs
    rw [show L = s from z] at hL
    rw [hL] at q
    cases q) e
  inT := .inr rfl
theorem Is.atNew {R : Rp} {T : Reg} {H H' : Hp} {q : Addr} {is : List Int} (l : Live T H) (hq : H q = none) (e : H' q = some (.lst (is.map V.int))) : Is R T H' (.ref q) (.lst (is.map D.int)) := .lst (l.new hq) e IsA.ints
theorem fD_reg {R : Rp} {S T : Reg} {H : Hp} {v : V} {f : F4} (h : Is R S H v (fD f)) (k : ∀ a, T a → S a ∨ ∃ xs, H a = some (.lst xs)) : Is R T H v (fD f) := by
  have hI : ∀ {xs : List V} {is : List Int}, IsA R S H xs (is.map D.int) → IsA R T H xs (is.map D.int) := fun ha => by rw [IsA.of_ints ha]; exact IsA.ints
  have one : ∀ {v : V} {is : List Int}, Is R S H v (.tup (is.map D.int)) → Is R T H v (.tup (is.map D.int)) := fun h => by
    cases h with
    | tup n e ha => exact .tup (fun z => (k _ z).elim n fun ⟨_, y⟩ => by rw [e] at y; cases y) e (hI ha)
    | tupK e ha => exact .tupK e (hI ha)
  have both : ∀ {xs : List V}, IsA R S H xs [.tup [.int f.p, .int f.q], .tup [.int f.a, .int f.b]] → IsA R T H xs [.tup [.int f.p, .int f.q], .tup [.int f.a, .int f.b]] := fun ha => by
    cases ha with
    | cons a ha =>
      cases ha with
      | cons b ha =>
        cases ha
        exact .cons (one (is := [f.p, f.q]) a) (.cons (one (is := [f.a, f.b]) b) .nil)
  cases h with
  | tup n e ha => exact .tup (fun z => (k _ z).elim n fun ⟨_, y⟩ => by rw [e] at y; cases y) e (both ha)
  | tupK e ha => exact .tupK e (both ha)
theorem Dr.liveL {s L : Addr} {H : Hp} (h : SrcAt H s) (l : H L ≠ none) : Live (fun a => a = s ∨ a = L) H := live_or h.live l
/-- a list of what was drawn -/
theorem unzipP {α : Type} {g : α → D} {P : Nat → α → Prop} : ∀ (es : List D), (∀ i e, es[i]? = some e → ∃ a, e = g a ∧ P i a) → ∃ as : List α, es = as.map g ∧ ∀ i a, as[i]? = some a → P i a := by
  intro es
  induction es generalizing P with
  | nil => exact fun _ => ⟨[], rfl, fun i a z => by simp at z⟩
  | cons e es ih =>
    intro h
    obtain ⟨a, rfl, pa⟩ := h 0 _ rfl
    obtain ⟨as, rfl, hp⟩ := ih (P := fun i => P (i + 1)) (fun i e z => h (i + 1) e (by simpa using z))
    refine ⟨a :: as, rfl, fun i b z => ?_⟩
    cases i with
    | zero => simp at z; subst z; exact pa
    | succ i => exact hp i b (by simpa using z)
end BR

namespace BR
open PySem PySem.Spec PyProof.Rows L2
/-! ### pairs of fractions that are gates; the second family's helpers -/
structure POk (g : G2) : Prop where
  pos : 0 < g.1
  f : Bd 1000000 1000000 g.1
  a : Bd 1000000 1000000 g.2
def F4.of (g : G2) : F4 := ⟨g.1.num, g.1.den, g.2.num, g.2.den⟩
theorem fD_of (g : G2) : fD (F4.of g) = vD g := rfl
theorem f2_of (g : G2) : f2 (F4.of g) = g := Prod.ext (mkQ_self _) (mkQ_self _)
theorem POk.ok {g : G2} (h : POk g) : (F4.of g).Ok := by
  have h1 := h.f.num
  have h2 := h.f.den
  have h3 := h.a.num
  have h4 := h.a.den
  have h5 : 0 < g.1.num := by
    have := h.pos
    rw [Rat.lt_iff] at this
    simpa using this
  have h6 := den_pos g.1
  have h7 := den_pos g.2
  exact ⟨by show 1 ≤ g.1.num; omega, by show g.1.num ≤ 1000000; omega, by show (1 : Int) ≤ (g.1.den : Int); omega, by show (g.1.den : Int) ≤ 1000000; omega, by show -1000000 ≤ g.2.num; omega, by show g.2.num ≤ 1000000; omega, by show (1 : Int) ≤ (g.2.den : Int); omega, by show (g.2.den : Int) ≤ 1000000; omega⟩
theorem POk.mk4 {p q a b : Int} (p1 : 1 ≤ p) (p2 : p ≤ 1000000) (q1 : 1 ≤ q) (q2 : q ≤ 1000000) (a1 : -1000000 ≤ a) (a2 : a ≤ 1000000) (b1 : 1 ≤ b) (b2 : b ≤ 1000000) : POk (mkQ p q, mkQ a b) :=
  ⟨mkQ_pos (by omega) (by omega), Bd.mk' (by omega) (by omega) (by omega), Bd.mk' (by omega) (by omega) (by omega)⟩
theorem POk.sz {g : G2} (h : POk g) : Sz 20 g.1 ∧ Sz 20 g.2 := ⟨h.f.sz (by decide) (by decide), h.a.sz (by decide) (by decide)⟩
theorem of_map (gs : List G2) : ((gs.map F4.of).map f2) = gs := by
  rw [List.map_map]
  have : f2 ∘ F4.of = id := funext fun g => f2_of g
  rw [this, List.map_id]
theorem of_mapD (gs : List G2) : (gs.map F4.of).map fD = gs.map vD := by
  rw [List.map_map]
  rfl
structure PairsAt (R : Rp) (S : Reg) (H : Hp) (v : V) (gs : List G2) : Prop where
  ex : Is R S H v (.lst (gs.map vD))
  lo : 1 ≤ gs.length
  hi : gs.length ≤ 8
  ok : ∀ g ∈ gs, POk g
theorem PairsAt.go {R : Rp} {S : Reg} {H H' : Hp} {v : V} {gs : List G2} (h : PairsAt R S H v gs) (k : Kp S H H') : PairsAt R S H' v gs := { h with ex := h.ex.go k }
theorem PairsAt.up {R : Rp} {S : Reg} {H H' : Hp} {v : V} {gs : List G2} (h : PairsAt R S H v gs) (k : Same H H') : PairsAt R S H' v gs := h.go (Kp.of k)
theorem PairsAt.facts {R : Rp} {S : Reg} {H : Hp} {v : V} {gs : List G2} (h : PairsAt R S H v gs) : FactsAt R S H v (gs.map F4.of) where
  ex := ⟨_, h.ex, by rw [of_mapD]; rfl⟩
  lo := by rw [List.length_map]; exact h.lo
  hi := by rw [List.length_map]; exact h.hi
  ok := fun f hf => by
    obtain ⟨g, hg, rfl⟩ := List.mem_map.mp hf
    exact (h.ok g hg).ok
def spGates (R : Rp) : Sp := fun vs H Q _ => ∃ S v gs, vs = [v] ∧ Live S H ∧ PairsAt R S H v gs ∧ ∀ v' H', Same H H' → Is R S H' v' (.lst (gs.map gD)) → GatesAt R S H' v' gs 20 → Q v' H'
def spShufB : Sp := fun vs H Q _ => ∃ (s : Addr) (n : Nat), vs = [.ref s, .int (n : Nat)] ∧ SrcAt H s ∧ n ≤ 1000 ∧ ∀ (q : Addr) (H' : Hp) (os' : List Int), Dr s H H' → H q = none → H' q = some (.lst (os'.map V.int)) → os'.Perm (idsI n) → Q (.ref q) H'
def spWithRest (R : Rp) : Sp := fun vs H Q _ => ∃ (S : Reg) (v u : V) (m : Rat) (g : G2), vs = [v, u] ∧ Live S H ∧ Is R S H v (frac m) ∧ Is R S H u (vD g) ∧ 0 < m ∧ Bd 1000000 1000000 m ∧ POk g ∧ ∀ v' H' g', Same H H' → Is R S H' v' (vD g') → POk g' → Q v' H'
def spAlike (R : Rp) : Sp := fun vs H Q _ => ∃ (s : Addr) (v : V) (gs : List G2) (w : Int), vs = [.ref s, v, .int w] ∧ SrcAt H s ∧ PairsAt R (Src s) H v gs ∧ ∀ q H' gs', Dr s H H' → H q = none → gs'.length = gs.length → PairsAt R (Src s) H' (.ref q) gs' → Q (.ref q) H'
def spPairs (R : Rp) : Sp := fun vs H Q _ => ∃ (s : Addr) (n : Nat) (w : Int), vs = [.ref s, .int (n : Nat), .int w] ∧ SrcAt H s ∧ 1 ≤ n ∧ n ≤ 8 ∧ ∀ q H' gs', Dr s H H' → H q = none → gs'.length = n → PairsAt R (Src s) H' (.ref q) gs' → Q (.ref q) H'
theorem vD_reg {R : Rp} {S T : Reg} {H : Hp} {v : V} {g : G2} (h : Is R S H v (vD g)) (k : ∀ a, T a → S a ∨ ∃ xs, H a = some (.lst xs)) : Is R T H v (vD g) := fD_reg (f := F4.of g) h k
theorem IsA.set {R : Rp} {S : Reg} {H : Hp} {v : V} {d : D} : ∀ {vs : List V} {ds : List D} {i : Nat}, IsA R S H vs ds → Is R S H v d → IsA R S H (vs.set i v) (ds.set i d)
  | _, _, _, .nil, _ => .nil
  | _, _, 0, .cons _ b, h => .cons h b
  | _, _, i + 1, .cons a b, h => .cons a (IsA.set (i := i) b h)
theorem ixN_nat {n j : Nat} (h : j < n) : ixN n (j : Int) = some j := by
  unfold ixN
  rw [if_pos (by omega), if_pos (by omega), Int.toNat_natCast]
theorem absQ (i : Int) : (if i < 0 then -i else i) = i.natAbs := by split <;> omega
theorem max2I (a b : Int) : (if b > a then b else a) = max a b := by
  rw [Int.max_def]
  split <;> split <;> omega
theorem call_max2I {X : Cx} (hc : X.calm = true) : CallR X (.builtin "max") (fun xs H Q => ∃ i j, xs = [.int i, .int j] ∧ Q (.int (max i j)) H) := by
  intro pins s σ H xs us Q I r h
  obtain ⟨i, j, e, q⟩ := h
  exact call_max2 hc pins s σ H xs us Q I r ⟨i, j, e, by rw [max2I]; exact q⟩
theorem vD_ix0 {R : Rp} {S : Reg} {H : Hp} {v : V} {p : G2} {Q : VK} (h : Is R S H v (vD p)) (q : ∀ x, Is R S H x (frac p.1) → Q x H) : rIx R.K v (.int 0) H Q := (ix2 h).1 q
theorem vD_ix1 {R : Rp} {S : Reg} {H : Hp} {v : V} {p : G2} {Q : VK} (h : Is R S H v (vD p)) (q : ∀ x, Is R S H x (frac p.2) → Q x H) : rIx R.K v (.int 1) H Q := (ix2 h).2 q
section
variable {X : Cx} {σ : L2.St} {H : Hp} {D : Ends} {st : Stmt} {sts : List Stmt}
/-- a statement, and what holds behind it, however it got there -/
theorem bMid (Mid : L2.St → Hp → Prop) (h : wS X st { D with nx := Mid } σ H) (k : ∀ σ' H', Mid σ' H' → wB X sts D σ' H') : wB X (st :: sts) D σ H :=
  bCons ⟨fun pins s I => thn (h.r pins s I) fun f s' q => by
    cases f with
    | next =>
      obtain ⟨σ', H', I', q⟩ := q
      exact ⟨σ', H', I', k σ' H' q⟩
    | brk => exact q
    | cont => exact q
    | ret u => exact q⟩
end
end BR

namespace BR
open PySem PySem.Spec PyProof.Rows L2
/-! ### enumerate of a tuple -/
abbrev ndT (a : Addr) : Obj := { cls := .type "tuple_iterator", data := .fields #[.ref a, .int 0 0] }
abbrev ndE (z : Addr) : Obj := { cls := .type "enumerate", data := .fields #[.none, .bool false, .ref z, rawInt 0, .none, .none] }
theorem enumT_new (a : Addr) (xs : Array Value) : Meets (Builtin.«enumerate.__new__» ⟨[.type "enumerate", .ref a], []⟩)
    (fun _ Z q => q.heap.IsTuple a xs ∧ Z (.ok (.ret (.ref (q.heap.push (ndT a)).objs.size))) { q with heap := (q.heap.push (ndT a)).push (ndE q.heap.objs.size) }) :=
  .of_wp fun pr ww AA Z q hh => by
    obtain ⟨h1, g1, d1, t1, o1⟩ := q
    obtain ⟨ht, hz⟩ := hh
    have sb := sub_enumerate
    have it : ∀ {B : Around} {E : Value → Shared → Prop} {Q : Value → Shared → Prop}, Q (.ref h1.objs.size) ⟨h1.push (ndT a), g1, d1, t1, o1⟩ → wpAny (model pr ww) B (pyIter (.ref a)) Q E ⟨h1, g1, d1, t1, o1⟩ := fun q => (begins_tuple a xs).iter pr ww _ _ ⟨h1, g1, d1, t1, o1⟩ _ ht q
    wp_walk using it
    refine wpAny_stack_any fun _ => wpAny_pure ?_
    split
    · next c _ _ _ _ _ =>
      cases (c == Value.type "enumerate") <;> (wp_walk using it; exact ⟨_, rfl, hz⟩)
    · wp_walk using it
      exact ⟨_, rfl, hz⟩
theorem enumT_call {pr : Program} {ww : World} {B : Around} {E : Value → Shared → Prop} {q : Shared} {a : Addr} {xs : Array Value} {Q : Value → Shared → Prop} (ht : q.heap.IsTuple a xs)
    (k : ∀ h', IsEnum h' (q.heap.objs.size + 1) q.heap.objs.size 0 .none → h'.IsTupleIter q.heap.objs.size a 0 → h'.objs.size = q.heap.objs.size + 2 → (∀ b o, q.heap.get? b = some o → h'.get? b = some o) → Q (.ref (q.heap.objs.size + 1)) { q with heap := h' }) :
    wpAny (model pr ww) B (call (.type "enumerate") [.ref a]) Q E q := by
  refine callType_new F.called_enumerate (by decide) (F.typeCall_enumerate_1 _) (F.newCall_enumerate_1 _) (fun o => F.args_object_init_2 o _) F.entry_enumerate_new (enumT_new a xs) ⟨ht, ?_⟩
  have z : (q.heap.push (ndT a)).objs.size = q.heap.objs.size + 1 := Heap.size_push ..
  show _ ∧ _
  rw [z]
  have e1 : IsEnum ((q.heap.push (ndT a)).push (ndE q.heap.objs.size)) (q.heap.objs.size + 1) q.heap.objs.size 0 .none := by
    have w := Heap.get?_push_size (q.heap.push (ndT a)) (o := ndE q.heap.objs.size) rfl
    rw [z] at w
    exact w
  exact ⟨⟨_, e1, rfl⟩, k _ e1 ⟨_, Heap.get?_push_of_some _ (Heap.get?_push_size _ rfl), rfl, rfl⟩ (by rw [Heap.size_push, z]) fun b o y => Heap.get?_push_of_some _ (Heap.get?_push_of_some _ y)⟩
/-- the tuple at a, each item in a new pair -/
def IteT (K : PySem.W.Frag) (a : Addr) : It where
  go := fun i H => ∃ (xs : List V) (x : V), SqT K H a xs ∧ xs[i]? = some x
  yld := fun i H v H' => ∃ T x, v = .ref T ∧ H T = none ∧ H' = upd H T (.tup [.int (i : Nat), x]) ∧ ∀ xs, SqT K H a xs → xs[i]? = some x
  stop := fun i H => ∃ xs : List V, SqT K H a xs ∧ xs.length = i
theorem turnT {P : Program} {w : World} {K : PySem.W.Frag} {elts : List Expr} {kk : Nat} {tpos : Pos} (a e z : Addr) :
    Turn P w K (.Tuple elts kk tpos) (IteT K a) [e, z] e (fun i h => (∃ old, IsEnum h e z ((i : Nat) : Int) old) ∧ h.IsTupleIter z a i ∧ e ≠ z ∧ e ≠ a ∧ a ≠ z) where
  mem := by simp
  obj := fun i h st b hb => by
    obtain ⟨⟨_, h1⟩, ⟨o, h2, _, h4⟩, _⟩ := st
    have c : b = e ∨ b = z := by simpa using hb
    rcases c with rfl | rfl
    · exact ⟨_, h1, fun v q => nomatch q⟩
    · exact ⟨o, h2, fun v q => by rw [h4] at q; cases q⟩
  keep := fun i h h' st k => ⟨st.1.imp fun _ q => k e (by simp) _ q, st.2.1.at fun o q => k z (by simp) o q, st.2.2⟩
  item := by
    intro X hP hw hK hc i pins q σ H E I hf st hg
    subst hP hw hK
    obtain ⟨⟨old, h1⟩, h2, n1, n2, n3⟩ := st
    obtain ⟨xs, x, hq, hx⟩ := hg
    obtain ⟨its, rv, p, hz⟩ := I.tuple hq
    obtain ⟨u, hu, ru⟩ := rv.get hx
    have le : e < q.heap.objs.size := Heap.lt_size h1
    have lz : z < q.heap.objs.size := by
      obtain ⟨_, y, _⟩ := h2
      exact Heap.lt_size y
    have li : i < its.toArray.size := by
      rw [List.size_toArray]
      exact (List.getElem?_eq_some_iff.mp hu).1
    refine wpAny_pyNext_enum_itemD (Draws.tuple (A := X.A.in1) (show X.A.in1.handled = none from I.ok.hd hc) z a n3 its.toArray) h1 ⟨h2, p⟩ li n1 (by simp [n1, n2]) fun u' h' tk hu' ho hst hT hsz hk => ?_
    have eu : u' = u := by
      have : its[i]? = some u' := by simpa using hu'
      rw [hu] at this
      exact (Option.some.inj this).symm
    subst eu
    refine ⟨_, rfl, wpAny_letOwnedTupleGo_enum (s := { q with heap := h', toks := tk + 1 }) ho fun h2' he' sb => ?_⟩
    have hT2 : h2'.get? q.heap.objs.size = some { cls := .type "tuple", data := .seq #[.int i tk, u'] } := (sb.2 _ (Nat.ne_of_gt le)).trans hT
    have nw : ObjOk X.prog X.w (upd H q.heap.objs.size (.tup [.int (i : Nat), x])) h2' q.heap.objs.size (.tup [.int (i : Nat), x]) := ⟨by show 2 ≤ sizeLine; decide, [.int i tk, u'], .cons ⟨_, rfl⟩ (.cons ru .nil), ⟨_, hT2, rfl, _, rfl⟩⟩
    have I1 : Inv X pins σ (upd H q.heap.objs.size (.tup [.int (i : Nat), x])) { q with heap := h2', toks := tk + 1 } :=
      I.turnedNew (ch := [e, z]) (fun b ob hb y => (sb.2 b (fun c => hb (by simp [c]))).trans (hk b ob (fun c => hb (by simp [c])) (fun c => hb (by simp [c])) y)) hf (Nat.le_refl _) nw
    refine ⟨.ref q.heap.objs.size, _, I1, rfl, ⟨_, x, rfl, I.hok.fresh (Nat.le_refl _), rfl, fun ys hy => by rw [I.tuple_inj hy hq]; exact hx⟩, ⟨⟨u', ?_⟩, hst.1.at fun o y => (sb.2 z (Ne.symm n1)).trans y, n1, n2, n3⟩, fun b hb => ?_⟩
    · have e1 : ((i + 1 : Nat) : Int) = (i : Int) + 1 := by omega
      rw [e1]
      exact he'
    · have c : b = e ∨ b = z := by simpa using hb
      have : b < q.heap.objs.size := by
        rcases c with rfl | rfl
        · exact le
        · exact lz
      rw [upd_ne (Nat.ne_of_lt this)]
      exact (hf b hb).1
  done := by
    intro X hP hw hK hc i pins q σ H E I hf st hg
    subst hP hw hK
    obtain ⟨⟨old, h1⟩, h2, n1, n2, n3⟩ := st
    obtain ⟨xs, hq, rfl⟩ := hg
    obtain ⟨its, rv, p, hz⟩ := I.tuple hq
    obtain ⟨f0, f1, f2, f3, f4, f5⟩ := hf z (by simp)
    have hl : xs.length = its.toArray.size := by
      rw [List.size_toArray]
      exact rv.length
    refine wpAny_pyNext_enum_endD (Draws.tuple (A := X.A.in1) (show X.A.in1.handled = none from I.ok.hd hc) z a n3 its.toArray) h1 ⟨by rw [← hl]; exact h2, p⟩ fun h' eb => ⟨rfl, I.turned (t' := q.toks) (fun b o hb y => eb b o hb y) f0 f1 f3 f4 f5⟩
  self := fun A i q Q E st h => let ⟨⟨_, y⟩, _⟩ := st; wpAny_pyIter_enum y h
theorem enumT_pi {X : Cx} {e : Expr} {p pos tpos : Pos} {elts : List Expr} {kk : Nat} {σ : L2.St} {H : Hp} {T : It → Hp → Prop} (hm : X.mg "enumerate" = none) (h : wE X e σ H fun v H1 => ∃ a xs, v = .ref a ∧ SqT X.K H1 a xs ∧ T (IteT X.K a) H1)
    (hg : Gl X "enumerate" := by rfl) (hs : starEach [e] X.env = [(false, eval e X.env)] := by rfl) : wI X (.Tuple elts kk tpos) (.Call (.Name "enumerate" p) [e] [] pos) σ H T := by
  refine ⟨fun pins s I => ?_⟩
  have hA : wA X [e] σ H (fun vs H2 => ∃ a xs, vs = [.ref a] ∧ SqT X.K H2 a xs ∧ T (IteT X.K a) H2) := aCons (h.mono fun v H1 ⟨a, xs, ev, y⟩ => aNil ⟨a, xs, by rw [ev], y⟩) hs
  refine Call_ (ld_blt I hg hm boot_enumerate (PyProof.Rows.callWith_type1 (thn (hA.r pos pins s I) fun us s1 ⟨vs, H1, I1, r1, q1⟩ => ?_) hs rfl))
  obtain ⟨a, xs, ex, hq, q⟩ := q1
  subst ex
  obtain ⟨u, rfl, ru⟩ := vals1 r1
  cases ru
  obtain ⟨its, rv, p', hz⟩ := I1.tuple hq
  have la : a < s1.heap.objs.size := by
    obtain ⟨_, y, _⟩ := p'
    exact Heap.lt_size y
  refine enumT_call p' fun h' y1 y2 y3 y4 => wpAny_pyIter_enum y1 ?_
  have I2 : Inv X pins σ H1 { s1 with heap := h' } := I1.kept (t' := s1.toks) y4
  have na : s1.heap.objs.size + 1 ≠ a := fun z => absurd la (by rw [← z]; exact Nat.not_lt.mpr (Nat.le_succ _))
  have nz : a ≠ s1.heap.objs.size := Nat.ne_of_lt la
  refine ⟨s1.heap.objs.size + 1, [s1.heap.objs.size + 1, s1.heap.objs.size], _, _, H1, rfl, I2, turnT a (s1.heap.objs.size + 1) s1.heap.objs.size, ⟨⟨.none, y1⟩, y2, Nat.succ_ne_self _, na, nz⟩, fun b hb => ?_, q⟩
  have c : b = s1.heap.objs.size + 1 ∨ b = s1.heap.objs.size := by simpa using hb
  have l : s1.heap.objs.size ≤ b := by
    rcases c with rfl | rfl
    · exact Nat.le_add_right _ _
    · exact Nat.le_refl _
  exact I1.fpOk l (I1.hok.fresh l)
theorem walkT {K : PySem.W.Frag} {a : Addr} {xs : List V} : Walk (IteT K a) xs.length (fun H => SqT K H a xs) (YPair (fun i => some (.int (i : Nat))) (fun i => xs[i]?)) := by
  refine ⟨fun i _ hi q => ⟨xs, xs[i], q, by simp [hi]⟩, fun _ q => ⟨xs, q, rfl⟩, fun i H v H' _ q y => ?_⟩
  obtain ⟨T, x, h1, h2, h3, h4⟩ := y
  exact ⟨T, .int (i : Nat), x, h1, h2, h3, rfl, h4 xs q⟩
/-- enumerate of a list or a tuple that a name holds -/
theorem iEnumV {X : Cx} {R : Rp} {S : Reg} {σ : L2.St} {H : Hp} {x : Str} {v : V} {d : D} {ds : List D} {p pos tpos p3 : Pos} {elts : List Expr} {kk : Nat} {T : It → Hp → Prop} (i : Nat) (hs : σ[i]? = some (some v)) (hK : X.K = R.K) (hm : X.mg "enumerate" = none)
    (hi : Is R S H v d) (hd : d.items = some ds) (q : ∀ J xs, IsA R S H xs ds → Walk J xs.length (fun H' => Kp S H H') (YPair (fun i => some (.int (i : Nat))) (fun i => xs[i]?)) → T J H)
    (hN : X.N[i]? = some x := by rfl) (hv : Vis X.env.scope x := by first | exact Or.inl rfl | exact Or.inr (Or.inl rfl) | exact Or.inr (Or.inr rfl)) (hdb : (x == ("__debug__" : Str)) = false := by decide) (hcd : (x == ("__classdict__" : Str)) = false := by decide)
    (hg : Gl X "enumerate" := by rfl) (hs2 : starEach [.Name x p3] X.env = [(false, eval (.Name x p3) X.env)] := by rfl) : wI X (.Tuple elts kk tpos) (.Call (.Name "enumerate" p) [.Name x p3] [] pos) σ H T := by
  cases d with
  | tup l =>
    cases hd
    have fin : ∀ {a : Addr} {xs : List V}, v = .ref a → (∀ H', Kp S H H' → SqT X.K H' a xs) → IsA R S H xs ds → wI X (.Tuple elts kk tpos) (.Call (.Name "enumerate" p) [.Name x p3] [] pos) σ H T := fun ev up ha =>
      enumT_pi hm (eV i hs ⟨_, _, ev, up _ (Kp.refl _ _), q _ _ ha ⟨fun i H' hi k => walkT.goes i H' hi (up H' k), fun H' k => walkT.stops H' (up H' k), fun i H' x H2 hi k y => walkT.yields i H' x H2 hi (up H' k) y⟩⟩ hN hv hdb hcd) hg hs2
    cases hi with
    | tup n e ha => exact fin rfl (fun H' k => SqT.of (k _ _ n e)) ha
    | tupK e ha => exact fin rfl (fun H' k => by rw [hK]; exact e.sq) ha
  | lst l =>
    cases hd
    exact iEnumW hm (eV i hs ⟨S, _, hi, fun J xs ha wk => q J xs ha wk⟩ hN hv hdb hcd) hg hs2
  | _ => cases hd
def spPts (R : Rp) : Sp := fun vs H Q _ => ∃ S v gs n u os, vs = [v, u] ∧ Live S H ∧ GatesAt R S H v gs n ∧ n ≤ 80 ∧ OrdAt R S H u gs.length os ∧
  ∀ p H' ds, H p = none → Same H H' → Is R S H' (.ref p) (.lst ds) → ds.length = os.length + 1 → (∀ k, k ≤ os.length → ds[k]? = some (vD (ptQ gs os k))) → (∀ k, k ≤ os.length → Sz (psz n k) (ptQ gs os k).1 ∧ Sz (psz n k) (ptQ gs os k).2) → Q (.ref p) H'
end BR

namespace BR
open PySem PySem.Spec PyProof.Rows L2
structure OkN (k : Nat) (d : D) : Prop where
  plain : d.plain = true
  lay : PyData.canLay0 d.py = true
  dep : PyData.depth d.py ≤ k
structure OkNs (k : Nat) (ds : List D) : Prop where
  plain : D.plains ds = true
  lay : PyData.canLayAll0 (D.pys ds) = true
  dep : PyData.depthAll (D.pys ds) ≤ k
theorem OkNs.of {k : Nat} : ∀ {ds : List D}, (∀ d ∈ ds, OkN k d) → OkNs k ds
  | [], _ => ⟨rfl, by simp [D.pys, PyData.canLayAll0], by simp [D.pys, PyData.depthAll]⟩
  | d :: ds, h => by
    have a := h d (List.mem_cons_self ..)
    have b := OkNs.of (ds := ds) fun e he => h e (List.mem_cons_of_mem _ he)
    refine ⟨?_, ?_, ?_⟩
    · show (D.plain d && D.plains ds) = true
      rw [a.plain, b.plain]; rfl
    · simp [D.pys, PyData.canLayAll0, a.lay, b.lay]
    · have h1 := a.dep
      have h2 := b.dep
      simp only [D.pys, PyData.depthAll]
      omega
theorem OkN.lst {k : Nat} {ds : List D} (h : ∀ d ∈ ds, OkN k d) : OkN (k + 1) (.lst ds) := by
  have a := OkNs.of h
  refine ⟨a.plain, ?_, ?_⟩
  · simp [D.py, PyData.canLay0, a.lay]
  · have h1 := a.dep
    simp only [D.py, PyData.depth]
    omega
theorem OkN.tup {k : Nat} {ds : List D} (h : ∀ d ∈ ds, OkN k d) : OkN (k + 1) (.tup ds) := by
  have a := OkNs.of h
  refine ⟨a.plain, ?_, ?_⟩
  · simp [D.py, PyData.canLay0, a.lay]
  · have h1 := a.dep
    simp only [D.py, PyData.depth]
    omega
theorem OkN.int {k : Nat} (i : Int) : OkN (k + 1) (.int i) := ⟨rfl, by simp [D.py, PyData.canLay0], by simp only [D.py, PyData.depth]; omega⟩
theorem OkN.okEq {k : Nat} {d : D} (h : OkN k d) (hk : k ≤ 15) : d.okEq = true := by
  have h1 := h.plain
  have h2 := h.lay
  have h3 := h.dep
  simp only [D.okEq, h1, SeqAt.shaped, h2, Bool.true_and, decide_eq_true_iff]
  omega
theorem OkN.frac (r : Rat) : OkN 2 (frac r) := OkN.tup (k := 1) fun d hd => by
  simp at hd
  rcases hd with rfl | rfl
  · exact OkN.int _
  · exact OkN.int _
theorem OkN.vD (p : G2) : OkN 3 (vD p) := OkN.tup (k := 2) fun d hd => by
  simp at hd
  rcases hd with rfl | rfl
  · exact OkN.frac _
  · exact OkN.frac _
mutual
theorem eqv_pl : ∀ {d : D}, d.plain = true → PyData.eqv d.py d.py = true
  | .non, _ => by simp [D.py, PyData.eqv]
  | .bl b, _ => by simp [D.py, PyData.eqv]
  | .int i, _ => by simp [D.py, PyData.eqv]
  | .str x, _ => by simp [D.py, PyData.eqv]
  | .tup l, h => by simp only [D.py, PyData.eqv]; exact eqv_pls (by simpa [D.plain] using h)
  | .lst l, h => by simp only [D.py, PyData.eqv]; exact eqv_pls (by simpa [D.plain] using h)
  | .obj _ _, h => by simp [D.plain] at h
theorem eqv_pls : ∀ {ds : List D}, D.plains ds = true → PyData.eqvAll (D.pys ds) (D.pys ds) = true
  | [], _ => by simp [D.pys, PyData.eqvAll]
  | d :: ds, h => by
    simp [D.plains] at h
    simp [D.pys, PyData.eqvAll, eqv_pl h.1, eqv_pls h.2]
end
theorem OkN.self {k : Nat} {d : D} (h : OkN k d) : D.eqv d d = true := eqv_pl h.plain
theorem lfQ_snoc (gs : List G2) : ∀ (os : List Int) (i : Int), lfQ gs (os ++ [i]) = lfQ gs os * (gAt gs i).1
  | [], i => rfl
  | j :: os, i => by
    show lfQ gs (os ++ [i]) * (gAt gs j).1 = lfQ gs os * (gAt gs j).1 * (gAt gs i).1
    rw [lfQ_snoc gs os i]
    grind
def spLaterB (R : Rp) : Sp := fun vs H Q _ => ∃ (S : Reg) (v u : V) (gs : List G2) (os : List Int), vs = [v, u] ∧ Live S H ∧ PairsAt R S H v gs ∧ Is R S H u (.lst (os.map D.int)) ∧ (∀ i ∈ os, 0 ≤ i ∧ i < (gs.length : Int)) ∧ os.length ≤ 8 ∧
  ∀ v' H', Same H H' → Is R S H' v' (frac (lfQ gs os)) → Sz (1 + 20 * os.length) (lfQ gs os) → Q v' H'
def spPathB (R : Rp) : Sp := fun vs H Q _ => ∃ (S : Reg) (v u : V) (gs : List G2) (os : List Int), vs = [v, u] ∧ Live S H ∧ PairsAt R S H v gs ∧ Is R S H u (.lst (os.map D.int)) ∧ ordB gs.length os = true ∧
  ∀ v' H', Same H H' → Is R S H' v' (.lst ((List.range (os.length + 1)).map fun k => vD (ptQ gs os k))) → Q v' H'
theorem ixPr {R : Rp} {S : Reg} {H : Hp} {v : V} {gs : List G2} {i : Int} {Q : VK} (h : PairsAt R S H v gs) (h0 : 0 ≤ i) (h1 : i < (gs.length : Int)) (q : ∀ x, POk (gAt gs i) → Is R S H x (vD (gAt gs i)) → Q x H) : rIx R.K v (.int i) H Q := by
  obtain ⟨k, rfl⟩ : ∃ k : Nat, i = (k : Int) := ⟨i.toNat, by omega⟩
  have hk : k < gs.length := by omega
  have e : gAt gs (k : Int) = gs[k] := gAt_nat (List.getElem?_eq_getElem hk)
  rw [e] at q
  exact ixD (i := k) h.ex rfl (by rw [List.getElem?_map, List.getElem?_eq_getElem hk]; rfl) fun x ix => q x (h.ok _ (List.getElem_mem hk)) ix
theorem cut_drop (xs : List V) (k : Nat) : cutV xs (some (k : Int)) none = xs.drop k := by
  unfold cutV
  rw [HT.sIx_none, HT.sIx_nat]
  by_cases h : k ≤ xs.length
  · rw [Nat.min_eq_left h, List.take_of_length_le (by rw [List.length_drop]; exact Nat.le_refl _)]
  · rw [Nat.min_eq_right (by omega), List.drop_eq_nil_of_le (Nat.le_refl _), List.drop_eq_nil_of_le (by omega), List.take_nil]
theorem cut_mid (xs : List V) {a b : Nat} (hb : b ≤ xs.length) (ha : a ≤ xs.length) : cutV xs (some (a : Int)) (some (b : Int)) = (xs.drop a).take (b - a) := by
  unfold cutV
  rw [HT.sIx_nat, HT.sIx_nat, Nat.min_eq_left hb, Nat.min_eq_left ha]
section
variable {X : Cx} {σ : L2.St} {H : Hp} {o : Expr} {D : Ends} {p1 p2 pos : Pos}
/-- l.clear() as a statement -/
theorem sClr (h : wE X o σ H fun x H1 => tyV X.K "list" x H1 ∧ rClear x [] H1 fun _ H3 => D.nx σ H3)
    (hs : swapsWith (.Call (.Attribute o "clear" p1) [] [] p2) none pos.line X.env = pure false := by rfl)
    (hbase : attributeBase o "clear" X.env (eval o X.env) = eval o X.env := by rfl) (hline : (p1.endLine == p2.line) = true := by rfl) :
    wS X (.Expr (.Call (.Attribute o "clear" p1) [] [] p2) pos) D σ H :=
  sExpr (uE (pe_bm0 PySem.F.plainAttrs_list PySem.F.slot_list_clear PySem.F.type_list_clear mt_clear (pE o) hbase hline) h) hs
end
theorem fac_from' (gs : List G2) : ∀ (os : List Int) (l : G2), (os.foldl (fun l i => thr l (gAt gs i)) l).1 = lfQ gs os * l.1
  | [], l => by
    show l.1 = 1 * l.1
    grind
  | i :: os, l => by
    refine (fac_from' gs os (thr l (gAt gs i))).trans ?_
    show lfQ gs os * ((gAt gs i).1 * l.1) = lfQ gs os * (gAt gs i).1 * l.1
    grind
theorem fac_lf (gs : List G2) (os : List Int) : (lineQ gs os).1 = lfQ gs os := by
  refine (fac_from' gs os (1, 0)).trans ?_
  show lfQ gs os * 1 = _
  grind
/-- the path, told by the lines of the order's beginnings -/
theorem ptQ_eq (gs : List G2) (os : List Int) : ∀ k, k ≤ os.length → ptQ gs os k = (lfQ gs (os.drop k) - lfQ gs os, (lineQ gs (os.take k)).2 * lfQ gs (os.drop k))
  | 0, _ => by
    refine Prod.ext ?_ ?_
    · show (0 : Rat) = lfQ gs os - lfQ gs os
      grind
    · show (0 : Rat) = 0 * _
      grind
  | k + 1, h => by
    have ih := ptQ_eq gs os k (by omega)
    have hk : k < os.length := by omega
    have e1 : os.drop k = os[k] :: os.drop (k + 1) := List.drop_eq_getElem_cons hk
    have e2 : os.getD k 0 = os[k] := by
      rw [List.getD_eq_getElem?_getD, List.getElem?_eq_getElem hk]
      rfl
    have e3 : lfQ gs (os.drop k) = lfQ gs (os.drop (k + 1)) * (gAt gs os[k]).1 := by rw [e1]; rfl
    have e4 : lineQ gs (os.take (k + 1)) = thr (lineQ gs (os.take k)) (gAt gs os[k]) := by rw [← List.take_append_getElem hk, lineQ_snoc]
    show ((ptQ gs os k).1 + (1 - (gAt gs (os.getD k 0)).1) * lfQ gs (os.drop (k + 1)), (ptQ gs os k).2 + (gAt gs (os.getD k 0)).2 * lfQ gs (os.drop (k + 1))) = _
    rw [ih, e2, e4]
    refine Prod.ext ?_ ?_
    · show lfQ gs (os.drop k) - lfQ gs os + (1 - (gAt gs os[k]).1) * lfQ gs (os.drop (k + 1)) = lfQ gs (os.drop (k + 1)) - lfQ gs os
      rw [e3]
      grind
    · show (lineQ gs (os.take k)).2 * lfQ gs (os.drop k) + (gAt gs os[k]).2 * lfQ gs (os.drop (k + 1)) = ((gAt gs os[k]).1 * (lineQ gs (os.take k)).2 + (gAt gs os[k]).2) * lfQ gs (os.drop (k + 1))
      rw [e3]
      grind
theorem ptQ_end (gs : List G2) (os : List Int) : ptQ gs os os.length = (1 - (lineQ gs os).1, (lineQ gs os).2) := by
  rw [ptQ_eq gs os _ (Nat.le_refl _), List.drop_length, List.take_length, fac_lf]
  refine Prod.ext rfl ?_
  show _ * (1 : Rat) = _
  grind
end BR

namespace BR
open PySem PySem.Spec PyProof.Rows L2
/-! ### == and != of own instances, whatever they answer -/
section
variable {X : Cx} {σ : L2.St} {H : Hp} {k : Nat} {C : Addr} {ps : List Str} {sp : Sp} {W : WX}
theorem own_run {f : Addr} {fd : FuncData} {A : Around} {pins : List (Addr × Obj)} {s : Shared} {us : List Value} {vs : List V} {Q : VK} (F : FnOk X.prog X.w X.K X.mg X.base (L2.CX X.prog X.w) k f fd ps sp) (sb : Sub X k A) (hb : Binds X.K fd ps []) (tk : Takes X W)
    (I : Inv X pins σ H s) (r : Vals vs us) (q : sp vs H Q fun c d H' => W c d σ H') : wpAny (model X.prog X.w) A (call (.ref f) us) (EP X pins σ Q) X.xe s := by
  have e0 : Env0 X.prog X.w X.K X.mg X.base A X.stack s H := by
    have e := I.env0
    exact ⟨by rw [sb.fr]; exact e.frames, e.mod, e.bs, e.bsz, e.funs, e.frf, e.hok, e.bare⟩
  have hl : us.length = ps.length := by rw [← r.length]; exact F.len _ _ _ _ q
  have b := hb s us I.kIn (by rw [List.append_nil]; exact hl)
  rw [List.append_nil] at b
  refine wpAny_call (codeAny_mono (F.run A X.stack s H ⟨us, []⟩ us vs Q _ sb.room e0 b r q) fun z s' y => ?_)
  cases z with
  | error er => exact passAt tk σ pins _ s er s' I y
  | ok fl =>
    cases fl with
    | ret u => exact I.after y
    | next => exact False.elim y
    | brk => exact False.elim y
    | cont => exact False.elim y
/-- the type of what stands on the right is no subclass of C -/
def NotSub (K : PySem.W.Frag) (C : Addr) (H : Hp) (y : V) : Prop :=
  (∃ a C' dx fs, y = .ref a ∧ H a = some (.ins C' dx fs) ∧ PySem.W.notFirst K C (.ref C') = true) ∨ (∃ a xs, y = .ref a ∧ (SqT K H a xs) ∧ PySem.W.notFirst K C (.type "tuple") = true) ∨ (∃ a xs, y = .ref a ∧ SqL K H a xs ∧ PySem.W.notFirst K C (.type "list") = true) ∨ (y = .non ∧ PySem.W.notFirst K C (.type "NoneType") = true)
theorem notSub_looks {M : Model} {pins : List (Addr × Obj)} {s : Shared} {y : V} {u : Value} (I : Inv X pins σ H s) (r : RelV y u) (h : NotSub X.K C H y) : ∃ tb, PySem.W.Looks M s.heap (typeOf u) tb ∧ PySem.W.notFirst X.K C tb = true := by
  rcases h with ⟨a, C', dx, fs, rfl, ha, h⟩ | ⟨a, xs, rfl, hq, h⟩ | ⟨a, xs, rfl, hq, h⟩ | ⟨rfl, h⟩
  · cases r
    obtain ⟨mA, J, _⟩ := ins_get I.hok ha
    obtain ⟨od, J, _⟩ := J.look
    exact ⟨_, J.type, h⟩
  · cases r
    obtain ⟨its, rv, ⟨o, e, c, _⟩, _⟩ := I.tuple hq
    exact ⟨_, c ▸ (PySem.W.Looks.ld e).andThen .now, h⟩
  · cases r
    obtain ⟨its, rv, p, _⟩ := I.list hq
    obtain ⟨o, e, c, _⟩ := p.isList
    exact ⟨_, c ▸ (PySem.W.Looks.ld e).andThen .now, h⟩
  · cases r
    exact ⟨_, PySem.W.Looks.of_pure rfl, h⟩
def rOwn (K : PySem.W.Frag) (C : Addr) (sp : Sp) (g : Bool → Bool) : R2 := fun x y H Q => ∃ a dx fs, x = .ref a ∧ H a = some (.ins C dx fs) ∧ NotSub K C H y ∧ sp [x, y] H (fun v H' => ∃ b, v = .bl b ∧ Q (.bl (g b)) H') fun _ _ _ => False
theorem op_eqO (G : MethG X.prog X.w X.K X.mg X.base k C "__eq__" ps sp) (hr : Room k X.A) (tk : Takes X W0) : OpR X (compareOp .Eq) (rOwn X.K C sp id) := by
  intro pins s σ H x y v u Q I rx ry h
  obtain ⟨a, dx, fs, rfl, ha, hn, q⟩ := h
  cases rx
  obtain ⟨f, fd, hc, hm, F, hb⟩ := G.ex
  obtain ⟨mA, J, _⟩ := ins_get I.hok ha
  obtain ⟨od, J, _⟩ := J.look
  obtain ⟨tb, L, nf⟩ := notSub_looks I ry hn
  obtain ⟨m, hF⟩ := I.fr
  show wpAny _ _ (richCompare .Eq (.ref a) u) _ _ _
  refine PySem.W.cmp_K (op := .Eq) (tb := tb) hr.units0 hF I.ok.mod.kin J L nf hm.at_ hm.fn ?_
  refine wpAny_mono (own_run F ⟨hr, rfl⟩ hb tk I (vs := [V.ref a, y]) (us := [Value.ref a, u]) (.cons rfl (.cons ry .nil)) q) (fun v s' z => ?_) fun _ _ e => e
  obtain ⟨v', H', I', rv, b, rfl, q'⟩ := z
  cases rv
  exact ⟨.bl b, H', I', rfl, q'⟩
end
section
variable {prog : Program} {w : World} {A : Around} {E : Value → Shared → Prop} {K : PySem.W.Frag} {a C f : Addr} {oa : Obj} {od : Option Obj} {u : Value}
theorem neBody {s : Shared} {Q : Fin → Shared → Prop} (X : K.In s.heap) (I : PySem.W.InstAt s.heap a oa C od) (hs : PySem.W.findIn K (.ref C) "__eq__" = some (some (.ref f))) (hf : PySem.W.isFn K (.ref f) = true) (hu : A.units < cLine)
    (hc : wpAny (model prog w) A (call (.ref f) [.ref a, u]) (fun v s' => ∃ b, v = .bool b ∧ Q (.done (.ret (.bool (!b)))) s') E s) : wpAny (model prog w) A (Builtin.«object.__ne__» ⟨[.ref a, u], []⟩) Q E s := by
  unfold Builtin.«object.__ne__»
  repeat (first
    | with_reducible refine wpAny_cRoomFor hu ?_
    | (refine wpAny_bind (m := callSpecialIfBound? (.ref a) (Str.ofString "__eq__") [u]) (PySem.W.ifBound_K X I hs hf (wpAny_mono hc (fun r s' hr => by
          obtain ⟨b, rfl, hq⟩ := hr
          repeat (first | exact hq | exact wpAny_pure hq | exact wpAny_truthy_bool hq | (refine wpAny_bind (m := truthy (.bool _)) (wpAny_truthy_bool ?_)) | wp_step)) fun _ _ e => e)))
    | wp_step)
theorem ifBound_ne {M : Model} {s : Shared} {Q : Option Value → Shared → Prop} (X : K.In s.heap) (I : PySem.W.InstAt s.heap a oa C od) (hs : PySem.W.findIn K (.ref C) "__ne__" = some (some (.builtin "object.__ne__")))
    (h : wpAny M A (call (.builtin "object.__ne__") [.ref a, u]) (fun v => Q (some v)) E s) : wpAny M A (callSpecialIfBound? (.ref a) "__ne__" [u]) Q E s := by
  simp only [callSpecialIfBound?, bindSpecialIfBound?]
  refine wpAny_holding (wpAny_bind (wpAny_bind (wpAny_bind (I.type.here ((PySem.W.looks_findIn X hs).here ?_)))))
  refine wpAny_bind (wpAny_askSetting (wpAny_ite ?_))
  have z : wpAny M A (call (.builtin "object.__ne__") ([.ref a] ++ [u]) >>= fun v => pure (some v)) Q E s := wpAny_bind (wpAny_mono h (fun v s' y => wpAny_pure y) fun _ _ y => y)
  split
  · exact wpAny_bind (wpAny_of_eq (F.cmp_object.ne.bind _) (wpAny_pure (by exact z)))
  · exact wpAny_tryCatch (wpAny_bind (wpAny_of_eq (F.cmp_object.ne.bind _) (wpAny_pure (by exact z))))
theorem neOwn {s : Shared} {tb : Value} {Q : Value → Shared → Prop} (hu : A.units + 1 < cLine) (X : K.In s.heap) (I : PySem.W.InstAt s.heap a oa C od) (L : PySem.W.Looks (model prog w) s.heap (typeOf u) tb) (nf : PySem.W.notFirst K C tb = true)
    (hm : PySem.W.mroIn K C (.type "object") = some true) (hn : PySem.W.findIn K (.ref C) "__ne__" = some (some (.builtin "object.__ne__"))) (hs : PySem.W.findIn K (.ref C) "__eq__" = some (some (.ref f))) (hf : PySem.W.isFn K (.ref f) = true)
    (hc : wpAny (model prog w) A.in1 (call (.ref f) [.ref a, u]) (fun v s' => ∃ b, v = .bool b ∧ Q (.bool (!b)) s') E s) : wpAny (model prog w) A (richCompare .NotEq (.ref a) u) Q E s := by
  have one : wpAny (model prog w) A (tryCompare (.ref a) "__ne__" u) (fun r s' => ∃ b, r = some (.bool b) ∧ Q (.bool b) s') E s := by
    unfold tryCompare
    refine wpAny_bind (ifBound_ne X I hn ?_)
    refine wpAny_call (codeAny_call_builtin F.cmp_object.ne.plain F.cmpEntry_ne (PySem.W.check_slot F.cmpKind_ne F.cmpSplit_ne (I.type.andThen (PySem.W.looks_mroIn X hm)) (F.cmpArgs_ne _ _) (neBody X I hs hf hu (wpAny_mono hc (fun v s' y => ?_) fun _ _ y => y))))
    obtain ⟨b, rfl, q⟩ := y
    exact ⟨b, rfl, wpAny_pure ⟨!b, rfl, q⟩⟩
  simp only [richCompare, cmpInfo_NotEq, oneThing_ref]
  refine wpAny_holding (wpAny_bind (wpAny_cRoomFor (Nat.lt_of_succ_lt hu) ?_))
  refine wpAny_bind (I.type.here (wpAny_bind (L.here ?_)))
  split
  · next q =>
    have e : PySem.W.subIn K tb (.ref C) = some false := by
      rcases Bool.or_eq_true_iff.mp nf with e | e
      · rw [beq_iff_eq.mp e] at q
        simp at q
      · exact beq_iff_eq.mp e
    refine wpAny_bind ((PySem.W.looks_subIn X e).here ?_)
    simp only [Bool.false_eq_true, if_false]
    refine wpAny_bind (wpAny_mono one (fun r s' z => ?_) fun _ _ e => e)
    obtain ⟨v, rfl, hq⟩ := z
    exact wpAny_pure hq
  · refine wpAny_bind (wpAny_pure ?_)
    simp only [Bool.false_eq_true, if_false]
    refine wpAny_bind (wpAny_mono one (fun r s' z => ?_) fun _ _ e => e)
    obtain ⟨v, rfl, hq⟩ := z
    exact wpAny_pure hq
end
structure NeOk (K : PySem.W.Frag) (C : Addr) : Prop where
  ne : PySem.W.findIn K (.ref C) "__ne__" = some (some (.builtin "object.__ne__"))
  mro : PySem.W.mroIn K C (.type "object") = some true
section
variable {X : Cx} {k : Nat} {C : Addr} {ps : List Str} {sp : Sp}
theorem op_neO (G : MethG X.prog X.w X.K X.mg X.base k C "__eq__" ps sp) (N : NeOk X.K C) (hr : Room (k + 1) X.A) (tk : Takes X W0) : OpR X (compareOp .NotEq) (rOwn X.K C sp not) := by
  intro pins s σ H x y v u Q I rx ry h
  obtain ⟨a, dx, fs, rfl, ha, hn, q⟩ := h
  cases rx
  obtain ⟨f, fd, hc, hm, F, hb⟩ := G.ex
  obtain ⟨mA, J, _⟩ := ins_get I.hok ha
  obtain ⟨od, J, _⟩ := J.look
  obtain ⟨tb, L, nf⟩ := notSub_looks I ry hn
  show wpAny _ _ (richCompare .NotEq (.ref a) u) _ _ _
  refine neOwn (tb := tb) ?_ I.kIn J L nf N.mro N.ne hm.at_ hm.fn ?_
  · exact (hr.in1).units0
  refine wpAny_mono (own_run F ⟨hr.in1, rfl⟩ hb tk I (vs := [V.ref a, y]) (us := [Value.ref a, u]) (.cons rfl (.cons ry .nil)) q) (fun v s' z => ?_) fun _ _ e => e
  obtain ⟨v', H', I', rv, b, rfl, q'⟩ := z
  cases rv
  exact ⟨b, rfl, .bl (!b), H', I', rfl, q'⟩
end
/-! ### own classes whose == asks the class and two fractions -/
structure EqC (R : Rp) (mg : Str → Option Value) (c : Str) : Prop where
  nam : NamC R.K mg c (R.CA c)
  fa : FAok R c
  cl : PySem.W.findIn R.K (.ref (R.CA c)) "__class__" = some (some (.builtin "object.__class__"))
  mo : PySem.W.mroIn R.K (R.CA c) (.type "object") = some true
  sg : PySem.W.specialIn R.K (.builtin "object.__class__") "__get__" = some (some (.builtin "getset_descriptor.__get__"))
  tk : PySem.W.takesIn R.K (.builtin "object.__class__") = some true
theorem EqC.tyX {R : Rp} {mg : Str → Option Value} {c : Str} {H : Hp} {a dx : Addr} {fs : List (Str × V)} (h : EqC R mg c) (e : H a = some (.ins (R.CA c) dx fs)) : TyX R.K H (.ref a) (.ref (R.CA c)) :=
  .base (.ins e h.fa.cl h.cl h.sg h.tk h.mo)
/-- c' against c: the same, or none a subclass of the other -/
def EqTo (R : Rp) (c c' : Str) : Prop := c' = c ∨ (c' ≠ c ∧ R.CA c' ≠ R.CA c ∧ PySem.W.subIn R.K (.ref (R.CA c')) (.ref (R.CA c)) = some false)
theorem EqTo.kit {R : Rp} {mg : Str → Option Value} {c c' : Str} (h : EqTo R c c') (T : EqC R mg c) : PySem.W.kitOne R.K (.ref (R.CA c')) (.ref (R.CA c)) = some (decide (c' = c)) := by
  rcases h with rfl | ⟨n, m, s⟩
  · rw [decide_eq_true rfl]
    unfold PySem.W.kitOne
    rw [if_pos (by simp)]
  · rw [decide_eq_false n]
    exact kitC T.nam s fun z => absurd z m
theorem EqTo.nf {R : Rp} {c c' : Str} (h : EqTo R c c') : PySem.W.notFirst R.K (R.CA c) (.ref (R.CA c')) = true := by
  unfold PySem.W.notFirst
  rcases h with rfl | ⟨n, m, s⟩
  · simp
  · rw [s]
    simp
def spEqF (R : Rp) (mg : Str → Option Value) (c : Str) : Sp := fun vs H Q _ => ∃ (S S' : Reg) (x y : V) (r b : Rat) (c' : Str) (r' b' : Rat), vs = [x, y] ∧ Is R S H x (faD c r b) ∧ EqC R mg c' ∧ EqTo R c c' ∧ Is R S' H y (faD c' r' b') ∧ Q (.bl (decide (c' = c ∧ r = r' ∧ b = b'))) H
theorem faD_ins {R : Rp} {S : Reg} {H : Hp} {v : V} {c : Str} {r b : Rat} (h : Is R S H v (faD c r b)) : ∃ a dx fs, v = .ref a ∧ H a = some (.ins (R.CA c) dx fs) := by
  cases h with
  | obj n e _ => exact ⟨_, _, _, rfl, e⟩
theorem ownQ {R : Rp} {mg : Str → Option Value} {S S' : Reg} {H : Hp} {x y : V} {c c' : Str} {r b r' b' : Rat} {g : Bool → Bool} {Q : VK} (h : Is R S H x (faD c r b)) (C' : EqC R mg c') (t : EqTo R c c') (h' : Is R S' H y (faD c' r' b')) (q : Q (.bl (g (decide (c' = c ∧ r = r' ∧ b = b')))) H) : rOwn R.K (R.CA c) (spEqF R mg c) g x y H Q := by
  obtain ⟨a, dx, fs, rfl, e⟩ := faD_ins h
  obtain ⟨a', dx', fs', rfl, e'⟩ := faD_ins h'
  exact ⟨a, dx, fs, rfl, e, .inl ⟨a', _, dx', fs', rfl, e', t.nf⟩, S, S', _, _, r, b, c', r', b', rfl, h, C', t, h', _, rfl, q⟩
section
variable {X : Cx} {σ : L2.St} {H : Hp} {Q : VK} {pos : Pos}
def relabelS (S T : Scope) : Scope := { S with names := S.names.map fun (n, k) => if (k == .free && T.kind == .function && T.names.lookup n == some .cell) then (n, .cell) else (n, k) }
/-- a comprehension in a comprehension -/
theorem eLcB {S : Scope} {t0 : Shared} {h0 : Hp} {cC : Addr} {ccl : List (Str × Addr)} {cfp : List Addr} {elt tg it : Expr} {ifs : List Expr} {sc : Scope} (N : List Str) (st : Stmt) (own : List (Str × Nat))
    (h : wI (X.blk t0 h0 S (compEnvC S ccl cC X.env) cfp) tg it σ H fun J H1 => ∀ L, H1 L = none → ∃ n G Y, Walk J n G Y ∧ ∃ Pv : Nat → Hp → Prop, Pv 0 (upd H1 L (.lst [])) ∧ (∀ i H, i ≤ n → Pv i H → G H) ∧
      (∀ i x H H', i < n → Pv i H → Y i H x H' → kG (X.blk t0 h0 S (compEnvC S ccl cC X.env) cfp) sc tg x (wipe σ (own.map (·.2))) H' fun σ2 H2 => wipe σ2 (own.map (·.2)) = wipe σ (own.map (·.2)) ∧
        kT (X.blk t0 h0 S (compEnvC S ccl cC X.env) cfp) sc ifs σ2 H2 fun k H3 => if k = true then kE (X.blk t0 h0 S (compEnvC S ccl cC X.env) cfp) sc elt σ2 H3 fun y H4 => ∃ acc, H4 L = some (.lst acc) ∧ acc.length < sizeLine ∧ Pv (i + 1) (upd H4 L (.lst (acc ++ [y]))) else Pv (i + 1) H3) ∧
      ∀ H, Pv n H → Q (.ref L) H) (hN : (X.blk t0 h0 S (compEnvC S ccl cC X.env) cfp).N.Nodup := by assumption)
    (ok : blkC N (relabelS S (L2.defScope st)) sc own = true := by decide +kernel) (xS0 : X.env.scope = L2.defScope st := by rfl) (xN : (X.blk t0 h0 S (compEnvC S ccl cC X.env) cfp).N = N := by rfl) (xS : (X.blk t0 h0 S (compEnvC S ccl cC X.env) cfp).env.scope = relabelS S X.env.scope := by rfl) (hc : (X.blk t0 h0 S (compEnvC S ccl cC X.env) cfp).calm = true := by rfl)
    (hs : ∀ x, foldedSetIterable it (X.blk t0 h0 S (compEnvC S ccl cC X.env) cfp).env x = pure x := by intro _; rfl) : wE (X.blk t0 h0 S (compEnvC S ccl cC X.env) cfp) (.ListComp elt [⟨tg, it, ifs, 0⟩] sc pos) σ H Q := by
  rw [xS0] at xS
  generalize X.blk t0 h0 S (compEnvC S ccl cC X.env) cfp = Z at *
  refine uE (pe_lc (own := own) (g := kG Z sc tg) (tt := kT Z sc ifs) (te := kE Z sc elt) hc hN (pI tg it) (blkOk_by (by rw [xN, xS]; exact ok)) (fun s0 H0 C cl fp => ⟨fun pins s σ H v u Q I r h => (h s0 H0 C cl fp).r pins s u I r⟩)
    (fun s0 H0 C cl fp => ⟨fun pins s σ H Q I h => (h s0 H0 C cl fp).r pins s I⟩) (fun s0 H0 C cl fp => ⟨fun pins s σ H Q I h => (h s0 H0 C cl fp).r pins s I⟩) hs) ?_
  refine h.mono fun J H1 k L hL => ?_
  obtain ⟨n, G, Y, wk, Pv, h0, hG, hst, hd⟩ := k L hL
  exact lc_it (g := kG Z sc tg) (tt := kT Z sc ifs) (te := kE Z sc elt) wk Pv h0 hG hst hd
end
end BR

namespace BR
open PySem PySem.Spec PyProof.Rows L2
/-! ### passing measured gates -/
theorem gAt_ms (c d : Rat) (gs : List G2) (i : Int) : gAt (gs.map (msQ c d)) i = msQ c d (gAt gs i) := by
  unfold gAt
  rw [List.getElem?_map]
  cases gs[i.toNat]? with
  | some g => rfl
  | none =>
    show ((1 : Rat), (0 : Rat)) = (1, c * 0 + (d + -(1 * d)))
    refine Prod.ext rfl ?_
    show (0 : Rat) = c * 0 + (d + -(1 * d))
    grind
theorem thrX_ms (c d : Rat) (gs : List G2) : ∀ (os : List Int) (x : Rat), thrX (gs.map (msQ c d)) os (c * x + d) = c * thrX gs os x + d
  | [], _ => rfl
  | i :: os, x => by
    show thrX (gs.map (msQ c d)) os ((gAt (gs.map (msQ c d)) i).1 * (c * x + d) + (gAt (gs.map (msQ c d)) i).2) = c * thrX gs os ((gAt gs i).1 * x + (gAt gs i).2) + d
    rw [gAt_ms]
    have e : (msQ c d (gAt gs i)).1 * (c * x + d) + (msQ c d (gAt gs i)).2 = c * ((gAt gs i).1 * x + (gAt gs i).2) + d := by
      show (gAt gs i).1 * (c * x + d) + (c * (gAt gs i).2 + (d + -((gAt gs i).1 * d))) = _
      grind
    rw [e]
    exact thrX_ms c d gs os _
theorem line_from (gs : List G2) : ∀ (os : List Int) (l : G2) (x : Rat), (os.foldl (fun l i => thr l (gAt gs i)) l).1 * x + (os.foldl (fun l i => thr l (gAt gs i)) l).2 = thrX gs os (l.1 * x + l.2)
  | [], _, _ => rfl
  | i :: os, l, x => by
    have := line_from gs os (thr l (gAt gs i)) x
    refine this.trans ?_
    show thrX gs os ((gAt gs i).1 * l.1 * x + ((gAt gs i).1 * l.2 + (gAt gs i).2)) = thrX gs os ((gAt gs i).1 * (l.1 * x + l.2) + (gAt gs i).2)
    congr 1
    grind
/-- the line of an order carries as passing one gate after the other -/
theorem lineQ_app (gs : List G2) (os : List Int) (x : Rat) : (lineQ gs os).1 * x + (lineQ gs os).2 = thrX gs os x := by
  have := line_from gs os (1, 0) x
  refine this.trans ?_
  show thrX gs os (1 * x + 0) = _
  congr 1
  grind
theorem fac_from (gs : List G2) : ∀ (os : List Int) (l : G2), (os.foldl (fun l i => thr l (gAt gs i)) l).1 = (os.map fun i => (gAt gs i).1).foldr (· * ·) 1 * l.1
  | [], l => by
    show l.1 = 1 * l.1
    grind
  | i :: os, l => by
    refine (fac_from gs os (thr l (gAt gs i))).trans ?_
    show _ * ((gAt gs i).1 * l.1) = ((gAt gs i).1 * _) * l.1
    grind
theorem prod_perm : ∀ {l m : List Rat}, l.Perm m → l.foldr (· * ·) 1 = m.foldr (· * ·) 1
  | _, _, .nil => rfl
  | _, _, .cons a p => by
    show a * _ = a * _
    rw [prod_perm p]
  | _, _, .swap a b l => by
    show b * (a * _) = a * (b * _)
    grind
  | _, _, .trans p q => (prod_perm p).trans (prod_perm q)
/-- the factor is the same for every order -/
theorem lineQ_fac {gs : List G2} {os os' : List Int} (p : os.Perm os') : (lineQ gs os).1 = (lineQ gs os').1 := by
  refine (fac_from gs os (1, 0)).trans (Eq.trans ?_ (fac_from gs os' (1, 0)).symm)
  rw [prod_perm (p.map _)]
theorem fac_ms (c d : Rat) (gs : List G2) (os : List Int) : (lineQ (gs.map (msQ c d)) os).1 = (lineQ gs os).1 := by
  refine (fac_from _ os (1, 0)).trans (Eq.trans ?_ (fac_from gs os (1, 0)).symm)
  congr 2
  refine List.map_congr_left fun i _ => ?_
  rw [gAt_ms]
  rfl
theorem worth_ms (c d : Rat) {gs : List G2} {os os' : List Int} (p : os.Perm os') : (lineQ (gs.map (msQ c d)) os).2 - (lineQ (gs.map (msQ c d)) os').2 = c * ((lineQ gs os).2 - (lineQ gs os').2) := by
  have h : ∀ os, (lineQ (gs.map (msQ c d)) os).2 = c * (lineQ gs os).2 + d - (lineQ gs os).1 * d := fun os => by
    have h1 := lineQ_app (gs.map (msQ c d)) os d
    have h2 := thrX_ms c d gs os 0
    have h3 := lineQ_app gs os 0
    have e : c * 0 + d = d := by grind
    rw [e, ← h1, fac_ms, ← h3] at h2
    grind
  rw [h, h, lineQ_fac p]
  grind
theorem cross_ms (c d : Rat) (g h : G2) : crossQ (arrQ (msQ c d g)) (arrQ (msQ c d h)) = c * crossQ (arrQ g) (arrQ h) := by
  show (1 - g.1) * (c * h.2 + (d + -(h.1 * d))) - (c * g.2 + (d + -(g.1 * d))) * (1 - h.1) = c * ((1 - g.1) * h.2 - g.2 * (1 - h.1))
  grind
end BR

namespace BR
open PySem PySem.Spec PyProof.Rows L2
def top (i : Nat) : Stmt := PySem.Challenge.pw_bestround_k07_whole_inverse_and_joined_l.main.body.getD i (.Pass ⟨0, 0, 0, 0⟩)
abbrev s_BadCount_init : Stmt := inClass (top 3) 0
def N_BadCount_init : List Str := ["self", "what", "count"]
theorem sc_BadCount_init : FnScope N_BadCount_init ["self", "what", "count"] (defScope s_BadCount_init) := ⟨rfl, rfl, rfl, by decide +kernel, rfl, by decide +kernel, by decide +kernel⟩
abbrev s_check_fraction : Stmt := top 8
def N_check_fraction : List Str := ["fraction", "top", "bottom", "number"]
theorem sc_check_fraction : FnScope N_check_fraction ["fraction"] (defScope s_check_fraction) := ⟨rfl, rfl, rfl, by decide +kernel, rfl, by decide +kernel, by decide +kernel⟩
abbrev s_check_gates : Stmt := top 9
def N_check_gates : List Str := ["gates", "most"]
theorem sc_check_gates : FnScope N_check_gates ["gates", "most"] (defScope s_check_gates) := ⟨rfl, rfl, rfl, by decide +kernel, rfl, by decide +kernel, by decide +kernel⟩
abbrev s_is_number : Stmt := top 10
def N_is_number : List Str := ["thing"]
theorem sc_is_number : FnScope N_is_number ["thing"] (defScope s_is_number) := ⟨rfl, rfl, rfl, by decide +kernel, rfl, by decide +kernel, by decide +kernel⟩
abbrev s_is_order : Stmt := top 11
def N_is_order : List Str := ["order", "many", "seen", "index"]
theorem sc_is_order : FnScope N_is_order ["order", "many"] (defScope s_is_order) := ⟨rfl, rfl, rfl, by decide +kernel, rfl, by decide +kernel, by decide +kernel⟩
abbrev s_check_order : Stmt := top 12
def N_check_order : List Str := ["gates", "order"]
theorem sc_check_order : FnScope N_check_order ["gates", "order"] (defScope s_check_order) := ⟨rfl, rfl, rfl, by decide +kernel, rfl, by decide +kernel, by decide +kernel⟩
abbrev s_common_divisor : Stmt := top 16
def N_common_divisor : List Str := ["one", "other"]
theorem sc_common_divisor : FnScope N_common_divisor ["one", "other"] (defScope s_common_divisor) := ⟨rfl, rfl, rfl, by decide +kernel, rfl, by decide +kernel, by decide +kernel⟩
abbrev s_lowest : Stmt := top 17
def N_lowest : List Str := ["fraction", "top", "bottom", "divisor"]
theorem sc_lowest : FnScope N_lowest ["fraction"] (defScope s_lowest) := ⟨rfl, rfl, rfl, by decide +kernel, rfl, by decide +kernel, by decide +kernel⟩
abbrev s_plus : Stmt := top 18
def N_plus : List Str := ["one", "other"]
theorem sc_plus : FnScope N_plus ["one", "other"] (defScope s_plus) := ⟨rfl, rfl, rfl, by decide +kernel, rfl, by decide +kernel, by decide +kernel⟩
abbrev s_minus : Stmt := top 19
def N_minus : List Str := ["one", "other"]
theorem sc_minus : FnScope N_minus ["one", "other"] (defScope s_minus) := ⟨rfl, rfl, rfl, by decide +kernel, rfl, by decide +kernel, by decide +kernel⟩
abbrev s_times : Stmt := top 20
def N_times : List Str := ["one", "other"]
theorem sc_times : FnScope N_times ["one", "other"] (defScope s_times) := ⟨rfl, rfl, rfl, by decide +kernel, rfl, by decide +kernel, by decide +kernel⟩
abbrev s_Gate_init : Stmt := inClass (top 22) 0
def N_Gate_init : List Str := ["self", "factor", "amount"]
theorem sc_Gate_init : FnScope N_Gate_init ["self", "factor", "amount"] (defScope s_Gate_init) := ⟨rfl, rfl, rfl, by decide +kernel, rfl, by decide +kernel, by decide +kernel⟩
abbrev s_Gate_eq : Stmt := inClass (top 22) 1
def N_Gate_eq : List Str := ["self", "other"]
theorem sc_Gate_eq : FnScope N_Gate_eq ["self", "other"] (defScope s_Gate_eq) := ⟨rfl, rfl, rfl, by decide +kernel, rfl, by decide +kernel, by decide +kernel⟩
abbrev s_Line_init : Stmt := inClass (top 23) 0
def N_Line_init : List Str := ["self", "factor", "amount"]
theorem sc_Line_init : FnScope N_Line_init ["self", "factor", "amount"] (defScope s_Line_init) := ⟨rfl, rfl, rfl, by decide +kernel, rfl, by decide +kernel, by decide +kernel⟩
abbrev s_Line_eq : Stmt := inClass (top 23) 1
def N_Line_eq : List Str := ["self", "other"]
theorem sc_Line_eq : FnScope N_Line_eq ["self", "other"] (defScope s_Line_eq) := ⟨rfl, rfl, rfl, by decide +kernel, rfl, by decide +kernel, by decide +kernel⟩
abbrev s_carry : Stmt := top 24
def N_carry : List Str := ["line", "x"]
theorem sc_carry : FnScope N_carry ["line", "x"] (defScope s_carry) := ⟨rfl, rfl, rfl, by decide +kernel, rfl, by decide +kernel, by decide +kernel⟩
abbrev s_passage : Stmt := top 25
def N_passage : List Str := ["gates", "order", "whole", "index", "gate"]
theorem sc_passage : FnScope N_passage ["gates", "order"] (defScope s_passage) := ⟨rfl, rfl, rfl, by decide +kernel, rfl, by decide +kernel, by decide +kernel⟩
abbrev s_line : Stmt := top 26
def N_line : List Str := ["gates", "order"]
theorem sc_line : FnScope N_line ["gates", "order"] (defScope s_line) := ⟨rfl, rfl, rfl, by decide +kernel, rfl, by decide +kernel, by decide +kernel⟩
abbrev s_worth : Stmt := top 27
def N_worth : List Str := ["gates", "order", "other"]
theorem sc_worth : FnScope N_worth ["gates", "order", "other"] (defScope s_worth) := ⟨rfl, rfl, rfl, by decide +kernel, rfl, by decide +kernel, by decide +kernel⟩
abbrev s__law_source : Stmt := top 29
def N__law_source : List Str := ["_law_cell"]
theorem sc__law_source : FnScope N__law_source ["_law_cell"] (defScope s__law_source) := ⟨rfl, rfl, rfl, by decide +kernel, rfl, by decide +kernel, by decide +kernel⟩
abbrev s__law_draw : Stmt := top 30
def N__law_draw : List Str := ["_law_source_here", "_law_many", "_law_digit", "_law_mixed"]
theorem sc__law_draw : FnScope N__law_draw ["_law_source_here", "_law_many"] (defScope s__law_draw) := ⟨rfl, rfl, rfl, by decide +kernel, rfl, by decide +kernel, by decide +kernel⟩
abbrev s__law_pick : Stmt := top 31
def N__law_pick : List Str := ["_law_source_here", "_law_some"]
theorem sc__law_pick : FnScope N__law_pick ["_law_source_here", "_law_some"] (defScope s__law_pick) := ⟨rfl, rfl, rfl, by decide +kernel, rfl, by decide +kernel, by decide +kernel⟩
abbrev s__law_shuffled : Stmt := top 32
def N__law_shuffled : List Str := ["_law_source_here", "_law_some", "_law_left", "_law_found"]
theorem sc__law_shuffled : FnScope N__law_shuffled ["_law_source_here", "_law_some"] (defScope s__law_shuffled) := ⟨rfl, rfl, rfl, by decide +kernel, rfl, by decide +kernel, by decide +kernel⟩
abbrev s__law_fraction : Stmt := top 33
def N__law_fraction : List Str := ["_law_source_here", "_law_high", "_law_top"]
theorem sc__law_fraction : FnScope N__law_fraction ["_law_source_here", "_law_high"] (defScope s__law_fraction) := ⟨rfl, rfl, rfl, by decide +kernel, rfl, by decide +kernel, by decide +kernel⟩
abbrev s__law_gate : Stmt := top 34
def N__law_gate : List Str := ["_law_source_here", "_law_high", "_law_top", "_law_bottom"]
theorem sc__law_gate : FnScope N__law_gate ["_law_source_here", "_law_high"] (defScope s__law_gate) := ⟨rfl, rfl, rfl, by decide +kernel, rfl, by decide +kernel, by decide +kernel⟩
abbrev s__law_low : Stmt := top 35
def N__law_low : List Str := ["_law_top", "_law_bottom", "_law_one", "_law_other"]
theorem sc__law_low : FnScope N__law_low ["_law_top", "_law_bottom"] (defScope s__law_low) := ⟨rfl, rfl, rfl, by decide +kernel, rfl, by decide +kernel, by decide +kernel⟩
abbrev s__law_add : Stmt := top 36
def N__law_add : List Str := ["_law_one", "_law_other"]
theorem sc__law_add : FnScope N__law_add ["_law_one", "_law_other"] (defScope s__law_add) := ⟨rfl, rfl, rfl, by decide +kernel, rfl, by decide +kernel, by decide +kernel⟩
abbrev s__law_mul : Stmt := top 37
def N__law_mul : List Str := ["_law_one", "_law_other"]
theorem sc__law_mul : FnScope N__law_mul ["_law_one", "_law_other"] (defScope s__law_mul) := ⟨rfl, rfl, rfl, by decide +kernel, rfl, by decide +kernel, by decide +kernel⟩
abbrev s__law_made : Stmt := top 38
def N__law_made : List Str := ["_law_facts", "_law_f", "_law_a"]
theorem sc__law_made : FnScope N__law_made ["_law_facts"] (defScope s__law_made) := ⟨rfl, rfl, rfl, by decide +kernel, rfl, by decide +kernel, by decide +kernel⟩
abbrev s__law_inverse : Stmt := top 39
def N__law_inverse : List Str := ["_law_fact", "_law_top", "_law_bottom", "_law_up", "_law_down", "_law_back"]
theorem sc__law_inverse : FnScope N__law_inverse ["_law_fact"] (defScope s__law_inverse) := ⟨rfl, rfl, rfl, by decide +kernel, rfl, by decide +kernel, by decide +kernel⟩
abbrev s__law_small : Stmt := top 40
def N__law_small : List Str := ["_law_source_here"]
theorem sc__law_small : FnScope N__law_small ["_law_source_here"] (defScope s__law_small) := ⟨rfl, rfl, rfl, by decide +kernel, rfl, by decide +kernel, by decide +kernel⟩
abbrev s__law_right : Stmt := top 41
def N__law_right : List Str := ["_law_source_here", "_law_facts", "_law_count", "_law_gates_so", "_law_orders", "_law_there", "_law_back", "_law_x", "_law_at", "_law_parts_so", "_law_ends_so", "_law_total", "_law_place", "_law_longer", "_law_k", "_law_fact", "_law_part"]
theorem sc__law_right : FnScope N__law_right ["_law_source_here", "_law_facts"] (defScope s__law_right) := ⟨rfl, rfl, rfl, by decide +kernel, rfl, by decide +kernel, by decide +kernel⟩
abbrev s_law : Stmt := top 42
def N_law : List Str := ["_law_script", "_law_cell", "_law_source_here", "_law_k", "_law_facts", "_law_at"]
theorem sc_law : FnScope N_law ["_law_script"] (defScope s_law) := ⟨rfl, rfl, rfl, by decide +kernel, rfl, by decide +kernel, by decide +kernel⟩
/-! lowest -/
section
variable {P : Program} {w : World} {K : PySem.W.Frag} {mg : Str → Option Value} {base : Heap} {R : Rp}
theorem ok_gcd (A : DefAt K mg "common_divisor" s_common_divisor ["one", "other"]) : DefG P w K mg base 1 "common_divisor" ["one", "other"] spGcd := by
  obtain ⟨f, fd, F, hm, hb⟩ := A.ex
  refine ⟨f, fd, okN F sc_common_divisor (fun vs H Q E h => ?_) fun X H vs Q E hX hr tk h => ?_, hm, F.kp, hb⟩
  · obtain ⟨a, b, rfl, _⟩ := h
    rfl
  · obtain ⟨cdv, A, outer, s, rfl⟩ := hX
    have hN := sc_common_divisor.nd
    obtain ⟨a, b, rfl, hb, q⟩ := h
    refine bCons (sWhile (fun m σ H' => ∃ x y : Int, σ = [some (.int x), some (.int y)] ∧ H' = H ∧ Int.gcd x y = Int.gcd a b ∧ 0 ≤ y ∧ (y = 0 → 0 ≤ x) ∧ m = y.natAbs) b.natAbs ⟨a, b, rfl, rfl, rfl, by omega, by omega, rfl⟩ ?_)
    rintro m σ H' ⟨x, y, rfl, rfl, g, h1, h2, rfl⟩
    refine tTru (eV 1 rfl ⟨_, rfl, ?_⟩)
    by_cases hy : y = 0
    · subst hy
      refine iteF ?_
      refine bOne (sRet (eV 0 rfl ?_))
      have e : (Int.gcd a b : Int) = x := by
        rw [← g, Int.gcd_zero_right]
        have := h2 rfl
        omega
      rw [e] at q
      exact q
    · have e : (y != 0) = true := by simpa using hy
      rw [e]
      refine iteT ?_
      refine bOne (sPar 0 1 (aCons (eV 1 rfl (aCons (eOp op_mod (eV 0 rfl (eV 1 rfl ⟨_, _, rfl, rfl, (by omega), aNil ⟨_, _, rfl, ?_⟩⟩)))))))
      have l1 : 0 ≤ x % y := Int.emod_nonneg _ hy
      have l2 : x % y < y := Int.emod_lt_of_pos _ (by omega)
      exact ⟨(x % y).natAbs, by omega, y, x % y, rfl, rfl, (gcd_step x y).trans g, l1, fun _ => by omega, rfl⟩
theorem ok_low (hK : R.K = K) (A : DefAt K mg "lowest" s_lowest ["fraction"]) (G1 : DefG P w K mg base 1 "common_divisor" ["one", "other"] spGcd) : DefG P w K mg base 2 "lowest" ["fraction"] (spLow R) := by
  subst hK
  obtain ⟨f, fd, F, hm, hb⟩ := A.ex
  refine ⟨f, fd, okN F sc_lowest (fun vs H Q E h => ?_) fun X H vs Q E hX hr tk h => ?_, hm, F.kp, hb⟩
  · obtain ⟨S, v, p, q, n, rfl, _⟩ := h
    rfl
  · obtain ⟨cdv, A, outer, s, rfl⟩ := hX
    have hN := sc_lowest.nd
    obtain ⟨S, v, p, q, n, rfl, hS, hv, hq, pn, qn, hn, k⟩ := h
    refine bCons (sAsg (eV 0 rfl (gP hv (gsCons (gN 1 (gsCons (gN 2 (gsNil ?_))))))))
    · refine bCons (sSet 3 (eCall G1 hr tk (aCons (eV 1 rfl (aCons (eV 2 rfl (aNil ⟨p, q, rfl, hq, ?_⟩)))))))
      have gp := gcd_pos (p := p) hq
      have gl := gcd_le (p := p) hq
      have dv : ∀ z : Int, CDivW z (Int.gcd p q : Int) := fun z => ⟨gp, Nat.lt_of_lt_of_le (log2_small (show (Int.gcd p q : Int).natAbs < 2 ^ n by omega) (by omega)) hn⟩
      refine bOne (sRet (eTup (aCons (eOp op_fdivW (eV 1 rfl (eV 3 rfl ⟨_, _, rfl, rfl, dv _, ?_⟩))))))
      refine aCons (eOp op_fdivW (eV 2 rfl (eV 3 rfl ⟨_, _, rfl, rfl, dv _, aNil ⟨by show 2 ≤ sizeLine; decide, fun t ht => ?_⟩⟩)))
      refine k _ _ (same_new ht) ?_ (mkQ_sz hq pn qn)
      unfold frac
      rw [mkQ_num hq, mkQ_den hq]
      exact Is.newT hS ht (IsA.ints (is := [_, _]))
end
/-! gate -/
section
variable {P : Program} {w : World} {K : PySem.W.Frag} {mg : Str → Option Value} {base : Heap} {R : Rp}
theorem ok_bci {C : Addr} (A : ErrI K mg "BadCount" "BadCount.__init__" C s_BadCount_init ["self", "what", "count"]) (n1 : PySem.W.findIn K (.ref C) "what" = some none) (n2 : PySem.W.findIn K (.ref C) "count" = some none) :
    ErrG P w K mg base 1 "BadCount" C ["self", "what", "count"] (spErr2 "what" "count" C) := by
  obtain ⟨er, f, fd, iC, tI, F, hb⟩ := A
  refine ⟨er, f, fd, iC, tI, okN F sc_BadCount_init (fun vs H Q E h => ?_) fun X H vs Q E hX hr tk h => ?_, hb⟩
  · obtain ⟨a, v, u, rfl, _⟩ := h
    rfl
  · obtain ⟨cdv, A, outer, s, rfl⟩ := hX
    obtain ⟨a, v, u, rfl, ha, k⟩ := h
    refine bCons (sOst (eV 1 rfl (eV 0 rfl ⟨a, C, rfl, er.ox, n1, .inl ⟨ha, fun dx hd hne => ?_⟩⟩)))
    refine bOne (sOst (eV 2 rfl (eV 0 rfl ⟨a, C, rfl, er.ox, n2, .inr ⟨dx, _, upd_same, by rw [upd_ne hne, upd_same], by show 1 ≤ 900; decide, k dx hd hne⟩⟩)))
theorem ok_chk {C : Addr} (hK : R.K = K) (A : DefAt K mg "check_fraction" s_check_fraction ["fraction"]) (mgN : mg "GREATEST_NUMBER" = some (.int 1000000 0) ∨ ∃ t, mg "GREATEST_NUMBER" = some (.int 1000000 t)) (GE : ErrG P w K mg base 1 "BadCount" C ["self", "what", "count"] (spErr2 "what" "count" C)) :
    DefG P w K mg base 3 "check_fraction" ["fraction"] (spChk R C) := by
  subst hK
  obtain ⟨f, fd, F, hm, hb⟩ := A.ex
  have gN : ∃ t, mg "GREATEST_NUMBER" = some (.int 1000000 t) := by
    rcases mgN with z | z
    · exact ⟨_, z⟩
    · exact z
  obtain ⟨tn, gN⟩ := gN
  refine ⟨f, fd, okR F sc_check_fraction (fun vs H Q E h => ?_) fun X H vs Q E hX hr tk po h => ?_, hm, F.kp, hb⟩
  · obtain ⟨S, v, p, q, rfl, _⟩ := h
    rfl
  · obtain ⟨cdv, A, outer, s, rfl⟩ := hX
    have hN := sc_check_fraction.nd
    obtain ⟨S, v, p, q, rfl, hS, hv, kE, kQ⟩ := h
    refine bCons (sAsg (eV 0 rfl (gP hv (gsCons (BR.gN 1 (gsCons (BR.gN 2 (gsNil ?_))))))))
    · refine bCons (sIf (tCmp op_lt (eV 2 rfl (eI ⟨_, _, rfl, rfl, _, rfl, ?_⟩))))
      by_cases hq : q < 1
      · rw [decide_eq_true hq]
        refine iteT (bOne ?_)
        refine raise2 GE hr tk (aCons (eStr (aCons (eV 2 rfl (aNil ⟨_, _, rfl, ?_⟩)))))
        exact kE "bottom" q (by unfold dueF; rw [if_pos hq])
      · rw [decide_eq_false hq]
        refine iteF (bNil ?_)
        refine bOne (sFor (hp := po) (iT (eTup (aCons (eV 1 rfl (aCons (eV 2 rfl (aNil ⟨by show 2 ≤ sizeLine; decide, fun t ht => ?_⟩))))))))
        refine ⟨t, rfl, ⟨_, SqT.of upd_same⟩, 2, _, _, walk_tup (xs := [.int p, .int q]), fun i σ H' => (∃ a b c d, σ = [a, b, c, d]) ∧ Same H H' ∧ H' t = some (.tup [.int p, .int q]) ∧ (0 < i → -1000000 ≤ p ∧ p ≤ 1000000) ∧ (1 < i → -1000000 ≤ q ∧ q ≤ 1000000), ?_, ?_, ?_, ?_⟩
        · exact ⟨⟨_, _, _, _, rfl⟩, same_new ht, upd_same, by omega, by omega⟩
        · rintro i σ H' hi ⟨_, _, h, _⟩
          exact SqT.of h
        · rintro i x σ H' H2 hi ⟨⟨a, b, c, d, rfl⟩, s1, h1, h2, h3⟩ ⟨rfl, hx⟩
          have hx' : ∃ n : Int, x = .int n ∧ [p, q][i]? = some n := by
            have e : ([V.int p, V.int q] : List V) = [p, q].map V.int := rfl
            rw [e, List.getElem?_map] at hx
            cases z : [p, q][i]? with
            | none => rw [z] at hx; cases hx
            | some n => rw [z] at hx; cases hx; exact ⟨n, rfl, rfl⟩
          obtain ⟨n, rfl, hn⟩ := hx'
          refine BR.gN 3 (bOne (sIf (tNot (tChain op_le op_le (eUn un_neg (eGl (v := .int 1000000) gN ⟨_, rfl⟩ ⟨_, rfl, eV 3 rfl ⟨_, _, rfl, rfl, _, rfl, ?_⟩⟩))))))
          have bad : ¬ (-1000000 ≤ n ∧ n ≤ 1000000) → ∀ (t : Str), t = "number" → Gone "what" "count" C H2 (.str t) (.int n) E := fun z t et d H3 s3 hd he => by
            subst et
            refine kE "number" n ?_ d H3 (s1.trans s3) (s1.free hd) he
            unfold dueF
            rw [if_neg hq]
            match i, hi, hn with
            | 0, _, hn =>
              have e : p = n := Option.some.inj hn
              rw [e, if_pos z]
            | 1, _, hn =>
              have e : q = n := Option.some.inj hn
              rw [if_neg (by have := h2 (by omega); simpa using this), e, if_pos z]
          by_cases c1 : (-1000000 : Int) ≤ n
          · have : decide ((-1000000 : Int) ≤ n) = true := decide_eq_true c1
            rw [this]
            refine iteT (eGl (v := .int 1000000) gN ⟨_, rfl⟩ ⟨_, _, rfl, rfl, _, rfl, ?_⟩)
            by_cases c2 : n ≤ 1000000
            · rw [decide_eq_true c2]
              refine iteF (bNil ⟨⟨_, _, _, _, rfl⟩, s1, h1, ?_, ?_⟩)
              · intro _
                match i, hi, hn with
                | 0, _, hn =>
                  have e : p = n := Option.some.inj hn
                  omega
                | 1, _, _ => exact h2 (by omega)
              · intro z
                match i, hi, hn with
                | 0, _, _ => omega
                | 1, _, hn =>
                  have e : q = n := Option.some.inj hn
                  omega
            · rw [decide_eq_false c2]
              refine iteT (bOne (raise2 GE hr tk (aCons (eStr (aCons (eV 3 rfl (aNil ⟨_, _, rfl, ?_⟩)))))))
              exact bad (by omega) _ rfl
          · have : decide ((-1000000 : Int) ≤ n) = false := decide_eq_false c1
            rw [this]
            refine iteF ⟨_, rfl, iteT (bOne (raise2 GE hr tk (aCons (eStr (aCons (eV 3 rfl (aNil ⟨_, _, rfl, ?_⟩)))))))⟩
            exact bad (by omega) _ rfl
        · rintro σ H' ⟨_, s1, _, h2, h3⟩
          refine kQ ?_ H' s1
          unfold dueF
          rw [if_neg hq, if_neg (by have := h2 (by omega); simpa using this), if_neg (by have := h3 (by omega); simpa using this)]
theorem ok_gate {C CE : Addr} (hK : R.K = K) (hC : R.CA "Gate" = C) (A : InitAt K mg "Gate" "Gate.__init__" C s_Gate_init ["self", "factor", "amount"]) (c : Cls K C) (n1 : NoAttr K C "factor") (n2 : NoAttr K C "amount")
    (G1 : DefG P w K mg base 3 "check_fraction" ["fraction"] (spChk R CE)) (G2 : DefG P w K mg base 2 "lowest" ["fraction"] (spLow R)) (GE : ErrG P w K mg base 1 "BadCount" CE ["self", "what", "count"] (spErr2 "what" "count" CE)) :
    MakeG P w K mg base 4 "Gate" C ["self", "factor", "amount"] (spGate R CE) := by
  subst hK
  subst hC
  obtain ⟨f, fd, M, F, hm, hb⟩ := A.ex
  refine ⟨f, fd, M, okR F sc_Gate_init (fun vs H Q E h => ?_) fun X H vs Q E hX hr tk po h => ?_, hm, hb⟩
  · obtain ⟨S, H0, n, dx, x, y, p, q, a, b, rfl, _⟩ := h
    rfl
  · obtain ⟨cdv, A, outer, s, rfl⟩ := hX
    have hN := sc_Gate_init.nd
    obtain ⟨S, H0, n, dx, x, y, p, q, a, b, rfl, s0, n0, hn, l0, hx, hy, kE, kQ⟩ := h
    have l1 : Live S H := l0.up s0
    refine bCons <| sExpr <| eCall G1 hr tk <| aCons <| eV 1 rfl <| aNil ⟨S, x, p, q, rfl, l1, hx.up s0, fun t k e => (kE t k (by unfold dueG; rw [e]; rfl)).same s0, fun e1 H1 s1 => ?_⟩
    refine bCons <| sExpr <| eCall G1 hr tk <| aCons <| eV 2 rfl <| aNil ⟨S, y, a, b, rfl, l1.up s1, hy.up (s0.trans s1), fun t k e => (kE t k (by unfold dueG; rw [e1, e]; rfl)).same (s0.trans s1), fun e2 H2 s2 => ?_⟩
    have s02 := s0.trans (s1.trans s2)
    refine bCons <| sIf <| tCmp op_lt <| eIx ix_seq <| eV 1 rfl <| eI <| ixP (i := 0) (hx.up s02) rfl <| eI ⟨_, _, rfl, rfl, _, rfl, ?_⟩
    by_cases c1 : p < 1
    · rw [decide_eq_true c1]
      refine iteT <| bOne <| raise2 GE hr tk <| aCons <| eStr <| aCons <| eIx ix_seq <| eV 1 rfl <| eI <| ixP (i := 0) (hx.up s02) rfl <| aNil ⟨_, _, rfl, ?_⟩
      exact (kE "factor" p (by unfold dueG; rw [e1, e2]; simp [c1])).same s02
    · rw [decide_eq_false c1]
      refine iteF <| bNil ?_
      obtain ⟨b1, b2, b3, b4⟩ := dueF_none e1
      obtain ⟨d1, d2, d3, d4⟩ := dueF_none e2
      have t20 : (2 : Nat) ^ 20 = 1048576 := by decide
      refine bCons <| sFld <| eCall G2 hr tk <| aCons <| eV 1 rfl <| aNil ⟨S, x, p, q, 20, rfl, l0.up s02, hx.up s02, by omega, by omega, by omega, by omega, fun v3 H3 s3 f3 z3 => ?_⟩
      have hn3 : H3 n = some (.ins (R.CA "Gate") dx []) := s3 _ _ (s2 _ _ (s1 _ _ hn))
      refine eV 0 rfl ⟨n, _, dx, [], rfl, hn3, c, n1, by show 0 < 1000; decide, ?_⟩
      have s04 : Same H0 (upd H3 n (.ins (R.CA "Gate") dx (putF "factor" v3 []))) := fun b o e => by
        rw [upd_ne (ne_of_none e n0)]
        exact s3 _ _ (s02 _ _ e)
      have f4 := Is.kpI (kpI_upd (C' := R.CA "Gate") (dx' := dx) (fs' := putF "factor" v3 []) hn3) f3 rfl
      refine bOne <| sFld <| eCall G2 hr tk <| aCons <| eV 2 rfl <| aNil ⟨S, y, a, b, 20, rfl, l0.up s04, hy.up s04, by omega, by omega, by omega, by omega, fun v5 H5 s5 f5 z5 => ?_⟩
      have hn5 : H5 n = some (.ins (R.CA "Gate") dx (putF "factor" v3 [])) := s5 _ _ upd_same
      refine eV 0 rfl ⟨n, _, dx, _, rfl, hn5, c, n2, by show 1 < 1000; decide, ?_⟩
      refine kQ (by unfold dueG; rw [e1, e2]; simp [c1]) _ ?_ ?_ z3 z5 (mkQ_pos (by omega) (by omega))
      · intro b o e
        rw [upd_ne (ne_of_none e n0)]
        exact s5 _ _ (s04 _ _ e)
      · refine .obj (l0.new n0) upd_same ?_
        have ep : putF "amount" v5 (putF "factor" v3 []) = ([("factor", v3), ("amount", v5)] : List (Str × V)) := by
          show (if ("factor" : Str) = "amount" then _ else _) = _
          rw [if_neg (by decide +kernel)]
          rfl
        rw [ep]
        have k6 := kpI_upd (C' := R.CA "Gate") (dx' := dx) (fs' := ([("factor", v3), ("amount", v5)] : List (Str × V))) hn5
        exact .cons (Is.kpI k6 (f4.up s5) rfl) (.cons (Is.kpI k6 f5 rfl) .nil)
end
/-! arith -/
section
variable {P : Program} {w : World} {K : PySem.W.Frag} {mg : Str → Option Value} {base : Heap} {R : Rp}
theorem ok_times (hK : R.K = K) (A : DefAt K mg "times" s_times ["one", "other"]) (G2 : DefG P w K mg base 2 "lowest" ["fraction"] (spLow R)) : DefG P w K mg base 3 "times" ["one", "other"] (spTimes R) := by
  subst hK
  obtain ⟨f, fd, F, hm, hb⟩ := A.ex
  refine ⟨f, fd, okN F sc_times (fun vs H Q E h => ?_) fun X H vs Q E hX hr tk h => ?_, hm, F.kp, hb⟩
  · obtain ⟨S, v, u, n, m, r, t, rfl, _⟩ := h
    rfl
  · obtain ⟨cdv, A, outer, s, rfl⟩ := hX
    obtain ⟨S, v, u, n, m, r, t, rfl, hS, hv, hu, h9, _, k⟩ := h
    obtain ⟨a, b, p1, b0, an, bn, rfl, n0⟩ := hv.ex
    obtain ⟨c, d, p2, d0, cn, dn, rfl, m0⟩ := hu.ex
    have h9' : n + m ≤ 8999 := h9
    refine bOne <| sRet <| eCall G2 hr tk <| aCons <| eTup <| aCons <| eOp op_mulW <| eIx ix_seq <| eV 0 rfl <| eI <| ixP (i := 0) p1 rfl <| eIx ix_seq <| eV 1 rfl <| eI <| ixP (i := 0) p2 rfl ⟨_, _, rfl, rfl, mulW an cn n0 m0 (by omega), ?_⟩
    refine aCons <| eOp op_mulW <| eIx ix_seq <| eV 0 rfl <| eI <| ixP (i := 1) p1 rfl <| eIx ix_seq <| eV 1 rfl <| eI <| ixP (i := 1) p2 rfl ⟨_, _, rfl, rfl, mulW bn dn n0 m0 (by omega), aNil ⟨by show 2 ≤ sizeLine; decide, fun z hz => ?_⟩⟩
    refine aNil ⟨S, _, a * c, b * d, n + m, rfl, hS.up (same_new hz), .inl (Is.newT hS hz (IsA.ints (is := [a * c, b * d]))), Int.mul_pos b0 d0, abs_mul an cn, abs_mul bn dn, by omega, fun v' H' s f => ?_⟩
    rw [mkQ_mul] at f ⊢
    exact fun z' => k _ _ ((same_new hz).trans s) f z'
theorem ok_plus (hK : R.K = K) (A : DefAt K mg "plus" s_plus ["one", "other"]) (G2 : DefG P w K mg base 2 "lowest" ["fraction"] (spLow R)) : DefG P w K mg base 3 "plus" ["one", "other"] (spPlus R) := by
  subst hK
  obtain ⟨f, fd, F, hm, hb⟩ := A.ex
  refine ⟨f, fd, okN F sc_plus (fun vs H Q E h => ?_) fun X H vs Q E hX hr tk h => ?_, hm, F.kp, hb⟩
  · obtain ⟨S, v, u, n, m, r, t, rfl, _⟩ := h
    rfl
  · obtain ⟨cdv, A, outer, s, rfl⟩ := hX
    obtain ⟨S, v, u, n, m, r, t, rfl, hS, hv, hu, h9, _, k⟩ := h
    obtain ⟨a, b, p1, b0, an, bn, rfl, n0⟩ := hv.ex
    obtain ⟨c, d, p2, d0, cn, dn, rfl, m0⟩ := hu.ex
    have h9' : n + m + 1 ≤ 8999 := h9
    refine bOne <| sRet <| eCall G2 hr tk <| aCons <| eTup <| aCons <| eOp op_add <| eOp op_mulW <| eIx ix_seq <| eV 0 rfl <| eI <| ixP (i := 0) p1 rfl <| eIx ix_seq <| eV 1 rfl <| eI <| ixP (i := 1) p2 rfl ⟨_, _, rfl, rfl, mulW an dn n0 m0 (by omega), ?_⟩
    refine eOp op_mulW <| eIx ix_seq <| eV 1 rfl <| eI <| ixP (i := 0) p2 rfl <| eIx ix_seq <| eV 0 rfl <| eI <| ixP (i := 1) p1 rfl ⟨_, _, rfl, rfl, mulW cn bn m0 n0 (by omega), _, _, rfl, rfl, ?_⟩
    refine aCons <| eOp op_mulW <| eIx ix_seq <| eV 0 rfl <| eI <| ixP (i := 1) p1 rfl <| eIx ix_seq <| eV 1 rfl <| eI <| ixP (i := 1) p2 rfl ⟨_, _, rfl, rfl, mulW bn dn n0 m0 (by omega), aNil ⟨by show 2 ≤ sizeLine; decide, fun z hz => ?_⟩⟩
    refine aNil ⟨S, _, a * d + c * b, b * d, n + m + 1, rfl, hS.up (same_new hz), .inl (Is.newT hS hz (IsA.ints (is := [a * d + c * b, b * d]))), Int.mul_pos b0 d0, abs_add (abs_mul an dn) (by have := abs_mul cn bn; rw [Nat.add_comm] at this; exact this), Nat.lt_of_lt_of_le (abs_mul bn dn) (pow_le2 (Nat.le_succ _)), by omega, fun v' H' s f => ?_⟩
    rw [mkQ_add b0 d0] at f ⊢
    exact fun z' => k _ _ ((same_new hz).trans s) f z'
end
/-! minus -/
section
variable {P : Program} {w : World} {K : PySem.W.Frag} {mg : Str → Option Value} {base : Heap} {R : Rp}
theorem ok_minus (hK : R.K = K) (A : DefAt K mg "minus" s_minus ["one", "other"]) (G2 : DefG P w K mg base 2 "lowest" ["fraction"] (spLow R)) : DefG P w K mg base 3 "minus" ["one", "other"] (spMinus R) := by
  subst hK
  obtain ⟨f, fd, F, hm, hb⟩ := A.ex
  refine ⟨f, fd, okN F sc_minus (fun vs H Q E h => ?_) fun X H vs Q E hX hr tk h => ?_, hm, F.kp, hb⟩
  · obtain ⟨S, v, u, n, m, r, t, rfl, _⟩ := h
    rfl
  · obtain ⟨cdv, A, outer, s, rfl⟩ := hX
    obtain ⟨S, v, u, n, m, r, t, rfl, hS, hv, hu, h9, _, k⟩ := h
    obtain ⟨a, b, p1, b0, an, bn, rfl, n0⟩ := hv.ex
    obtain ⟨c, d, p2, d0, cn, dn, rfl, m0⟩ := hu.ex
    have h9' : n + m + 1 ≤ 8999 := h9
    refine bOne <| sRet <| eCall G2 hr tk <| aCons <| eTup <| aCons <| eOp op_sub <| eOp op_mulW <| eIx ix_seq <| eV 0 rfl <| eI <| ixP (i := 0) p1 rfl <| eIx ix_seq <| eV 1 rfl <| eI <| ixP (i := 1) p2 rfl ⟨_, _, rfl, rfl, mulW an dn n0 m0 (by omega), ?_⟩
    refine eOp op_mulW <| eIx ix_seq <| eV 1 rfl <| eI <| ixP (i := 0) p2 rfl <| eIx ix_seq <| eV 0 rfl <| eI <| ixP (i := 1) p1 rfl ⟨_, _, rfl, rfl, mulW cn bn m0 n0 (by omega), _, _, rfl, rfl, ?_⟩
    refine aCons <| eOp op_mulW <| eIx ix_seq <| eV 0 rfl <| eI <| ixP (i := 1) p1 rfl <| eIx ix_seq <| eV 1 rfl <| eI <| ixP (i := 1) p2 rfl ⟨_, _, rfl, rfl, mulW bn dn n0 m0 (by omega), aNil ⟨by show 2 ≤ sizeLine; decide, fun z hz => ?_⟩⟩
    refine aNil ⟨S, _, a * d - c * b, b * d, n + m + 1, rfl, hS.up (same_new hz), .inl (Is.newT hS hz (IsA.ints (is := [a * d - c * b, b * d]))), Int.mul_pos b0 d0, abs_sub (abs_mul an dn) (by have := abs_mul cn bn; rw [Nat.add_comm] at this; exact this), Nat.lt_of_lt_of_le (abs_mul bn dn) (pow_le2 (Nat.le_succ _)), by omega, fun v' H' s f => ?_⟩
    rw [mkQ_sub b0 d0] at f ⊢
    exact fun z' => k _ _ ((same_new hz).trans s) f z'
end
/-! drawA -/
section
variable {P : Program} {w : World} {K : PySem.W.Frag} {mg : Str → Option Value} {base : Heap} {R : Rp}
theorem ok_src (A : DefAt K mg "_law_source" s__law_source ["_law_cell"]) (mA : mg "abs" = none) : DefG P w K mg base 1 "_law_source" ["_law_cell"] spSource := by
  obtain ⟨f, fd, F, hm, hb⟩ := A.ex
  refine ⟨f, fd, okN F sc__law_source (fun vs H Q E h => ?_) fun X H vs Q E hX hr tk h => ?_, hm, F.kp, hb⟩
  · obtain ⟨n, rfl, _⟩ := h
    rfl
  · obtain ⟨cdv, A, outer, s, rfl⟩ := hX
    obtain ⟨n, rfl, k⟩ := h
    refine bOne <| sRet <| eLst <| aCons <| eCB call_abs mA <| aCons <| eV 0 rfl <| aNil ⟨_, rfl, ?_⟩
    refine aCons <| eOp op_mod <| eV 0 rfl <| eI ⟨_, _, rfl, rfl, by show (0 : Int) < 2147483629; decide, ?_⟩
    refine aCons <| eI <| aNil ⟨by show 3 ≤ sizeLine; decide, fun p hp => k p _ (same_new hp) hp ?_⟩
    have m0 : 0 ≤ n % 2147483629 := Int.emod_nonneg _ (by decide)
    have m1 : n % 2147483629 < 2147483629 := Int.emod_lt_of_pos _ (by decide)
    refine ⟨if n < 0 then -n else n, ⟨(n % 2147483629).toNat, by omega⟩, 0, ?_⟩
    show _ = some (HO.lst [_, .int (((n % 2147483629).toNat : Nat) : Int), _])
    rw [Int.toNat_of_nonneg m0]
    exact upd_same
theorem ok_draw (hK : R.K = K) (A : DefAt K mg "_law_draw" s__law_draw ["_law_source_here", "_law_many"]) : DefG P w K mg base 1 "_law_draw" ["_law_source_here", "_law_many"] spDraw := by
  subst hK
  obtain ⟨f, fd, F, hm, hb⟩ := A.ex
  refine ⟨f, fd, okN F sc__law_draw (fun vs H Q E h => ?_) fun X H vs Q E hX hr tk h => ?_, hm, F.kp, hb⟩
  · obtain ⟨s, n, rfl, _⟩ := h
    rfl
  · obtain ⟨cdv, A, outer, sh, rfl⟩ := hX
    have hN := sc__law_draw.nd
    obtain ⟨s, n, rfl, hs, hn, hl, k⟩ := h
    obtain ⟨a, bF, c, e⟩ := id hs
    obtain ⟨b, hbF⟩ : ∃ b : Int, b = (bF.val : Nat) := ⟨_, rfl⟩
    rw [← hbF] at e
    have ix : ∀ {H : Hp} {Q : VK} {xs : List V} {i : Nat} {j : Int}, H s = some (.lst xs) → xs[i]? = some (.int j) → Q (.int j) H → rIx R.K (.ref s) (.int (i : Nat)) H Q := fun h1 h2 q => .inl ⟨s, _, _, _, rfl, rfl, SqL.of h1, atI_nat h2, q⟩
    refine bCons <| sIf <| tCmp op_ge <| eIx ix_seq <| eV 0 rfl <| eI <| ix (i := 0) e rfl <| eOp op_pow <| eI <| eI ⟨_, _, rfl, rfl, ⟨by decide, by decide, by decide⟩, _, _, rfl, rfl, _, rfl, ?_⟩
    refine ite2 (fun c1 => ?_) (fun c1 => ?_)
    · refine bCons <| sSet 2 <| eOp op_mod <| eIx ix_seq <| eV 0 rfl <| eI <| ix (i := 0) e rfl <| eV 1 rfl ⟨_, _, rfl, rfl, hn, ?_⟩
      refine bCons <| sAsg <| eOp op_fdivW <| eIx ix_seq <| eV 0 rfl <| eI <| ix (i := 0) e rfl <| eV 1 rfl ⟨_, _, rfl, rfl, ⟨hn, hl⟩, ?_⟩
      refine gSb set_list <| eV 0 rfl <| eI ⟨s, _, 0, 0, rfl, rfl, e, rfl, ?_⟩
      exact bOne <| sRet <| eV 2 rfl <| k _ _ (hbF ▸ Dr.upd hs _ bF _) (Int.emod_nonneg _ (by omega)) (Int.emod_lt_of_pos _ hn)
    · refine bNil <| bCons <| sAsg <| eOp op_add <| eIx ix_seq <| eV 0 rfl <| eI <| ix (i := 2) e rfl <| eI ⟨_, _, rfl, rfl, ?_⟩
      refine gSb set_list <| eV 0 rfl <| eI ⟨s, _, 2, 2, rfl, rfl, e, rfl, ?_⟩
      have e2 : upd H s (.lst ([V.int a, V.int b, V.int c].set 2 (.int (c + 1)))) s = some (.lst [.int a, .int b, .int (c + 1)]) := upd_same
      refine bCons <| sSet 3 <| eOp op_mod <| eOp op_mul <| eOp op_add <| eOp op_add <| eIx ix_seq <| eV 0 rfl <| eI <| ix (i := 1) e2 rfl <| eOp op_mul <| eI <| eIx ix_seq <| eV 0 rfl <| eI <| ix (i := 2) e2 rfl ⟨_, _, rfl, rfl, .inl (by decide), _, _, rfl, rfl, ?_⟩
      refine eI ⟨_, _, rfl, rfl, eI ⟨_, _, rfl, rfl, .inr (by decide), eI ⟨_, _, rfl, rfl, by show (0 : Int) < 2147483647; decide, ?_⟩⟩⟩
      have m0 : 0 ≤ (b + 7919 * (c + 1) + 1) * 48271 % 2147483647 := Int.emod_nonneg _ (by decide)
      have m1 : (b + 7919 * (c + 1) + 1) * 48271 % 2147483647 < 2147483647 := Int.emod_lt_of_pos _ (by decide)
      generalize hm : (b + 7919 * (c + 1) + 1) * 48271 % 2147483647 = m at m0 m1 ⊢
      refine bCons <| sSet 3 <| eOp op_mod <| eOp op_mul <| eV 3 rfl <| eOp op_add <| eOp op_fdiv <| eV 3 rfl <| eI ⟨_, _, rfl, rfl, ⟨by decide, by decide⟩, eI ⟨_, _, rfl, rfl, _, _, rfl, rfl, .inl ⟨by omega, by omega⟩, eI ⟨_, _, rfl, rfl, by show (0 : Int) < 2147483587; decide, ?_⟩⟩⟩
      refine bOne <| sRet <| eOp op_mod <| eOp op_mod <| eOp op_add <| eOp op_fdiv <| eV 3 rfl <| eI ⟨_, _, rfl, rfl, ⟨by decide, by decide⟩, ?_⟩
      refine eOp op_mul <| eOp op_mod <| eV 3 rfl <| eI ⟨_, _, rfl, rfl, by show (0 : Int) < 7919; decide, eI ⟨_, _, rfl, rfl, .inr (by decide), _, _, rfl, rfl, eI ⟨_, _, rfl, rfl, by show (0 : Int) < 2147483399; decide, eV 1 rfl ⟨_, _, rfl, rfl, hn, ?_⟩⟩⟩⟩
      exact k _ _ (hbF ▸ Dr.upd hs _ bF _) (Int.emod_nonneg _ (by omega)) (Int.emod_lt_of_pos _ hn)
theorem ok_pick (hK : R.K = K) (A : DefAt K mg "_law_pick" s__law_pick ["_law_source_here", "_law_some"]) (mL : mg "len" = none) (G1 : DefG P w K mg base 1 "_law_draw" ["_law_source_here", "_law_many"] spDraw) :
    DefG P w K mg base 2 "_law_pick" ["_law_source_here", "_law_some"] (spPick R) := by
  subst hK
  obtain ⟨f, fd, F, hm, hb⟩ := A.ex
  refine ⟨f, fd, okN F sc__law_pick (fun vs H Q E h => ?_) fun X H vs Q E hX hr tk h => ?_, hm, F.kp, hb⟩
  · obtain ⟨s, l, ds, rfl, _⟩ := h
    rfl
  · obtain ⟨cdv, A, outer, sh, rfl⟩ := hX
    obtain ⟨s, l, ds, rfl, hs, hl, h0, h1, k⟩ := h
    obtain ⟨a, xs, rfl, _, ea, ia⟩ := id hl.lstE
    have hx := ia.len
    refine bOne <| sRet <| eIx ix_seq <| eV 1 rfl <| eCall G1 hr tk <| aCons <| eV 0 rfl <| aCons <| eCB call_len_seq mL <| aCons <| eV 1 rfl <| aNil ⟨a, xs, rfl, .inl (SqL.of ea), ?_⟩
    refine aNil ⟨s, _, rfl, hs, by omega, ?_, fun r H' d r0 r1 => ?_⟩
    · have : ((xs.length : Int)).natAbs ≤ 1000 := by omega
      exact Nat.lt_of_le_of_lt (Nat.log2_le_self _) (by omega)
    · have e : r = ((r.toNat : Nat) : Int) := by omega
      have hi : r.toNat < ds.length := by omega
      rw [e]
      exact ixD (hl.dr d) rfl (List.getElem?_eq_getElem hi) fun x ix => k r.toNat _ x H' d (List.getElem?_eq_getElem hi) ix
end
/-! gateA -/
section
variable {P : Program} {w : World} {K : PySem.W.Frag} {mg : Str → Option Value} {base : Heap} {R : Rp}
theorem ok_fra (hK : R.K = K) (A : DefAt K mg "_law_fraction" s__law_fraction ["_law_source_here", "_law_high"]) (G1 : DefG P w K mg base 1 "_law_draw" ["_law_source_here", "_law_many"] spDraw) (G2 : DefG P w K mg base 2 "_law_pick" ["_law_source_here", "_law_some"] (spPick R)) :
    DefG P w K mg base 3 "_law_fraction" ["_law_source_here", "_law_high"] (spFra R) := by
  subst hK
  obtain ⟨f, fd, F, hm, hb⟩ := A.ex
  refine ⟨f, fd, okN F sc__law_fraction (fun vs H Q E h => ?_) fun X H vs Q E hX hr tk h => ?_, hm, F.kp, hb⟩
  · obtain ⟨s, h, rfl, _⟩ := h
    rfl
  · obtain ⟨cdv, A, outer, sh, rfl⟩ := hX
    have hN := sc__law_fraction.nd
    obtain ⟨s, h, rfl, hs, h2, h9, k⟩ := h
    have big : h ≤ 2 ^ 210 := Int.le_trans h9 (by decide)
    have l1 : h.natAbs.log2 < 9000 := log_of (by omega) big
    have l2 : (2 * h + 1).natAbs.log2 < 9000 := log_of (by omega) (by
      have : (2 : Int) ^ 210 = 2 ^ 200 * 2 ^ 10 := by decide
      have : (4 : Int) ≤ 2 ^ 10 := by decide
      have : (2 : Int) ^ 200 * 4 ≤ 2 ^ 200 * 2 ^ 10 := Int.mul_le_mul_of_nonneg_left this (by decide)
      omega)
    refine bCons <| sSet 2 <| eCall G2 hr tk <| aCons <| eV 0 rfl <| aCons <| eLst <| aCons <| eI <| aCons <| eI <| aCons <| eUn un_neg <| eI ⟨_, rfl, ?_⟩
    refine aCons <| eOp op_sub <| eCall G1 hr tk <| aCons <| eV 0 rfl <| aCons <| eOp op_add <| eOp op_mul <| eI <| eV 1 rfl ⟨_, _, rfl, rfl, .inl (by decide), eI ⟨_, _, rfl, rfl, ?_⟩⟩
    refine aNil ⟨s, _, rfl, hs, by omega, l2, fun r1 H1 d1 r1a r1b => eV 1 rfl ⟨_, _, rfl, rfl, ?_⟩⟩
    refine aCons <| eV 1 rfl <| aCons <| eOp op_sub <| eI <| eV 1 rfl ⟨_, _, rfl, rfl, aNil ⟨by show 6 ≤ sizeLine; decide, fun p hp => ?_⟩⟩
    have d2 := d1.then (same_new (o := .lst [.int 0, .int 1, .int (-1), .int (r1 - h), .int h, .int (0 - h)]) hp)
    refine aNil <| pickI d2.src (is := [0, 1, -1, r1 - h, h, 0 - h]) (Is.newL d1.live hp (IsA.ints (is := [0, 1, -1, r1 - h, h, 0 - h]))) (by simp) (by simp) fun t H3 d3 ht => ?_
    have ht2 : -h ≤ t ∧ t ≤ h := by simp at ht; omega
    have d03 := d2.trans d3
    refine bOne <| sRet <| eTup <| aCons <| eV 2 rfl <| aCons <| eCall G2 hr tk <| aCons <| eV 0 rfl <| aCons <| eLst <| aCons <| eI <| aCons <| eI <| aCons <| eI ?_
    refine aCons <| eOp op_add <| eI <| eCall G1 hr tk <| aCons <| eV 0 rfl <| aCons <| eV 1 rfl <| aNil ⟨s, _, rfl, d3.src, by omega, l1, fun r4 H4 d4 r4a r4b => ⟨_, _, rfl, rfl, ?_⟩⟩
    refine aCons <| eV 1 rfl <| aNil ⟨by show 5 ≤ sizeLine; decide, fun p5 hp5 => ?_⟩
    have d5 := d4.then (same_new (o := .lst [.int 1, .int 1, .int 2, .int (1 + r4), .int h]) hp5)
    refine aNil <| pickI d5.src (is := [1, 1, 2, 1 + r4, h]) (Is.newL d4.live hp5 (IsA.ints (is := [1, 1, 2, 1 + r4, h]))) (by simp) (by simp) fun b H6 d6 hb6 => ?_
    have hb2 : 1 ≤ b ∧ b ≤ h := by simp at hb6; omega
    refine aNil ⟨by show 2 ≤ sizeLine; decide, fun p7 hp7 => ?_⟩
    exact k t b _ _ ((d03.trans (d5.trans d6)).then (same_new hp7)) (Is.newT d6.live hp7 (IsA.ints (is := [t, b]))) ht2.1 ht2.2 hb2.1 hb2.2
theorem ok_gt (hK : R.K = K) (A : DefAt K mg "_law_gate" s__law_gate ["_law_source_here", "_law_high"]) (G1 : DefG P w K mg base 1 "_law_draw" ["_law_source_here", "_law_many"] spDraw) (G2 : DefG P w K mg base 2 "_law_pick" ["_law_source_here", "_law_some"] (spPick R))
    (G3 : DefG P w K mg base 3 "_law_fraction" ["_law_source_here", "_law_high"] (spFra R)) : DefG P w K mg base 4 "_law_gate" ["_law_source_here", "_law_high"] (spGt R) := by
  subst hK
  obtain ⟨f, fd, F, hm, hb⟩ := A.ex
  refine ⟨f, fd, okN F sc__law_gate (fun vs H Q E h => ?_) fun X H vs Q E hX hr tk h => ?_, hm, F.kp, hb⟩
  · obtain ⟨s, h, rfl, _⟩ := h
    rfl
  · obtain ⟨cdv, A, outer, sh, rfl⟩ := hX
    have hN := sc__law_gate.nd
    obtain ⟨s, h, rfl, hs, h2, h9, k⟩ := h
    have big : h ≤ 2 ^ 210 := Int.le_trans h9 (by decide)
    have l1 : h.natAbs.log2 < 9000 := log_of (by omega) big
    refine bCons <| sSet 2 <| eCall G2 hr tk <| aCons <| eV 0 rfl <| aCons <| eLst <| aCons <| eI <| aCons <| eI <| aCons <| eI <| aCons <| eI ?_
    refine aCons <| eOp op_add <| eI <| eCall G1 hr tk <| aCons <| eV 0 rfl <| aCons <| eV 1 rfl <| aNil ⟨s, _, rfl, hs, by omega, l1, fun r1 H1 d1 r1a r1b => ⟨_, _, rfl, rfl, ?_⟩⟩
    refine aCons <| eV 1 rfl <| aNil ⟨by show 6 ≤ sizeLine; decide, fun p hp => ?_⟩
    have d2 := d1.then (same_new (o := .lst [.int 1, .int 1, .int 2, .int 3, .int (1 + r1), .int h]) hp)
    refine aNil <| pickI d2.src (is := [1, 1, 2, 3, 1 + r1, h]) (Is.newL d1.live hp (IsA.ints (is := [1, 1, 2, 3, 1 + r1, h]))) (by simp) (by simp) fun p3 H3 d3 ht => ?_
    have ht2 : 1 ≤ p3 ∧ p3 ≤ h := by simp at ht; omega
    have d03 := d2.trans d3
    refine bCons <| sSet 3 <| eCall G2 hr tk <| aCons <| eV 0 rfl <| aCons <| eLst <| aCons <| eI <| aCons <| eI <| aCons <| eI <| aCons <| eI ?_
    refine aCons <| eOp op_add <| eI <| eCall G1 hr tk <| aCons <| eV 0 rfl <| aCons <| eV 1 rfl <| aNil ⟨s, _, rfl, d3.src, by omega, l1, fun r4 H4 d4 r4a r4b => ⟨_, _, rfl, rfl, ?_⟩⟩
    refine aCons <| eV 1 rfl <| aNil ⟨by show 6 ≤ sizeLine; decide, fun p5 hp5 => ?_⟩
    have d5 := d4.then (same_new (o := .lst [.int 1, .int 1, .int 2, .int 3, .int (1 + r4), .int h]) hp5)
    refine aNil <| pickI d5.src (is := [1, 1, 2, 3, 1 + r4, h]) (Is.newL d4.live hp5 (IsA.ints (is := [1, 1, 2, 3, 1 + r4, h]))) (by simp) (by simp) fun q6 H6 d6 hq6 => ?_
    have hq2 : 1 ≤ q6 ∧ q6 ≤ h := by simp at hq6; omega
    have d06 := d03.trans (d5.trans d6)
    refine bOne <| sRet <| eTup <| aCons <| eTup <| aCons <| eV 2 rfl <| aCons <| eV 3 rfl <| aNil ⟨by show 2 ≤ sizeLine; decide, fun p7 hp7 => ?_⟩
    have d7 := d06.then (same_new (o := .tup [.int p3, .int q6]) hp7)
    have i7 : Is R (Src s) _ (.ref p7) (.tup [.int p3, .int q6]) := Is.newT d6.live hp7 (IsA.ints (is := [p3, q6]))
    refine aCons <| eCall G3 hr tk <| aCons <| eV 0 rfl <| aCons <| eV 1 rfl <| aNil ⟨s, h, rfl, d7.src, by omega, h9, fun t b v8 H8 d8 i8 t1 t2 b1 b2 => ?_⟩
    refine aNil ⟨by show 2 ≤ sizeLine; decide, fun p9 hp9 => ?_⟩
    exact k p3 q6 t b _ _ ((d7.trans d8).then (same_new hp9)) (Is.newT d8.live hp9 (.cons (i7.dr d8) (.cons i8 .nil))) ht2.1 ht2.2 hq2.1 hq2.2 t1 t2 b1 b2
end
/-! lawlow -/
section
variable {P : Program} {w : World} {K : PySem.W.Frag} {mg : Str → Option Value} {base : Heap} {R : Rp}
theorem ok__law_low (hK : R.K = K) (A : DefAt K mg "_law_low" s__law_low ["_law_top", "_law_bottom"]) (mA : mg "abs" = none) : DefG P w K mg base 1 "_law_low" ["_law_top", "_law_bottom"] (spLow2 R) := by
  subst hK
  obtain ⟨f, fd, F, hm, hb⟩ := A.ex
  refine ⟨f, fd, okN F sc__law_low (fun vs H Q E h => ?_) fun X H vs Q E hX hr tk h => ?_, hm, F.kp, hb⟩
  · obtain ⟨S, a, b, n, rfl, _⟩ := h
    rfl
  · obtain ⟨cdv, A, outer, s, rfl⟩ := hX
    have hN := sc__law_low.nd
    obtain ⟨S, a, b, n, rfl, hS, b0, an, bn, h9, k⟩ := h
    refine bCons <| sPar 2 3 <| aCons <| eCB call_abs mA <| aCons <| eV 0 rfl <| aNil ⟨_, rfl, aCons <| eV 1 rfl <| aNil ⟨_, _, rfl, ?_⟩⟩
    refine bCons (sWhile (fun m σ H' => ∃ x y : Int, σ = [some (.int a), some (.int b), some (.int x), some (.int y)] ∧ H' = H ∧ Int.gcd x y = Int.gcd a b ∧ 0 ≤ y ∧ 0 ≤ x ∧ m = y.natAbs) b.natAbs ⟨_, b, rfl, rfl, ?_, by omega, ?_, rfl⟩ ?_)
    · split
      · rw [Int.neg_gcd]
      · rfl
    · split <;> omega
    rintro m σ H' ⟨x, y, rfl, rfl, g, h1, h2, rfl⟩
    refine tCmp op_gt <| eV 3 rfl <| eI ⟨_, _, rfl, rfl, _, rfl, ?_⟩
    by_cases hy : 0 < y
    · rw [decide_eq_true hy]
      refine iteT <| bOne <| sPar 2 3 <| aCons <| eV 3 rfl <| aCons <| eOp op_mod <| eV 2 rfl <| eV 3 rfl ⟨_, _, rfl, rfl, hy, aNil ⟨_, _, rfl, ?_⟩⟩
      have l1 : 0 ≤ x % y := Int.emod_nonneg _ (by omega)
      have l2 : x % y < y := Int.emod_lt_of_pos _ hy
      exact ⟨(x % y).natAbs, by omega, y, x % y, rfl, rfl, (gcd_step x y).trans g, l1, h1, rfl⟩
    · rw [decide_eq_false hy]
      have y0 : y = 0 := by omega
      subst y0
      have e : x = (Int.gcd a b : Int) := by
        rw [← g, Int.gcd_zero_right]
        omega
      subst e
      have gp := gcd_pos (p := a) b0
      have gl := gcd_le (p := a) b0
      have dv : ∀ z : Int, CDivW z (Int.gcd a b : Int) := fun z => ⟨gp, Nat.lt_of_lt_of_le (log2_small (show (Int.gcd a b : Int).natAbs < 2 ^ n by omega) (by omega)) h9⟩
      refine iteF <| bOne <| sRet <| eTup <| aCons <| eOp op_fdivW <| eV 0 rfl <| eV 2 rfl ⟨_, _, rfl, rfl, dv _, ?_⟩
      refine aCons <| eOp op_fdivW <| eV 1 rfl <| eV 2 rfl ⟨_, _, rfl, rfl, dv _, aNil ⟨by show 2 ≤ sizeLine; decide, fun t ht => ?_⟩⟩
      refine k _ _ (same_new ht) ?_ (mkQ_sz b0 an bn)
      unfold frac
      rw [mkQ_num b0, mkQ_den b0]
      exact Is.newT hS ht (IsA.ints (is := [_, _]))
theorem ok__law_mul (hK : R.K = K) (A : DefAt K mg "_law_mul" s__law_mul ["_law_one", "_law_other"]) (G2 : DefG P w K mg base 1 "_law_low" ["_law_top", "_law_bottom"] (spLow2 R)) : DefG P w K mg base 2 "_law_mul" ["_law_one", "_law_other"] (spTimes R) := by
  subst hK
  obtain ⟨f, fd, F, hm, hb⟩ := A.ex
  refine ⟨f, fd, okN F sc__law_mul (fun vs H Q E h => ?_) fun X H vs Q E hX hr tk h => ?_, hm, F.kp, hb⟩
  · obtain ⟨S, v, u, n, m, r, t, rfl, _⟩ := h
    rfl
  · obtain ⟨cdv, A, outer, s, rfl⟩ := hX
    obtain ⟨S, v, u, n, m, r, t, rfl, hS, hv, hu, h9, _, k⟩ := h
    obtain ⟨a, b, p1, b0, an, bn, rfl, n0⟩ := hv.ex
    obtain ⟨c, d, p2, d0, cn, dn, rfl, m0⟩ := hu.ex
    have h9' : n + m ≤ 8999 := h9
    refine bOne <| sRet <| eCall G2 hr tk <| aCons <| eOp op_mulW <| eIx ix_seq <| eV 0 rfl <| eI <| ixP (i := 0) p1 rfl <| eIx ix_seq <| eV 1 rfl <| eI <| ixP (i := 0) p2 rfl ⟨_, _, rfl, rfl, mulW an cn n0 m0 (by omega), ?_⟩
    refine aCons <| eOp op_mulW <| eIx ix_seq <| eV 0 rfl <| eI <| ixP (i := 1) p1 rfl <| eIx ix_seq <| eV 1 rfl <| eI <| ixP (i := 1) p2 rfl ⟨_, _, rfl, rfl, mulW bn dn n0 m0 (by omega), ?_⟩
    refine aNil ⟨S, a * c, b * d, n + m, rfl, hS, Int.mul_pos b0 d0, abs_mul an cn, abs_mul bn dn, by omega, fun v' H' s f => ?_⟩
    rw [mkQ_mul] at f ⊢
    exact fun z' => k _ _ s f z'
theorem ok__law_add (hK : R.K = K) (A : DefAt K mg "_law_add" s__law_add ["_law_one", "_law_other"]) (G2 : DefG P w K mg base 1 "_law_low" ["_law_top", "_law_bottom"] (spLow2 R)) : DefG P w K mg base 2 "_law_add" ["_law_one", "_law_other"] (spPlus R) := by
  subst hK
  obtain ⟨f, fd, F, hm, hb⟩ := A.ex
  refine ⟨f, fd, okN F sc__law_add (fun vs H Q E h => ?_) fun X H vs Q E hX hr tk h => ?_, hm, F.kp, hb⟩
  · obtain ⟨S, v, u, n, m, r, t, rfl, _⟩ := h
    rfl
  · obtain ⟨cdv, A, outer, s, rfl⟩ := hX
    obtain ⟨S, v, u, n, m, r, t, rfl, hS, hv, hu, h9, _, k⟩ := h
    obtain ⟨a, b, p1, b0, an, bn, rfl, n0⟩ := hv.ex
    obtain ⟨c, d, p2, d0, cn, dn, rfl, m0⟩ := hu.ex
    have h9' : n + m + 1 ≤ 8999 := h9
    refine bOne <| sRet <| eCall G2 hr tk <| aCons <| eOp op_add <| eOp op_mulW <| eIx ix_seq <| eV 0 rfl <| eI <| ixP (i := 0) p1 rfl <| eIx ix_seq <| eV 1 rfl <| eI <| ixP (i := 1) p2 rfl ⟨_, _, rfl, rfl, mulW an dn n0 m0 (by omega), ?_⟩
    refine eOp op_mulW <| eIx ix_seq <| eV 1 rfl <| eI <| ixP (i := 0) p2 rfl <| eIx ix_seq <| eV 0 rfl <| eI <| ixP (i := 1) p1 rfl ⟨_, _, rfl, rfl, mulW cn bn m0 n0 (by omega), _, _, rfl, rfl, ?_⟩
    refine aCons <| eOp op_mulW <| eIx ix_seq <| eV 0 rfl <| eI <| ixP (i := 1) p1 rfl <| eIx ix_seq <| eV 1 rfl <| eI <| ixP (i := 1) p2 rfl ⟨_, _, rfl, rfl, mulW bn dn n0 m0 (by omega), ?_⟩
    refine aNil ⟨S, a * d + c * b, b * d, n + m + 1, rfl, hS, Int.mul_pos b0 d0, abs_add (abs_mul an dn) (by have := abs_mul cn bn; rw [Nat.add_comm] at this; exact this), Nat.lt_of_lt_of_le (abs_mul bn dn) (pow_le2 (Nat.le_succ _)), by omega, fun v' H' s f => ?_⟩
    rw [mkQ_add b0 d0] at f ⊢
    exact fun z' => k _ _ s f z'
end
/-! checks -/
section
variable {P : Program} {w : World} {K : PySem.W.Frag} {mg : Str → Option Value} {base : Heap} {R : Rp}
theorem ok_chkGs {C : Addr} (hK : R.K = K) (A : DefAtD K mg "check_gates" s_check_gates ["gates", "most"] [.int 8]) (mL : mg "len" = none) (GE : ErrG P w K mg base 1 "BadCount" C ["self", "what", "count"] (spErr2 "what" "count" C)) :
    DefGD P w K mg base 3 "check_gates" ["gates", "most"] [.int 8] (spChkGs R C) := by
  subst hK
  obtain ⟨f, fd, ds0, F, hm, hb, hd0⟩ := A.ex
  refine ⟨f, fd, ds0, okRD F sc_check_gates (fun vs H Q E h => ?_) fun X H vs Q E hX hr tk po h => ?_, hm, F.kp, hb, hd0⟩
  · obtain ⟨S, v, d, ds, m, rfl, _⟩ := h
    rfl
  · obtain ⟨cdv, A, outer, s, rfl⟩ := hX
    obtain ⟨S, v, d, ds, m, rfl, hS, hv, hd, kE, kQ⟩ := h
    refine bOne <| sIf <| tNot <| tChain op_le op_le <| eI <| eCB call_lenO mL <| aCons <| eV 0 rfl <| aNil <| lenOf hv hd ⟨_, _, rfl, rfl, _, rfl, ?_⟩
    by_cases c1 : (1 : Int) ≤ (ds.length : Int)
    · rw [decide_eq_true c1]
      refine iteT <| eV 1 rfl ⟨_, _, rfl, rfl, _, rfl, ?_⟩
      by_cases c2 : (ds.length : Int) ≤ (m : Int)
      · rw [decide_eq_true c2]
        exact iteF <| bNil <| kQ (by omega) (by omega)
      · rw [decide_eq_false c2]
        exact iteT <| bOne <| raise2 GE hr tk <| aCons <| eStr <| aCons <| eCB call_lenO mL <| aCons <| eV 0 rfl <| aNil <| lenOf hv hd <| aNil ⟨_, _, rfl, kE (by omega)⟩
    · rw [decide_eq_false c1]
      exact iteF ⟨_, rfl, iteT <| bOne <| raise2 GE hr tk <| aCons <| eStr <| aCons <| eCB call_lenO mL <| aCons <| eV 0 rfl <| aNil <| lenOf hv hd <| aNil ⟨_, _, rfl, kE (by omega)⟩⟩
theorem ok_isNum (A : DefAt K mg "is_number" s_is_number ["thing"]) (mI : mg "isinstance" = none) (mi : mg "int" = none) (mb : mg "bool" = none) : DefG P w K mg base 1 "is_number" ["thing"] spIsNum := by
  obtain ⟨f, fd, F, hm, hb⟩ := A.ex
  refine ⟨f, fd, okN F sc_is_number (fun vs H Q E h => ?_) fun X H vs Q E hX hr tk h => ?_, hm, F.kp, hb⟩
  · obtain ⟨i, rfl, _⟩ := h
    rfl
  · obtain ⟨cdv, A, outer, s, rfl⟩ := hX
    obtain ⟨i, rfl, k⟩ := h
    refine bOne <| sRet <| eAnd2 <| eCB call_isi mI <| aCons <| eV 0 rfl <| aCons <| eBl0 (v := .ty "int") mi (by decide +kernel) rfl <| aNil ⟨_, _, _, _, true, rfl, .ty "int", .base (.int i), kit_ty (by decide +kernel), ⟨_, rfl, iteT ?_⟩⟩
    exact eNot <| eCB call_isi mI <| aCons <| eV 0 rfl <| aCons <| eBl0 (v := .ty "bool") mb (by decide +kernel) rfl <| aNil ⟨_, _, _, _, false, rfl, .ty "bool", .base (.int i), kit_ty (by decide +kernel), _, rfl, k⟩
theorem ok_isOrd (hK : R.K = K) (A : DefAt K mg "is_order" s_is_order ["order", "many"]) (mL : mg "len" = none) (mS : mg "set" = none) (G1 : DefG P w K mg base 1 "is_number" ["thing"] spIsNum) : DefG P w K mg base 2 "is_order" ["order", "many"] (spIsOrd R) := by
  subst hK
  obtain ⟨f, fd, F, hm, hb⟩ := A.ex
  refine ⟨f, fd, okN F sc_is_order (fun vs H Q E h => ?_) fun X H vs Q E hX hr tk h => ?_, hm, F.kp, hb⟩
  · obtain ⟨S, v, d, os, n, rfl, _⟩ := h
    rfl
  · obtain ⟨cdv, A, outer, s, rfl⟩ := hX
    have hN := sc_is_order.nd
    obtain ⟨S, v, d, os, n, rfl, hS, hv, hd, n9, k⟩ := h
    refine bCons <| sIf <| tCmp op_ne <| eCB call_lenO mL <| aCons <| eV 0 rfl <| aNil <| lenOf hv hd <| eV 1 rfl ⟨rfl, _, rfl, ?_⟩
    rw [List.length_map]
    by_cases hl : os.length = n
    · have e1 : (V.int (os.length : Nat)) = V.int (n : Nat) := by rw [hl]
      rw [decide_eq_true e1]
      refine iteF <| bNil ?_
      refine bCons <| sSet 2 <| eCTy0 cr_set0 mS ⟨rfl, fun p hp => ?_⟩
      have hv1 : Is R (fun a => a = p) (upd H p (SetO w p (fun _ => false) 0)) v d := (hv.regN (T := fun a => a = p) (fun a e => .inr (by rw [e]; exact hp))).up (same_new hp)
      refine bCons <| sFor <| iW rfl <| eV 0 rfl ⟨_, d, _, hv1, hd, fun J xs ix wk => ⟨_, _, _, wk, fun i σ H' => (∃ b3, σ = [some v, some (.int n), some (.ref p), b3]) ∧ Kp (fun a => a = p) (upd H p (SetO w p (fun _ => false) 0)) H' ∧
        ∃ T m, H' p = some (SetO w p T m) ∧ (∀ x, T x = true ↔ x ∈ os.take i) ∧ m ≤ i ∧ (m = i ↔ (os.take i).Nodup) ∧ ∀ x ∈ os.take i, 0 ≤ x ∧ x < (n : Int), ?_, ?_, ?_, ?_⟩⟩
      · refine ⟨⟨_, rfl⟩, Kp.refl _ _, _, 0, upd_same, ?_, Nat.le_refl _, ?_, ?_⟩
        · simp
        · simp
        · simp
      · rintro i σ H' _ ⟨_, h, _⟩
        exact h
      · rintro i x σ H1 H1' hi ⟨⟨b3, rfl⟩, kp, T, m, hp1, hT, hmi, hnd, hr'⟩ ⟨rfl, hx⟩
        have ex := IsA.of_ints ix
        subst ex
        have hi' : i < os.length := by simpa using hi
        have e0 : x = V.int os[i] := by
          rw [List.getElem?_map, List.getElem?_eq_getElem hi'] at hx
          exact (Option.some.inj hx).symm
        subst e0
        have et : os.take (i + 1) = os.take i ++ [os[i]] := by rw [List.take_append_getElem]
        refine gN 3 <| bCons <| sIf <| tOr2 <| tNot <| tVal <| eCall G1 hr tk <| aCons <| eV 3 rfl <| aNil ⟨_, rfl, _, rfl, iteF <| tNot <| tChain op_le op_lt <| eI <| eV 3 rfl ⟨_, _, rfl, rfl, _, rfl, ?_⟩⟩
        have bad : ¬ (0 ≤ os[i] ∧ os[i] < (n : Int)) → Q (.bl false) H1' := fun z => by
          have e : ordB n os = false := by
            rw [Bool.eq_false_iff]
            intro q
            exact z ((ordB_iff.mp q).2.1 _ (List.getElem_mem hi'))
          have q := k _ (same_of_kp hp kp)
          rw [e] at q
          exact q
        by_cases c1 : (0 : Int) ≤ os[i]
        · rw [decide_eq_true c1]
          refine iteT <| eV 1 rfl ⟨_, _, rfl, rfl, _, rfl, ?_⟩
          by_cases c2 : os[i] < (n : Int)
          · rw [decide_eq_true c2]
            refine iteF <| bNil <| bOne <| sAdd <| eV 2 rfl ⟨⟨_, _, _, rfl, hp1⟩, aCons <| eV 3 rfl <| aNil ⟨_, _, _, _, rfl, rfl, hp1, ?_, ?_⟩⟩
            · have : 1002 ≤ scanBound := by decide
              omega
            · refine ⟨⟨_, rfl⟩, ?_, _, _, upd_same, ?_, ?_, ?_, ?_⟩
              · intro a o na e
                rw [upd_ne na]
                exact kp _ _ na e
              · intro x
                rw [et, List.mem_append, List.mem_singleton]
                show (T x || decide (x = os[i])) = true ↔ _
                rw [Bool.or_eq_true, hT, decide_eq_true_iff]
              · split <;> omega
              · rw [et, List.nodup_append]
                by_cases hin : T os[i] = true
                · rw [if_pos hin]
                  have := (hT _).mp hin
                  constructor
                  · intro z; omega
                  · rintro ⟨_, _, z⟩
                    exact absurd rfl (z _ this _ (by simp))
                · rw [if_neg hin]
                  have hni : os[i] ∉ os.take i := fun z => hin ((hT _).mpr z)
                  constructor
                  · intro z
                    refine ⟨hnd.mp (by omega), by simp, ?_⟩
                    intro a ha b hb
                    simp at hb
                    subst hb
                    exact fun z => hni (z ▸ ha)
                  · rintro ⟨z, _, _⟩
                    have := hnd.mpr z
                    omega
              · intro x hx
                rw [et] at hx
                rcases List.mem_append.mp hx with hx | hx
                · exact hr' x hx
                · simp at hx
                  subst hx
                  exact ⟨c1, c2⟩
          · rw [decide_eq_false c2]
            exact iteT <| bOne <| sRet <| eBl <| bad (by omega)
        · rw [decide_eq_false c1]
          exact iteF ⟨_, rfl, iteT <| bOne <| sRet <| eBl <| bad (by omega)⟩
      · rintro σ H1 ⟨⟨b3, rfl⟩, kp, T, m, hp1, hT, hmi, hnd, hr'⟩
        have ex := IsA.of_ints ix
        subst ex
        rw [List.length_map] at hnd hr' hT hmi
        rw [List.take_length] at hnd hr'
        refine bOne <| sRet <| eCmp op_eq <| eCB call_lenS mL <| aCons <| eV 2 rfl <| aNil ⟨_, _, _, rfl, hp1, eV 1 rfl ⟨rfl, ?_⟩⟩
        have e : decide (V.int (m : Nat) = V.int (n : Nat)) = ordB n os := by
          by_cases z : os.Nodup
          · have h1 : ordB n os = true := ordB_iff.mpr ⟨hl, hr', z⟩
            have h2 := hnd.mpr z
            rw [h1, decide_eq_true]
            rw [h2, hl]
          · have h1 : ordB n os = false := by
              rw [Bool.eq_false_iff]
              exact fun q => z (ordB_iff.mp q).2.2
            rw [h1, decide_eq_false]
            intro q
            apply z
            apply hnd.mp
            have := V.int.inj q
            omega
        rw [e]
        exact k _ (same_of_kp hp kp)
    · have e1 : ¬ (V.int (os.length : Nat)) = V.int (n : Nat) := fun z => hl (by have := V.int.inj z; omega)
      rw [decide_eq_false e1]
      have e : ordB n os = false := by
        rw [Bool.eq_false_iff]
        exact fun q => hl (ordB_iff.mp q).1
      refine iteT <| bOne <| sRet <| eBl ?_
      rw [← e]
      exact k _ (Same.refl _)
theorem ok_chkO (hK : R.K = K) (A : DefAt K mg "check_order" s_check_order ["gates", "order"]) (mL : mg "len" = none) (G1 : DefG P w K mg base 2 "is_order" ["order", "many"] (spIsOrd R)) : DefG P w K mg base 3 "check_order" ["gates", "order"] (spChkO R) := by
  subst hK
  obtain ⟨f, fd, F, hm, hb⟩ := A.ex
  refine ⟨f, fd, okN F sc_check_order (fun vs H Q E h => ?_) fun X H vs Q E hX hr tk h => ?_, hm, F.kp, hb⟩
  · obtain ⟨S, v, d, ds, u, e, os, rfl, _⟩ := h
    rfl
  · obtain ⟨cdv, A, outer, s, rfl⟩ := hX
    obtain ⟨S, v, d, ds, u, e, os, rfl, hS, hv, hd, hu, he, h9, ho, k⟩ := h
    refine bOne <| sIf <| tNot <| tVal <| eCall G1 hr tk <| aCons <| eV 1 rfl <| aCons <| eCB call_lenO mL <| aCons <| eV 0 rfl <| aNil <| lenOf hv hd <| aNil ⟨S, u, e, os, ds.length, rfl, hS, hu, he, h9, fun H' s' => ⟨_, rfl, ?_⟩⟩
    rw [ho]
    exact iteF <| bNil <| k _ s'
end
end BR

namespace BR
open PySem PySem.Spec PyProof.Rows L2
section
variable {P : Program} {w : World} {K : PySem.W.Frag} {mg : Str → Option Value} {base : Heap} {R : Rp}
theorem ok_eqGate (hK : R.K = K) (A : MethAt K (R.CA "Gate") "__eq__" "Gate.__eq__" s_Gate_eq ["self", "other"]) (mI : mg "isinstance" = none) (T : EqC R mg "Gate") : MethG P w K mg base 1 (R.CA "Gate") "__eq__" ["self", "other"] (spEqF R mg "Gate") := by
  subst hK
  obtain ⟨f, fd, c0, m0, F, hb⟩ := A.ex
  refine ⟨f, fd, c0, m0, okN F sc_Gate_eq (fun vs H Q E h => ?_) fun X H vs Q E hX hr tk h => ?_, hb⟩
  · obtain ⟨S, S', x, y, r, b, c', r', b', rfl, _⟩ := h
    rfl
  · obtain ⟨cdv, A, outer, s, rfl⟩ := hX
    obtain ⟨S, S', x, y, r, b, c', r', b', rfl, hx, C', t, hy, k⟩ := h
    obtain ⟨a', dx', fs', rfl, e'⟩ := faD_ins hy
    refine bOne <| sRet <| eAnd3 <| eCB call_isi mI <| aCons <| eV 1 rfl <| aCons <| eGl (v := .ref (R.CA "Gate")) T.nam.gC rfl <| aNil ⟨_, _, _, _, _, rfl, .own (R.CA "Gate"), C'.tyX e', t.kit T, _, rfl, ?_⟩
    by_cases h1 : c' = "Gate"
    · rw [decide_eq_true h1]
      refine iteT <| eCmp (op_eqD hr.units) <| eFld <| eV 0 rfl <| fldF hx T.fa fun v1 f1 => eFld <| eV 1 rfl <| fldF hy C'.fa fun v2 f2 => eqD (S := fun _ => False) (f1.reg fun _ z => z.elim) (f2.reg fun _ z => z.elim) (okEq_frac _) (okEq_frac _) ⟨_, rfl, ?_⟩
      rw [eqv_frac]
      by_cases h2 : r = r'
      · rw [decide_eq_true h2]
        refine iteT <| eCmp (op_eqD hr.units) <| eFld <| eV 0 rfl <| fldM hx T.fa fun v3 f3 => eFld <| eV 1 rfl <| fldM hy C'.fa fun v4 f4 => eqD (S := fun _ => False) (f3.reg fun _ z => z.elim) (f4.reg fun _ z => z.elim) (okEq_frac _) (okEq_frac _) ?_
        rw [eqv_frac]
        simpa [h1, h2] using k
      · rw [decide_eq_false h2]
        exact iteF (by simpa [h1, h2] using k)
    · rw [decide_eq_false h1]
      exact iteF (by simpa [h1] using k)
theorem ok_eqLine (hK : R.K = K) (A : MethAt K (R.CA "Line") "__eq__" "Line.__eq__" s_Line_eq ["self", "other"]) (mI : mg "isinstance" = none) (T : EqC R mg "Line") : MethG P w K mg base 1 (R.CA "Line") "__eq__" ["self", "other"] (spEqF R mg "Line") := by
  subst hK
  obtain ⟨f, fd, c0, m0, F, hb⟩ := A.ex
  refine ⟨f, fd, c0, m0, okN F sc_Line_eq (fun vs H Q E h => ?_) fun X H vs Q E hX hr tk h => ?_, hb⟩
  · obtain ⟨S, S', x, y, r, b, c', r', b', rfl, _⟩ := h
    rfl
  · obtain ⟨cdv, A, outer, s, rfl⟩ := hX
    obtain ⟨S, S', x, y, r, b, c', r', b', rfl, hx, C', t, hy, k⟩ := h
    obtain ⟨a', dx', fs', rfl, e'⟩ := faD_ins hy
    refine bOne <| sRet <| eAnd3 <| eCB call_isi mI <| aCons <| eV 1 rfl <| aCons <| eGl (v := .ref (R.CA "Line")) T.nam.gC rfl <| aNil ⟨_, _, _, _, _, rfl, .own (R.CA "Line"), C'.tyX e', t.kit T, _, rfl, ?_⟩
    by_cases h1 : c' = "Line"
    · rw [decide_eq_true h1]
      refine iteT <| eCmp (op_eqD hr.units) <| eFld <| eV 0 rfl <| fldF hx T.fa fun v1 f1 => eFld <| eV 1 rfl <| fldF hy C'.fa fun v2 f2 => eqD (S := fun _ => False) (f1.reg fun _ z => z.elim) (f2.reg fun _ z => z.elim) (okEq_frac _) (okEq_frac _) ⟨_, rfl, ?_⟩
      rw [eqv_frac]
      by_cases h2 : r = r'
      · rw [decide_eq_true h2]
        refine iteT <| eCmp (op_eqD hr.units) <| eFld <| eV 0 rfl <| fldM hx T.fa fun v3 f3 => eFld <| eV 1 rfl <| fldM hy C'.fa fun v4 f4 => eqD (S := fun _ => False) (f3.reg fun _ z => z.elim) (f4.reg fun _ z => z.elim) (okEq_frac _) (okEq_frac _) ?_
        rw [eqv_frac]
        simpa [h1, h2] using k
      · rw [decide_eq_false h2]
        exact iteF (by simpa [h1, h2] using k)
    · rw [decide_eq_false h1]
      exact iteF (by simpa [h1] using k)
end
section
variable {P : Program} {w : World} {K : PySem.W.Frag} {mg : Str → Option Value} {base : Heap} {R : Rp}
theorem ok_Line {C : Addr} (hK : R.K = K) (hC : R.CA "Line" = C) (A : InitAt K mg "Line" "Line.__init__" C s_Line_init ["self", "factor", "amount"]) (c : Cls K C) (n1 : NoAttr K C "factor") (n2 : NoAttr K C "amount") (G2 : DefG P w K mg base 2 "lowest" ["fraction"] (spLow R)) :
    MakeG P w K mg base 3 "Line" C ["self", "factor", "amount"] (spLine R) := by
  subst hK
  subst hC
  obtain ⟨f, fd, M, F, hm, hb⟩ := A.ex
  refine ⟨f, fd, M, okN F sc_Line_init (fun vs H Q E h => ?_) fun X H vs Q E hX hr tk h => ?_, hm, hb⟩
  · obtain ⟨S, H0, n, dx, x, y, i, j, r, t, rfl, _⟩ := h
    rfl
  · obtain ⟨cdv, A, outer, s, rfl⟩ := hX
    have hN := sc_Line_init.nd
    obtain ⟨S, H0, n, dx, x, y, i, j, r, t, rfl, s0, n0, hn, l0, hx, hy, i9, j9, kQ⟩ := h
    obtain ⟨p, q, px, q0, pn, qn, rfl, _⟩ := hx.ex
    obtain ⟨a, b, py, b0, an, bn, rfl, _⟩ := hy.ex
    refine bCons <| sFld <| eCall G2 hr tk <| aCons <| eV 1 rfl <| aNil ⟨S, x, p, q, i, rfl, l0.up s0, px.up s0, q0, pn, qn, i9, fun v3 H3 s3 f3 z3 => ?_⟩
    have hn3 := s3 _ _ hn
    refine eV 0 rfl ⟨n, _, dx, [], rfl, hn3, c, n1, by show 0 < 1000; decide, ?_⟩
    have s04 : Same H0 (upd H3 n (.ins (R.CA "Line") dx (putF "factor" v3 []))) := fun b o e => by
      rw [upd_ne (ne_of_none e n0)]
      exact s3 _ _ (s0 _ _ e)
    have f4 := Is.kpI (kpI_upd (C' := R.CA "Line") (dx' := dx) (fs' := putF "factor" v3 []) hn3) f3 rfl
    refine bOne <| sFld <| eCall G2 hr tk <| aCons <| eV 2 rfl <| aNil ⟨S, y, a, b, j, rfl, l0.up s04, py.up s04, b0, an, bn, j9, fun v5 H5 s5 f5 z5 => ?_⟩
    have hn5 : H5 n = some (.ins (R.CA "Line") dx (putF "factor" v3 [])) := s5 _ _ upd_same
    refine eV 0 rfl ⟨n, _, dx, _, rfl, hn5, c, n2, by show 1 < 1000; decide, ?_⟩
    refine kQ _ ?_ ?_ z3 z5
    · intro b o e
      rw [upd_ne (ne_of_none e n0)]
      exact s5 _ _ (s04 _ _ e)
    · refine .obj (l0.new n0) upd_same ?_
      have ep : putF "amount" v5 (putF "factor" v3 []) = ([("factor", v3), ("amount", v5)] : List (Str × V)) := by
        show (if ("factor" : Str) = "amount" then _ else _) = _
        rw [if_neg (by decide +kernel)]
        rfl
      rw [ep]
      have k6 := kpI_upd (C' := R.CA "Line") (dx' := dx) (fs' := ([("factor", v3), ("amount", v5)] : List (Str × V))) hn5
      exact .cons (Is.kpI k6 (f4.up s5) rfl) (.cons (Is.kpI k6 f5 rfl) .nil)
theorem ok_carry (hK : R.K = K) (A : DefAt K mg "carry" s_carry ["line", "x"]) (G1 : DefG P w K mg base 3 "plus" ["one", "other"] (spPlus R)) (G2 : DefG P w K mg base 3 "times" ["one", "other"] (spTimes R)) : DefG P w K mg base 4 "carry" ["line", "x"] (spCarry R) := by
  subst hK
  obtain ⟨f, fd, F, hm, hb⟩ := A.ex
  refine ⟨f, fd, okN F sc_carry (fun vs H Q E h => ?_) fun X H vs Q E hX hr tk h => ?_, hm, F.kp, hb⟩
  · obtain ⟨S, c, v, u, n, m, k, r, b, t, rfl, _⟩ := h
    rfl
  · obtain ⟨cdv, A, outer, s, rfl⟩ := hX
    obtain ⟨S, c, v, u, n, m, k, r, b, t, rfl, hS, hc, hv, zr, zb, hu, n0, m0, h9, kQ⟩ := h
    refine bOne <| sRet <| eCall G1 hr tk <| aCons <| eCall G2 hr tk <| aCons <| eFld <| eV 0 rfl <| fldF hv hc fun v1 f1 => ?_
    refine aCons <| eV 1 rfl <| aNil ⟨S, _, _, n, k, r, t, rfl, hS, Fr.of f1 zr, hu, (by show n + k ≤ 8999; omega), trivial, fun v2 H2 s2 f2 z2 => ?_⟩
    refine aCons <| eFld <| eV 0 rfl <| fldM (hv.up s2) hc fun v3 f3 => aNil ⟨S, _, _, n + k, m, _, b, rfl, hS.up s2, Fr.of f2 z2, Fr.of f3 zb, h9, trivial, fun v4 H4 s4 f4 z4 => ?_⟩
    exact kQ _ _ (s2.trans s4) f4 z4
end
section
variable {P : Program} {w : World} {K : PySem.W.Frag} {mg : Str → Option Value} {base : Heap} {R : Rp}
theorem ok_pass (hK : R.K = K) (fG : FAok R "Gate") (fL : FAok R "Line") (A : DefAt K mg "passage" s_passage ["gates", "order"]) (c1 : ConQ K mg "ONE" 1 1) (c0 : ConQ K mg "ZERO" 0 1)
    (GL : MakeG P w K mg base 3 "Line" (R.CA "Line") ["self", "factor", "amount"] (spLine R))
    (Gt : DefG P w K mg base 3 "times" ["one", "other"] (spTimes R)) (Gc : DefG P w K mg base 4 "carry" ["line", "x"] (spCarry R)) : DefG P w K mg base 5 "passage" ["gates", "order"] (spLineW R) := by
  subst hK
  obtain ⟨f, fd, F, hm, hb⟩ := A.ex
  refine ⟨f, fd, okN F sc_passage (fun vs H Q E h => ?_) fun X H vs Q E hX hr tk h => ?_, hm, F.kp, hb⟩
  · obtain ⟨S, v, gs, n, u, os, rfl, _⟩ := h
    rfl
  · obtain ⟨cdv, A, outer, s, rfl⟩ := hX
    have hN := sc_passage.nd
    obtain ⟨S, v, gs, n, u, os, rfl, hS, hg, ho, k⟩ := h
    obtain ⟨dg, ig, eg⟩ := hg.ex
    obtain ⟨dord, io, eo⟩ := ho.ex
    have glo := hg.lo
    have ghi := hg.hi
    have n9 := hg.n9
    have n0 := hg.n0
    have s1 : Same H H := Same.refl H
    refine bCons <| sSet 2 <| eLine GL hr tk <| aCons <| eCon c1 fun v1 f1 => aCons <| eCon c0 fun v2 f2 => aNil ⟨S, v1, v2, 1, 1, 1, 0, rfl, hS.up s1, Fr.of (f1 S H) sz_one, Fr.of (f2 S H) sz_zero, by decide, by decide, fun w0 H2 s2 iw zf za => ?_⟩
    have s12 := s1.trans s2
    refine bCons <| sFor <| iW rfl <| eV 1 rfl ⟨S, dord, _, io.up s12, eo, fun J xs ix wk => ⟨_, _, _, wk, fun i σ H' => (∃ w b3 b4, σ = [some v, some u, some w, b3, b4] ∧ Is R S H' w (faD "Line" (lineQ gs (os.take i)).1 (lineQ gs (os.take i)).2) ∧
        Sz (fsz n i) (lineQ gs (os.take i)).1 ∧ Sz (asz n i) (lineQ gs (os.take i)).2) ∧ Same H2 H', ?_, ?_, ?_, ?_⟩⟩
    · refine ⟨⟨w0, _, _, rfl, iw, ?_, ?_⟩, Same.refl _⟩
      · have e : fsz n 0 = 1 := by unfold fsz; omega
        rw [e]
        exact zf
      · have e : asz n 0 = 1 := by unfold asz; omega
        rw [e]
        exact za
    · rintro i σ H' _ ⟨_, h⟩
      exact Kp.of h
    · rintro i x σ H3 H3' hi ⟨⟨w3, b3, b4, rfl, iw3, zf3, za3⟩, s3⟩ ⟨rfl, hx⟩
      have ex := IsA.of_ints ix
      subst ex
      have hi' : i < os.length := by simpa using hi
      have e0 := at_int hi' hx
      subst e0
      have ol := ho.len
      obtain ⟨k', ek, g, eg', mg'⟩ := ho.at_ hi'
      obtain ⟨z1, z2⟩ := hg.sz g mg'
      have s03 := s12.trans s3
      have et : os.take (i + 1) = os.take i ++ [os[i]] := by rw [List.take_append_getElem]
      have eL : lineQ gs (os.take (i + 1)) = thr (lineQ gs (os.take i)) g := by rw [et, lineQ_snoc, ek, gAt_nat eg']
      have b1 := fsz_le (k := i + 1) (n := n) (by omega) n9
      have b2 := asz_le (k := i + 1) (n := n) (by omega) n9
      rw [← fsz_s] at b1
      rw [← asz_s] at b2
      rw [ek]
      refine gN 3 <| bCons <| sSet 4 <| eIx ix_seq <| eV 0 rfl <| eV 3 rfl <| ixG (hg.up s03) eg' fun y iy => ?_
      refine bOne <| sSet 2 <| eLine GL hr tk <| aCons <| eCall Gt hr tk <| aCons <| eFld <| eV 4 rfl <| fldF iy fG fun v4 f4 => aCons <| eFld <| eV 2 rfl <| fldF iw3 fL fun v5 f5 => ?_
      refine aNil ⟨S, _, _, n, fsz n i, g.1, _, rfl, hS.up s03, Fr.of f4 z1, Fr.of f5 zf3 fsz0, (by show n + fsz n i ≤ 8999; omega), trivial, fun v6 H6 s6 f6 z6 => ?_⟩
      refine aCons <| eCall Gc hr tk <| aCons <| eV 4 rfl <| aCons <| eFld <| eV 2 rfl <| fldM (iw3.up s6) fL fun v7 f7 => ?_
      refine aNil ⟨S, "Gate", _, _, n, n, asz n i, g.1, g.2, _, rfl, hS.up (s03.trans s6), fG, iy.up s6, z1, z2, Fr.of f7 za3 asz0, n0, n0, (by omega), fun v8 H8 s8 f8 z8 => ?_⟩
      refine aNil ⟨S, v6, v8, n + fsz n i, n + asz n i + n + 1, g.1 * (lineQ gs (os.take i)).1, g.1 * (lineQ gs (os.take i)).2 + g.2, rfl, hS.up (s03.trans (s6.trans s8)), Fr.of (f6.up s8) z6 (by omega), Fr.of f8 z8 (by omega), (by omega), (by omega), fun w9 H9 s9 i9 z9 y9 => ?_⟩
      refine ⟨⟨w9, _, _, rfl, ?_, ?_, ?_⟩, s3.trans (s6.trans (s8.trans s9))⟩
      · rw [eL]
        exact i9
      · rw [eL, ← fsz_s]
        exact z9
      · rw [eL, ← asz_s]
        exact y9
    · rintro σ H3 ⟨⟨w3, b3, b4, rfl, iw3, zf3, za3⟩, s3⟩
      have ex := IsA.of_ints ix
      subst ex
      rw [List.length_map, List.take_length] at iw3 zf3 za3
      exact bOne <| sRet <| eV 2 rfl <| k _ _ (s12.trans s3) iw3 zf3 za3
theorem ok_lineW {CE : Addr} (hK : R.K = K) (A : DefAt K mg "line" s_line ["gates", "order"])
    (Gg : DefGD P w K mg base 3 "check_gates" ["gates", "most"] [.int 8] (spChkGs R CE)) (Go : DefG P w K mg base 3 "check_order" ["gates", "order"] (spChkO R)) (Gp : DefG P w K mg base 5 "passage" ["gates", "order"] (spLineW R)) : DefG P w K mg base 6 "line" ["gates", "order"] (spLineW R) := by
  subst hK
  obtain ⟨f, fd, F, hm, hb⟩ := A.ex
  refine ⟨f, fd, okN F sc_line (fun vs H Q E h => ?_) fun X H vs Q E hX hr tk h => ?_, hm, F.kp, hb⟩
  · obtain ⟨S, v, gs, n, u, os, rfl, _⟩ := h
    rfl
  · obtain ⟨cdv, A, outer, s, rfl⟩ := hX
    have hN := sc_line.nd
    obtain ⟨S, v, gs, n, u, os, rfl, hS, hg, ho, k⟩ := h
    obtain ⟨dg, ig, eg⟩ := hg.ex
    obtain ⟨dord, io, eo⟩ := ho.ex
    have glo := hg.lo
    have ghi := hg.hi
    refine bCons <| sExpr <| eCallD Gg hr tk <| aCons <| eV 0 rfl <| aNil ⟨S, v, dg, _, 8, rfl, hS, ig, eg, fun z => absurd ⟨by rw [List.length_map]; exact glo, by rw [List.length_map]; exact ghi⟩ z, fun _ _ => ?_⟩
    refine bCons <| sExpr <| eCall Go hr tk <| aCons <| eV 0 rfl <| aCons <| eV 1 rfl <| aNil ⟨S, v, dg, _, u, dord, os, rfl, hS, ig, eg, io, eo, by rw [List.length_map]; omega, by rw [List.length_map]; exact ho.ok, fun H1 s1 => ?_⟩
    exact bOne <| sRet <| eCall Gp hr tk <| aCons <| eV 0 rfl <| aCons <| eV 1 rfl <| aNil ⟨S, v, gs, n, u, os, rfl, hS.up s1, hg.up s1, ho.up s1, fun v' H' s' a b c => k v' H' (s1.trans s') a b c⟩
theorem ok_worth (hK : R.K = K) (fL : FAok R "Line") (A : DefAt K mg "worth" s_worth ["gates", "order", "other"]) (Gl : DefG P w K mg base 6 "line" ["gates", "order"] (spLineW R)) (Gm : DefG P w K mg base 3 "minus" ["one", "other"] (spMinus R)) :
    DefG P w K mg base 7 "worth" ["gates", "order", "other"] (spWorth R) := by
  subst hK
  obtain ⟨f, fd, F, hm, hb⟩ := A.ex
  refine ⟨f, fd, okN F sc_worth (fun vs H Q E h => ?_) fun X H vs Q E hX hr tk h => ?_, hm, F.kp, hb⟩
  · obtain ⟨S, v, gs, n, u, os, t, os2, rfl, _⟩ := h
    rfl
  · obtain ⟨cdv, A, outer, s, rfl⟩ := hX
    obtain ⟨S, v, gs, n, u, os, t, os2, rfl, hS, hg, ho, ho2, h9, k⟩ := h
    refine bOne <| sRet <| eCall Gm hr tk <| aCons <| eFld <| eCall Gl hr tk <| aCons <| eV 0 rfl <| aCons <| eV 1 rfl <| aNil ⟨S, v, gs, n, u, os, rfl, hS, hg, ho, fun v1 H1 s1 i1 _ z1 => fldM i1 fL fun v2 f2 => ?_⟩
    refine aCons <| eFld <| eCall Gl hr tk <| aCons <| eV 0 rfl <| aCons <| eV 2 rfl <| aNil ⟨S, v, gs, n, t, os2, rfl, hS.up s1, hg.up s1, ho2.up s1, fun v3 H3 s3 i3 _ z3 => fldM i3 fL fun v4 f4 => ?_⟩
    exact aNil ⟨S, _, _, _, _, _, _, rfl, hS.up (s1.trans s3), Fr.of (f2.up s3) z1 asz0, Fr.of f4 z3 asz0, h9, trivial, fun v5 H5 s5 f5 z5 => k _ _ (s1.trans (s3.trans s5)) f5 z5⟩
end
section
variable {P : Program} {w : World} {K : PySem.W.Frag} {mg : Str → Option Value} {base : Heap} {R : Rp}
theorem ok_shuf (hK : R.K = K) (A : DefAt K mg "_law_shuffled" s__law_shuffled ["_law_source_here", "_law_some"]) (mL : mg "list" = none) (mN : mg "len" = none) (G1 : DefG P w K mg base 1 "_law_draw" ["_law_source_here", "_law_many"] spDraw) :
    DefG P w K mg base 2 "_law_shuffled" ["_law_source_here", "_law_some"] (spShuf R) := by
  subst hK
  obtain ⟨f, fd, F, hm, hb⟩ := A.ex
  refine ⟨f, fd, okN F sc__law_shuffled (fun vs H Q E h => ?_) fun X H vs Q E hX hr tk h => ?_, hm, F.kp, hb⟩
  · obtain ⟨S, s, v, d, os, rfl, _⟩ := h
    rfl
  · obtain ⟨cdv, A, outer, sh, rfl⟩ := hX
    have hN := sc__law_shuffled.nd
    obtain ⟨S, s, v, d, os, rfl, hs, hv, hd, h9, k⟩ := h
    refine bCons <| sSet 2 <| eCTy call_listO mL <| aCons <| eV 1 rfl <| aNil <| listOfN hv hd fun p xs hpn ix => ?_
    have ex := IsA.of_ints ix
    subst ex
    have s1 : Same H (upd H p (.lst (os.map V.int))) := same_new hpn
    have hp : upd H p (.lst (os.map V.int)) p = some (.lst (os.map V.int)) := upd_same
    have np : ¬ p = s := fun z => by
      obtain ⟨_, _, _, e⟩ := hs
      rw [← z, hpn] at e
      cases e
    generalize upd H p (.lst (os.map V.int)) = H1 at s1 hp
    refine bCons <| sSet 3 <| eLst <| aNil ⟨by show 0 ≤ sizeLine; decide, fun q hq => ?_⟩
    have npq : p ≠ q := fun z => by rw [z, hq] at hp; cases hp
    have s2 : Same H1 (upd H1 q (.lst [])) := same_new hq
    have hqH : H q = none := by
      cases e : H q with
      | none => rfl
      | some o => rw [s1 _ _ e] at hq; cases hq
    have hs2 : SrcAt (upd H1 q (.lst [])) s := (hs.up s1).up s2
    have nsp : s ≠ p := fun z => np z.symm
    have nsq : s ≠ q := fun z => by
      obtain ⟨_, _, _, e⟩ := hs.up s1
      rw [z, hq] at e
      cases e
    have hp2 := s2 _ _ hp
    have hq2 : upd H1 q (.lst []) q = some (.lst ([] : List V)) := upd_same
    have kp2 : ∀ a o, a ≠ s → a ≠ p → a ≠ q → H a = some o → upd H1 q (.lst []) a = some o := fun a o _ _ n3 e => s2 _ _ (s1 _ _ e)
    generalize upd H1 q (.lst []) = H2 at s2 hs2 hp2 hq2 kp2
    refine bCons <| sWhile (fun m σ H' => σ = [some (.ref s), some v, some (.ref p), some (.ref q)] ∧ SrcAt H' s ∧ (∀ a o, a ≠ s → a ≠ p → a ≠ q → H a = some o → H' a = some o) ∧
      ∃ l r : List Int, H' p = some (.lst (l.map V.int)) ∧ H' q = some (.lst (r.map V.int)) ∧ l.length = m ∧ m ≤ 1000 ∧ r.length + m = os.length ∧ (r ++ l).Perm os) os.length ⟨rfl, hs2, kp2, os, [], hp2, hq2, rfl, h9, by simp, by simp⟩ ?_
    rintro m σ H3 ⟨rfl, hs3, kp3, l, r, hp3, hq3, hl, hm9, hrl, hperm⟩
    refine tCmp (op_neD hr.units) <| eV 2 rfl <| eLst <| aNil ⟨by show 0 ≤ sizeLine; decide, fun z hz => ?_⟩
    have s4 : Same H3 (upd H3 z (.lst [])) := same_new hz
    have nz : ∀ {a}, H3 a ≠ none → a ≠ z := fun h e => h (by rw [e]; exact hz)
    have hz4 : upd H3 z (.lst []) z = some (.lst ([] : List V)) := upd_same
    have hp4 := s4 _ _ hp3
    have hq4 := s4 _ _ hq3
    have hs4 := hs3.up s4
    generalize upd H3 z (.lst []) = H4 at s4 hz4 hp4 hq4 hs4
    have iL : Is R (fun _ => False) H4 (.ref p) (.lst (l.map D.int)) := .lst (fun z => z) hp4 IsA.ints
    have iE : Is R (fun _ => False) H4 (.ref z) (.lst []) := .lst (fun z => z) hz4 .nil
    refine neD iL iE (okEq_ints l) (okEq_ints []) ⟨_, rfl, ?_⟩
    rw [eqv_ints_nil]
    by_cases hl0 : l = []
    · subst hl0
      rw [decide_eq_true rfl]
      refine iteF <| bOne <| sRet <| eV 3 rfl <| k q _ r ⟨?_, hs4⟩ hqH hq4 (by simpa using hperm)
      intro a o na e
      exact s4 _ _ (kp3 a o na (fun z => by rw [z, hpn] at e; cases e) (fun z => by rw [z] at e; have := s1 _ _ e; rw [hq] at this; cases this) e)
    · rw [decide_eq_false hl0]
      have l0 : 0 < l.length := List.length_pos_iff.mpr hl0
      refine iteT <| bOne <| sApp <| eV 3 rfl ⟨ty_list hq4, aCons <| ePopAt <| eV 2 rfl ⟨ty_list hp4, aCons <| eCall G1 hr tk <| aCons <| eV 0 rfl <| aCons <| eCB call_lenO mN <| aCons <| eV 2 rfl <| aNil <| lenOf iL rfl <| aNil ⟨s, _, rfl, hs4, ?_, ?_, fun j H5 d5 j0 j1 => ?_⟩⟩⟩
      · rw [List.length_map]; omega
      · rw [List.length_map]
        exact log_of (by omega) (Int.le_trans (show (l.length : Int) ≤ 1000 by omega) (by decide))
      rw [List.length_map] at j1
      obtain ⟨jj, rfl⟩ : ∃ jj : Nat, j = (jj : Int) := ⟨j.toNat, by omega⟩
      have hj : jj < l.length := by omega
      have hp5 := d5.kp _ _ nsp.symm hp4
      have hq5 := d5.kp _ _ nsq.symm hq4
      refine aNil ⟨p, l.map V.int, jj, jj, .int l[jj], rfl, rfl, hp5, by omega, by omega, ?_, by rw [List.getElem?_map, List.getElem?_eq_getElem hj]; rfl, ?_⟩
      · have : jj < (l.map V.int).length := by rw [List.length_map]; exact hj
        refine (ixN_seq ?_).1
        unfold ixN
        rw [if_pos (by omega), if_pos (by omega), Int.toNat_natCast]
      have hq6 : upd H5 p (.lst ((l.map V.int).eraseIdx jj)) q = some (.lst (r.map V.int)) := by rw [upd_ne npq.symm]; exact hq5
      refine aNil ⟨q, _, _, rfl, rfl, hq6, by rw [List.length_map]; exact small1000 (by omega), ⟨m - 1, by omega, rfl, ?_, ?_, l.eraseIdx jj, r ++ [l[jj]], ?_, ?_, ?_, ?_, ?_, ?_⟩⟩
      · obtain ⟨a, b, c, e⟩ := d5.src
        exact ⟨a, b, c, by rw [upd_ne nsq, upd_ne nsp]; exact e⟩
      · intro a o n1 n2 n3 e
        rw [upd_ne n3, upd_ne n2]
        exact d5.kp _ _ n1 (s4 _ _ (kp3 a o n1 n2 n3 e))
      · rw [upd_ne npq, upd_same, eraseIdx_map']
      · rw [upd_same, List.map_append]
        rfl
      · rw [List.length_eraseIdx, if_pos hj]
        omega
      · omega
      · rw [List.length_append]
        show r.length + 1 + (m - 1) = os.length
        omega
      · refine List.Perm.trans ?_ hperm
        rw [List.append_assoc]
        refine List.Perm.append_left _ ?_
        exact erase_perm l jj hj
end
section
variable {P : Program} {w : World} {K : PySem.W.Frag} {mg : Str → Option Value} {base : Heap} {R : Rp}
theorem ok_made {CE : Addr} (hK : R.K = K) (A : DefAt K mg "_law_made" s__law_made ["_law_facts"]) (G : MakeG P w K mg base 4 "Gate" (R.CA "Gate") ["self", "factor", "amount"] (spGate R CE)) : DefG P w K mg base 6 "_law_made" ["_law_facts"] (spMade R) := by
  subst hK
  obtain ⟨f, fd, F, hm, hb⟩ := A.ex
  refine ⟨f, fd, okN F sc__law_made (fun vs H Q E h => ?_) fun X H vs Q E hX hr tk h => ?_, hm, F.kp, hb⟩
  · obtain ⟨S, v, fs, rfl, _⟩ := h
    rfl
  · obtain ⟨cdv, A, outer, s, rfl⟩ := hX
    have hN := sc__law_made.nd
    obtain ⟨S, v, fs, rfl, hS, hf, k⟩ := h
    obtain ⟨d, hi, hd⟩ := hf.ex
    refine bOne <| sRet <| eLc N__law_made s__law_made [("_law_f", 1), ("_law_a", 2)] <| iW rfl <| eV 0 rfl ⟨S, d, _, hi, hd, fun J xs ix wk L hL => ?_⟩
    have lx := ix.len
    rw [List.length_map] at lx
    refine lcG (R := R) wk ((fs.map f2).map gD) (by rw [List.length_map, List.length_map]; exact lx.symm) (by rw [lx]; have := hf.hi; omega) (fills_same (S := S) hL) (fun H2 h2 => Kp.of h2) ?_ ?_
    · rintro i e x H2 H2' he h2 ⟨rfl, hx⟩
      have hi' : i < fs.length := by
        have := (List.getElem?_eq_some_iff.mp hx).1
        omega
      obtain ⟨dx, e1, i1⟩ := ix.getV hx
      rw [List.getElem?_map, List.getElem?_eq_getElem hi'] at e1
      cases e1
      rw [List.getElem?_map, List.getElem?_map, List.getElem?_eq_getElem hi'] at he
      cases he
      have ok := hf.ok _ (List.getElem_mem hi')
      refine ⟨fun hLn => ?_, Same.refl _⟩
      have lv : Live (fun a => S a ∨ a = L) H2' := live_or (hS.up h2) hLn
      have i2 : Is R (fun a => S a ∨ a = L) H2' x (fD fs[i]) := (i1.regN fun a z => z.elim .inl fun e => .inr (by rw [e]; exact hL)).up h2
      intro s0 H0 C cl fp
      obtain ⟨a, ys, rfl, hs, ha⟩ := i2.tupE
      cases ha with
      | cons j1 ha =>
        cases ha with
        | cons j2 ha =>
          cases ha
          refine gT rfl hs <| gsCons <| gN 1 <| gsCons <| gN 2 <| gsNil ⟨rfl, rfl, fun s0 H0 C cl fp => ?_⟩
          exact eGate G hr takes0 <| aCons <| eV 1 rfl <| aCons <| eV 2 rfl <| aNil ⟨_, _, _, fs[i].p, fs[i].q, fs[i].a, fs[i].b, rfl, lv, .inl j1, .inl j2, ok.due, fun v3 H3 s3 i3 _ _ _ => ⟨s3, i3⟩⟩
    · intro H2 ys h2 hL2 ia
      have ig := Is.filled hS hL hL2 ia
      exact k _ _ h2 ig (gates_of ig hf.lo hf.hi hf.ok)
end
end BR

namespace BR
open PySem PySem.Spec PyProof.Rows L2
/-! ### gates undone, passages cut and joined -/
def invQ (g : G2) : G2 := (g.1⁻¹, -(g.2 * g.1⁻¹))
theorem gAt_inv (gs : List G2) (i : Int) : gAt (gs.map invQ) i = invQ (gAt gs i) := by
  unfold gAt
  rw [List.getElem?_map]
  cases gs[i.toNat]? with
  | some g => rfl
  | none =>
    show ((1 : Rat), (0 : Rat)) = ((1 : Rat)⁻¹, -((0 : Rat) * (1 : Rat)⁻¹))
    refine Prod.ext ?_ ?_
    · show (1 : Rat) = (1 : Rat)⁻¹
      have := Rat.inv_mul_cancel (1 : Rat) (by decide)
      grind
    · show (0 : Rat) = -((0 : Rat) * (1 : Rat)⁻¹)
      grind
theorem thrX_app (gs : List G2) (a b : List Int) (x : Rat) : thrX gs (a ++ b) x = thrX gs b (thrX gs a x) := by
  unfold thrX
  rw [List.foldl_append]
theorem inv_un {m c x : Rat} (h : m ≠ 0) : m⁻¹ * (m * x + c) + -(c * m⁻¹) = x := by
  have e : m⁻¹ * m = 1 := Rat.inv_mul_cancel _ h
  have : m⁻¹ * (m * x + c) + -(c * m⁻¹) = (m⁻¹ * m) * x := by grind
  rw [this, e, Rat.one_mul]
theorem un_inv {m c z : Rat} (h : m ≠ 0) : m * (m⁻¹ * z + -(c * m⁻¹)) + c = z := by
  have e : m⁻¹ * m = 1 := Rat.inv_mul_cancel _ h
  have : m * (m⁻¹ * z + -(c * m⁻¹)) + c = (m⁻¹ * m) * z + (c - c * (m⁻¹ * m)) := by grind
  rw [this, e, Rat.one_mul, Rat.mul_one]
  grind
theorem thrX_back (gs : List G2) : ∀ (os : List Int) (x : Rat), (∀ i ∈ os, (gAt gs i).1 ≠ 0) → thrX (gs.map invQ) os.reverse (thrX gs os x) = x
  | [], _, _ => rfl
  | i :: t, x, h => by
    rw [List.reverse_cons, thrX_snoc, gAt_inv]
    show (gAt gs i).1⁻¹ * thrX (gs.map invQ) t.reverse (thrX gs t ((gAt gs i).1 * x + (gAt gs i).2)) + -((gAt gs i).2 * (gAt gs i).1⁻¹) = x
    rw [thrX_back gs t _ fun j hj => h j (List.mem_cons_of_mem _ hj)]
    exact inv_un (h i (List.mem_cons_self ..))
theorem thrX_forth (gs : List G2) : ∀ (os : List Int) (x : Rat), (∀ i ∈ os, (gAt gs i).1 ≠ 0) → thrX gs os (thrX (gs.map invQ) os.reverse x) = x
  | [], _, _ => rfl
  | i :: t, x, h => by
    rw [List.reverse_cons, thrX_snoc, gAt_inv]
    show thrX gs t ((gAt gs i).1 * ((gAt gs i).1⁻¹ * thrX (gs.map invQ) t.reverse x + -((gAt gs i).2 * (gAt gs i).1⁻¹)) + (gAt gs i).2) = x
    rw [un_inv (h i (List.mem_cons_self ..))]
    exact thrX_forth gs t x fun j hj => h j (List.mem_cons_of_mem _ hj)
theorem idsI_succ (n : Nat) : idsI (n + 1) = idsI n ++ [(n : Int)] := by
  unfold idsI
  rw [List.range_succ, List.map_append]
  rfl
theorem thrX_part (gs : List G2) (part : List Int) (x : Rat) : ∀ k, k ≤ part.length → thrX (part.map (gAt gs)) (idsI k) x = thrX gs (part.take k) x
  | 0, _ => by
    rw [List.take_zero]
    rfl
  | k + 1, h => by
    have hk : k < part.length := by omega
    rw [idsI_succ, thrX_snoc, thrX_part gs part x k (by omega), ← List.take_append_getElem hk, thrX_snoc]
    have e : gAt (part.map (gAt gs)) (k : Int) = gAt gs part[k] := gAt_nat (by rw [List.getElem?_map, List.getElem?_eq_getElem hk]; rfl)
    rw [e]
theorem gAt_in {gs hs : List G2} {i : Int} (h0 : 0 ≤ i) (h1 : i < (gs.length : Int)) : gAt (gs ++ hs) i = gAt gs i := by
  unfold gAt
  rw [List.getElem?_append_left (by omega)]
theorem foldl_thr {gs hs : List G2} : ∀ (os : List Int) (l : G2), (∀ i ∈ os, gAt hs i = gAt gs i) → os.foldl (fun l i => thr l (gAt hs i)) l = os.foldl (fun l i => thr l (gAt gs i)) l
  | [], _, _ => rfl
  | i :: t, l, h => by
    show t.foldl _ (thr l (gAt hs i)) = t.foldl _ (thr l (gAt gs i))
    rw [h i (List.mem_cons_self ..)]
    exact foldl_thr t _ fun j hj => h j (List.mem_cons_of_mem _ hj)
theorem line_longer {gs : List G2} {a b : List Int} (h : ∀ i ∈ a ++ b, 0 ≤ i ∧ i < (gs.length : Int)) : lineQ (gs ++ [(1, 0)]) (a ++ [(gs.length : Int)] ++ b) = lineQ gs (a ++ b) := by
  unfold lineQ
  rw [List.foldl_append, List.foldl_append, List.foldl_append]
  rw [foldl_thr (gs := gs) (hs := gs ++ [(1, 0)]) a _ fun i hi => let q := h i (List.mem_append_left _ hi); gAt_in q.1 q.2]
  rw [foldl_thr (gs := gs) (hs := gs ++ [(1, 0)]) b _ fun i hi => let q := h i (List.mem_append_right _ hi); gAt_in q.1 q.2]
  congr 1
  have e : gAt (gs ++ [((1 : Rat), (0 : Rat))]) (gs.length : Int) = (1, 0) := gAt_nat (by rw [List.getElem?_append_right (Nat.le_refl _), Nat.sub_self]; rfl)
  show thr _ (gAt (gs ++ [((1 : Rat), (0 : Rat))]) (gs.length : Int)) = _
  rw [e]
  refine Prod.ext ?_ ?_
  · show (1 : Rat) * _ = _
    rw [Rat.one_mul]
  · show (1 : Rat) * _ + 0 = _
    rw [Rat.one_mul]
    grind
theorem longer_perm {n : Nat} {a b : List Int} (h : (a ++ b).Perm (idsI n)) : (a ++ [(n : Int)] ++ b).Perm (idsI (n + 1)) := by
  rw [idsI_succ]
  have h1 : (a ++ [(n : Int)] ++ b).Perm ((n : Int) :: (a ++ b)) := by
    rw [List.append_assoc]
    exact List.perm_middle
  have h2 : (idsI n ++ [(n : Int)]).Perm ((n : Int) :: idsI n) := List.perm_append_singleton ..
  exact h1.trans ((List.Perm.cons _ h).trans h2.symm)
/-- numbers of up to a thousand -/
structure F4.Md (f : F4) : Prop where
  p1 : 1 ≤ f.p
  p2 : f.p ≤ 1000
  q1 : 1 ≤ f.q
  q2 : f.q ≤ 1000
  a1 : -1000 ≤ f.a
  a2 : f.a ≤ 1000
  b1 : 1 ≤ f.b
  b2 : f.b ≤ 1000
theorem F4.Md.ok {f : F4} (h : f.Md) : f.Ok := ⟨h.p1, by have := h.p2; omega, h.q1, by have := h.q2; omega, by have := h.a1; omega, by have := h.a2; omega, h.b1, by have := h.b2; omega⟩
theorem mkQ_inv {p q : Int} (hp : 0 < p) (hq : 0 < q) : mkQ q p = (mkQ p q)⁻¹ := by
  have e : mkQ q p * mkQ p q = 1 := by
    rw [← mkQ_mul]
    have h1 : mkQ (q * p) (p * q) = mkQ (1 * (p * q)) (1 * (p * q)) := by rw [Int.one_mul, Int.mul_comm q p]
    rw [h1]
    have g : (0 : Int) < p * q := Int.mul_pos hp hq
    have num : (mkQ (1 * (p * q)) (1 * (p * q))).num = 1 := by
      rw [mkQ_num (by omega)]
      rw [Int.one_mul, Int.gcd_self]
      rw [show ((p * q).natAbs : Int) = p * q by omega]
      exact Int.ediv_self (by omega)
    have den : ((mkQ (1 * (p * q)) (1 * (p * q))).den : Int) = 1 := by
      rw [mkQ_den (by omega)]
      rw [Int.one_mul, Int.gcd_self]
      rw [show ((p * q).natAbs : Int) = p * q by omega]
      exact Int.ediv_self (by omega)
    exact Rat.ext num (by have : (1 : Rat).den = 1 := rfl; omega)
  have n : mkQ p q ≠ 0 := fun z => by
    rw [mkQ_zero hq] at z
    omega
  have := Rat.mul_inv_cancel _ n
  grind
def spInv (R : Rp) : Sp := fun vs H Q _ => ∃ (S : Reg) (v : V) (f : F4), vs = [v] ∧ Live S H ∧ Is R S H v (fD f) ∧ f.Md ∧ ∀ v' H' f', Same H H' → Is R S H' v' (fD f') → F4.Ok f' → f2 f' = invQ (f2 f) → Q v' H'
def spSmall (R : Rp) : Sp := fun vs H Q _ => ∃ (s : Addr), vs = [.ref s] ∧ SrcAt H s ∧ ∀ v' H' f, Dr s H H' → Is R (Src s) H' v' (fD f) → f.Md → Q v' H'
def spRight7 (R : Rp) : Sp := fun vs H Q _ => ∃ (s : Addr) (v : V) (fs : List F4), vs = [.ref s, v] ∧ SrcAt H s ∧ Is R (Src s) H v (.lst (fs.map fD)) ∧ 2 ≤ fs.length ∧ fs.length ≤ 8 ∧ (∀ f ∈ fs, f.Md) ∧ ∀ H', Dr s H H' → Q (.bl true) H'
end BR

namespace BR
open PySem PySem.Spec PyProof.Rows L2
section
variable {P : Program} {w : World} {K : PySem.W.Frag} {mg : Str → Option Value} {base : Heap} {R : Rp}
theorem ok_inv (hK : R.K = K) (A : DefAt K mg "_law_inverse" s__law_inverse ["_law_fact"]) (Gl : DefG P w K mg base 1 "_law_low" ["_law_top", "_law_bottom"] (spLow2 R)) : DefG P w K mg base 2 "_law_inverse" ["_law_fact"] (spInv R) := by
  subst hK
  obtain ⟨fa, fd, F, hm, hb⟩ := A.ex
  refine ⟨fa, fd, okN F sc__law_inverse (fun vs H Q E h => ?_) fun X H vs Q E hX hr tk h => ?_, hm, F.kp, hb⟩
  · obtain ⟨S, v, f, rfl, _⟩ := h
    rfl
  · obtain ⟨cdv, A, outer, sh, rfl⟩ := hX
    have hN := sc__law_inverse.nd
    obtain ⟨S, v, ⟨p, q, a, b⟩, rfl, hS, hv, md, k⟩ := h
    have o1 := md.p1
    have o2 := md.p2
    have o3 := md.q1
    have o4 := md.q2
    have o5 := md.a1
    have o6 := md.a2
    have o7 := md.b1
    have o8 := md.b2
    simp only at o1 o2 o3 o4 o5 o6 o7 o8
    have m1 : (a * q).natAbs ≤ 1000 * 1000 := by
      rw [Int.natAbs_mul]
      exact Nat.mul_le_mul (by omega) (by omega)
    have m2 : (b * p).natAbs ≤ 1000 * 1000 := by
      rw [Int.natAbs_mul]
      exact Nat.mul_le_mul (by omega) (by omega)
    have w1 : CMul a q := .inl ⟨by omega, by omega⟩
    have w2 : CMul b p := .inl ⟨by omega, by omega⟩
    have m3 : 0 < b * p := Int.mul_pos (by omega) (by omega)
    have p20 : (2 : Nat) ^ 20 = 1048576 := by decide
    obtain ⟨t, ys, rfl, ht, ha⟩ := id hv.tupE
    cases ha with
    | cons j1 ha =>
      cases ha with
      | cons j2 ha =>
        cases ha
        refine bCons <| sAsg <| eV 0 rfl <| gT rfl ht <| gsCons (gP (.inl j1) <| gsCons <| gN 1 <| gsCons <| gN 2 <| gsNil ?_)
        refine gsCons (gP (.inl j2) <| gsCons <| gN 3 <| gsCons <| gN 4 <| gsNil ?_)
        refine gsNil <| bCons <| sSet 5 <| eCall Gl hr tk <| aCons <| eOp op_sub <| eI <| eOp op_mul <| eV 3 rfl <| eV 2 rfl ⟨_, _, rfl, rfl, w1, _, _, rfl, rfl, ?_⟩
        refine aCons <| eOp op_mul <| eV 4 rfl <| eV 1 rfl ⟨_, _, rfl, rfl, w2, aNil ⟨S, 0 - a * q, b * p, 20, rfl, hS, m3, by omega, by omega, by omega, fun v5 H5 s5 f5 z5 => ?_⟩⟩
        have br : Bd 1000000 1000000 (mkQ (0 - a * q) (b * p)) := Bd.mk' m3 (by omega) (by omega)
        have er : mkQ (0 - a * q) (b * p) = -(mkQ a b * (mkQ p q)⁻¹) := by
          rw [Int.zero_sub, mkQ_neg, mkQ_mul, ← mkQ_inv (p := p) (q := q) (by omega) (by omega)]
        generalize mkQ (0 - a * q) (b * p) = r at f5 br er
        refine bOne <| sRet <| eTup <| aCons <| eTup <| aCons <| eV 2 rfl <| aCons <| eV 1 rfl <| aNil ⟨by show 2 ≤ sizeLine; decide, fun p6 hp6 => ?_⟩
        have s6 := same_new (o := .tup [.int q, .int p]) hp6
        have i6 : Is R S (upd H5 p6 (.tup [.int q, .int p])) (.ref p6) (.tup [.int q, .int p]) := Is.newT (hS.up s5) hp6 (IsA.ints (is := [q, p]))
        refine aCons <| eV 5 rfl <| aNil ⟨by show 2 ≤ sizeLine; decide, fun p7 hp7 => ?_⟩
        have b1 := br.num
        have b2 := br.den
        have b3 := den_pos r
        refine k _ _ ⟨q, p, r.num, r.den⟩ ((s5.trans s6).trans (same_new hp7)) (Is.newT (hS.up (s5.trans s6)) hp7 (.cons i6 (.cons (f5.up s6) .nil))) ⟨o3, by show q ≤ 1000000; omega, o1, by show p ≤ 1000000; omega, by show -1000000 ≤ r.num; omega, by show r.num ≤ 1000000; omega, by show (1 : Int) ≤ (r.den : Int); omega, by show (r.den : Int) ≤ 1000000; omega⟩ ?_
        show (mkQ q p, mkQ r.num r.den) = ((mkQ p q)⁻¹, -(mkQ a b * (mkQ p q)⁻¹))
        rw [mkQ_self, er, ← mkQ_inv (p := p) (q := q) (by omega) (by omega)]
theorem ok_small (hK : R.K = K) (A : DefAt K mg "_law_small" s__law_small ["_law_source_here"]) (G2 : DefG P w K mg base 2 "_law_pick" ["_law_source_here", "_law_some"] (spPick R)) (G4 : DefG P w K mg base 4 "_law_gate" ["_law_source_here", "_law_high"] (spGt R)) :
    DefG P w K mg base 5 "_law_small" ["_law_source_here"] (spSmall R) := by
  subst hK
  obtain ⟨fa, fd, F, hm, hb⟩ := A.ex
  refine ⟨fa, fd, okN F sc__law_small (fun vs H Q E h => ?_) fun X H vs Q E hX hr tk h => ?_, hm, F.kp, hb⟩
  · obtain ⟨s, rfl, _⟩ := h
    rfl
  · obtain ⟨cdv, A, outer, sh, rfl⟩ := hX
    obtain ⟨s, rfl, hs, k⟩ := h
    have e3 : (10 : Int) ^ Int.toNat 3 = 1000 := by decide
    refine bOne <| sRet <| eCall G4 hr tk <| aCons <| eV 0 rfl <| aCons <| eCall G2 hr tk <| aCons <| eV 0 rfl <| aCons <| eLst <| aCons <| eI <| aCons <| eI <| aCons <| eOp op_pow <| eI <| eI ⟨_, _, rfl, rfl, ⟨by decide, by decide, by decide⟩, aNil ⟨by show 3 ≤ sizeLine; decide, fun p1 hp1 => ?_⟩⟩
    have d1 := Dr.same hs (same_new (o := .lst [.int 3, .int 9, .int (10 ^ Int.toNat 3)]) hp1)
    refine aNil <| pickI d1.src (is := [3, 9, 10 ^ Int.toNat 3]) (Is.newL hs.live hp1 (IsA.ints (is := [3, 9, 10 ^ Int.toNat 3]))) (by simp) (by simp) fun hh H2 d2 m2 => ?_
    have b0 : 3 ≤ hh ∧ hh ≤ 1000 := by
      rw [e3] at m2
      simp at m2
      omega
    exact aNil ⟨s, hh, rfl, d2.src, b0.1, Int.le_trans b0.2 (by decide), fun p q a b v H3 d3 i3 p1 p2 q1 q2 a1 a2 b1 b2 => k v H3 ⟨p, q, a, b⟩ (d1.trans (d2.trans d3)) i3 ⟨p1, by show p ≤ 1000; omega, q1, by show q ≤ 1000; omega, by show -1000 ≤ a; omega, by show a ≤ 1000; omega, b1, by show b ≤ 1000; omega⟩⟩
end
end BR

namespace BR
open PySem PySem.Spec PyProof.Rows L2
theorem gates_part {R : Rp} {T : Reg} {H : Hp} {v : V} {gs : List G2} {part : List Int} (iv : Is R T H v (.lst ((part.map (gAt gs)).map gD))) (h : ∀ i ∈ part, 0 ≤ i ∧ i < (gs.length : Int)) (l1 : 1 ≤ part.length) (l8 : part.length ≤ 8) (sz : ∀ g ∈ gs, Sz 20 g.1 ∧ Sz 20 g.2) (pos : ∀ g ∈ gs, 0 < g.1) : GatesAt R T H v (part.map (gAt gs)) 20 := by
  have mem : ∀ i ∈ part, gAt gs i ∈ gs := fun i hi => by
    obtain ⟨h0, h1⟩ := h i hi
    obtain ⟨k, rfl⟩ : ∃ k : Nat, i = (k : Int) := ⟨i.toNat, by omega⟩
    have hk : k < gs.length := by omega
    rw [gAt_nat (List.getElem?_eq_getElem hk)]
    exact List.getElem_mem hk
  refine ⟨⟨_, iv, rfl⟩, by rw [List.length_map]; exact l1, by rw [List.length_map]; exact l8, fun g hg => ?_, fun g hg => ?_, by decide, by decide⟩
  · obtain ⟨i, hi, rfl⟩ := List.mem_map.mp hg
    exact sz _ (mem i hi)
  · obtain ⟨i, hi, rfl⟩ := List.mem_map.mp hg
    exact pos _ (mem i hi)
def lD (g : G2) : D := faD "Line" g.1 g.2
section
variable {P : Program} {w : World} {K : PySem.W.Frag} {mg : Str → Option Value} {base : Heap} {R : Rp}
theorem ok_right7 {CE : Addr} (hK : R.K = K) (fG : FAok R "Gate") (fL : FAok R "Line") (A : DefAt K mg "_law_right" s__law_right ["_law_source_here", "_law_facts"]) (mL : mg "list" = none) (mN : mg "len" = none) (mR : mg "range" = none)
    (G1 : DefG P w K mg base 1 "_law_draw" ["_law_source_here", "_law_many"] spDraw) (Gs : DefG P w K mg base 2 "_law_shuffled" ["_law_source_here", "_law_some"] (spShuf R)) (Gf : DefG P w K mg base 3 "_law_fraction" ["_law_source_here", "_law_high"] (spFra R))
    (Gl : DefG P w K mg base 1 "_law_low" ["_law_top", "_law_bottom"] (spLow2 R)) (Ga : DefG P w K mg base 2 "_law_add" ["_law_one", "_law_other"] (spPlus R)) (Gd : DefG P w K mg base 6 "_law_made" ["_law_facts"] (spMade R)) (Gv : DefG P w K mg base 2 "_law_inverse" ["_law_fact"] (spInv R))
    (Gc : DefG P w K mg base 4 "carry" ["line", "x"] (spCarry R)) (Gi : DefG P w K mg base 6 "line" ["gates", "order"] (spLineW R)) (Gw : DefG P w K mg base 7 "worth" ["gates", "order", "other"] (spWorth R)) (GG : MakeG P w K mg base 4 "Gate" (R.CA "Gate") ["self", "factor", "amount"] (spGate R CE))
    (TL : EqC R mg "Line") (GE : MethG P w K mg base 1 (R.CA "Line") "__eq__" ["self", "other"] (spEqF R mg "Line")) :
    DefG P w K mg base 8 "_law_right" ["_law_source_here", "_law_facts"] (spRight7 R) := by
  subst hK
  obtain ⟨f, fd, F, hm, hb⟩ := A.ex
  refine ⟨f, fd, okN F sc__law_right (fun vs H Q E h => ?_) fun X H vs Q E hX hr tk h => ?_, hm, F.kp, hb⟩
  · obtain ⟨s, v, fs, rfl, _⟩ := h
    rfl
  · obtain ⟨cdv, A, outer, sh, rfl⟩ := hX
    have hN := sc__law_right.nd
    obtain ⟨s, v, fs, rfl, hs, hv, h2, h8, hmd, k⟩ := h
    have p20 : (2 : Nat) ^ 20 = 1048576 := by decide
    refine bCons <| sSet 2 <| eCB call_lenO mN <| aCons <| eV 1 rfl <| aNil <| lenOf hv rfl ?_
    rw [List.length_map]
    refine bCons <| sSet 3 <| eCall Gd hr tk <| aCons <| eV 1 rfl <| aNil ⟨Src s, v, fs, rfl, hs.live, ⟨⟨_, hv, rfl⟩, by omega, h8, fun f hf => (hmd f hf).ok⟩, fun vn H1 s1 in1 gn1 => ?_⟩
    obtain ⟨gs, hgs⟩ : ∃ gs, gs = fs.map f2 := ⟨_, rfl⟩
    have gl : gs.length = fs.length := by rw [hgs, List.length_map]
    rw [← hgs] at in1 gn1
    have d1 := Dr.same hs s1
    have hv1 := hv.up s1
    refine bCons <| sLc 4 N__law_right s__law_right [("_law_k", 14)] <| iR1 mR <| aCons <| eI <| aNil ⟨3, rfl, by decide, by decide, fun L hL => ?_⟩
    refine lcP (R := R) walk_range (fun i e => ∃ os : List Int, e = .lst (os.map D.int) ∧ os.Perm (idsI fs.length)) (by decide) (fills_dr hL d1.src) (fun _ _ => True.intro) ?_ ?_
    · rintro i x H2 H2' hi h2' ⟨rfl, rfl⟩
      refine ⟨fun us hLn => ?_, Dr.refl h2'.src⟩
      have lv : Live (fun a => a = s ∨ a = L) H2' := live_or h2'.live (by rw [hLn]; exact fun z => by cases z)
      intro s0 H0 C cl fp
      refine gN 14 ⟨rfl, rfl, fun s0 H0 C cl fp => eCall Gs hr takes0 <| aCons <| eV 0 rfl <| aCons <| eListRange mL mR <| eV 2 rfl ⟨fs.length, rfl, by omega, fun q hq => ?_⟩⟩
      have s3 := same_new (o := .lst ((idsI fs.length).map V.int)) hq
      refine aNil ⟨Src s, s, _, _, idsI fs.length, rfl, h2'.src.up s3, .lst (h2'.live.new hq) upd_same IsA.ints, rfl, by rw [List.length_map, List.length_range]; omega, fun q' H' os' dr hq' he' pm => ⟨(Dr.same h2'.src s3).trans dr, _, ⟨os', rfl, pm⟩, Is.atNew (lv.up s3) hq' he'⟩⟩
    intro HC ys es hC hLC le hP ia
    obtain ⟨oss, rfl, ho⟩ := unzipP (g := fun os : List Int => D.lst (os.map D.int)) (P := fun _ os => os.Perm (idsI fs.length)) es hP
    rw [List.length_map] at le
    match oss, le, ho, ia with
    | [o0, o1, o2], _, ho, ia =>
    have po0 : o0.Perm (idsI fs.length) := ho 0 o0 rfl
    have po1 : o1.Perm (idsI fs.length) := ho 1 o1 rfl
    have po2 : o2.Perm (idsI fs.length) := ho 2 o2 rfl
    clear ho hP
    have dC := d1.trans hC
    have iO : Is R (Src s) HC (.ref L) (.lst [.lst (o0.map D.int), .lst (o1.map D.int), .lst (o2.map D.int)]) := .lst (d1.live.new hL) hLC (ia.reg fun _ z => .inl z)
    have gnC := gn1.go hC.kp
    have inC := in1.dr hC
    have hvC := hv1.dr hC
    clear ia hLC in1 hv1 hv gn1
    have lC := dC.live
    have oat : ∀ {S H'} (o : List Int) (y : V), o.Perm (idsI fs.length) → Is R S H' y (.lst (o.map D.int)) → OrdAt R S H' y gs.length o := fun o y po iy => ⟨⟨_, iy, rfl⟩, by rw [gl]; exact ordB_perm po⟩
    have olen : ∀ {o : List Int}, o.Perm (idsI fs.length) → o.length = fs.length := fun po => by rw [po.length_eq, List.length_map, List.length_range]
    have obd : ∀ {o : List Int}, o.Perm (idsI fs.length) → ∀ i ∈ o, 0 ≤ i ∧ i < (gs.length : Int) := fun po i hi => by
      have := (ordB_iff.mp (ordB_perm po)).2.1 i hi
      rw [gl]
      exact this
    have l0 := olen po0
    have l1 := olen po1
    have l2 := olen po2
    have az : ∀ n, n ≤ 8 → asz 20 n ≤ 329 := fun n hn => by
      show 1 + n * (2 * 20 + 1) ≤ 329
      omega
    have fz : ∀ n, n ≤ 8 → fsz 20 n ≤ 161 := fun n hn => by
      show 1 + n * 20 ≤ 161
      omega
    have npos : ∀ i ∈ o0, (gAt gs i).1 ≠ 0 := fun i hi => by
      obtain ⟨h0, h1⟩ := obd po0 i hi
      obtain ⟨kk, rfl⟩ : ∃ kk : Nat, i = (kk : Int) := ⟨i.toNat, by omega⟩
      have hk : kk < gs.length := by omega
      rw [gAt_nat (List.getElem?_eq_getElem hk)]
      have := gnC.pos _ (List.getElem_mem hk)
      intro z
      rw [z] at this
      exact absurd this (by decide)
    -- there
    refine bCons <| sSet 5 <| eCall Gi hr tk <| aCons <| eV 3 rfl <| aCons <| eIx ix_seq <| eV 4 rfl <| eI <| ixD (i := 0) iO rfl rfl fun y0 iy0 => ?_
    refine aNil ⟨Src s, vn, gs, 20, y0, o0, rfl, lC, gnC, oat _ _ po0 iy0, fun vt HD sD it zt1 zt2 => ?_⟩
    replace zt1 : Sz 161 (lineQ gs o0).1 := zt1.mono (fz _ (by omega))
    replace zt2 : Sz 329 (lineQ gs o0).2 := zt2.mono (az _ (by omega))
    -- back
    have hvD := hvC.up sD
    have lD0 := lC.up sD
    refine bCons <| sSet 6 <| eCall Gi hr tk <| aCons <| eCall Gd hr tk <| aCons <| eLc N__law_right s__law_right [("_law_fact", 15)] <| iW rfl <| eV 1 rfl ⟨Src s, _, _, hvD, rfl, fun J xs ix wk L' hL' => ?_⟩
    have lx := ix.len
    rw [List.length_map] at lx
    refine lcP (R := R) wk (fun i e => ∃ f', e = fD f' ∧ (f'.Ok ∧ ∀ f, fs[i]? = some f → f2 f' = invQ (f2 f))) (by omega) (fills_same (S := Src s) hL') (fun H2 h2 => Kp.of h2) ?_ ?_
    · rintro i x H2 H2' hi h2' ⟨rfl, hx⟩
      have hi' : i < fs.length := by omega
      obtain ⟨dx, e1, i1⟩ := ix.getV hx
      rw [List.getElem?_map, List.getElem?_eq_getElem hi'] at e1
      cases e1
      refine ⟨fun us hLn => ?_, Same.refl _⟩
      have lv : Live (fun a => Src s a ∨ a = L') H2' := live_or (lD0.up h2') (by rw [hLn]; exact fun z => by cases z)
      have ix1 : Is R (fun a => Src s a ∨ a = L') H2' x (fD fs[i]) := (i1.regN fun a z => z.elim .inl fun e => .inr (by rw [e]; exact hL')).up h2'
      intro s0 H0 C cl fp
      refine gN 15 ⟨rfl, rfl, fun s0 H0 C cl fp => eCall Gv hr takes0 <| aCons <| eV 15 rfl <| aNil ⟨_, x, fs[i], rfl, lv, ix1, hmd _ (List.getElem_mem hi'), fun v' H' f' s' i' ok' e' => ⟨s', _, ⟨f', rfl, ok', fun f hf => ?_⟩, i'⟩⟩⟩
      rw [List.getElem?_eq_getElem hi'] at hf
      cases hf
      exact e'
    intro HA zs es hA hLA le hP ia
    obtain ⟨hs', rfl, hg⟩ := unzipP (g := fD) (P := fun i (f' : F4) => f'.Ok ∧ ∀ f, fs[i]? = some f → f2 f' = invQ (f2 f)) es hP
    rw [List.length_map] at le
    have iL := Is.filled (S := Src s) lD0 hL' hLA ia
    have eg : hs'.map f2 = gs.map invQ := by
      rw [hgs]
      refine List.ext_getElem (by rw [List.length_map, List.length_map, List.length_map]; omega) fun i q1 q2 => ?_
      rw [List.length_map] at q1
      rw [List.getElem_map, List.getElem_map, List.getElem_map]
      exact (hg i hs'[i] (List.getElem?_eq_getElem q1)).2 _ (List.getElem?_eq_getElem (by omega))
    have sCA := sD.trans hA
    refine aNil ⟨Src s, _, hs', rfl, lC.up sCA, ⟨⟨_, iL, rfl⟩, by omega, by omega, fun f hf => ?_⟩, fun vb HB sB _ gb => ?_⟩
    · obtain ⟨i, hi, rfl⟩ := List.getElem_of_mem hf
      exact (hg i _ (List.getElem?_eq_getElem hi)).1
    rw [eg] at gb
    have sCB := sCA.trans sB
    refine aCons <| eRev <| eIx ix_seq <| eV 4 rfl <| eI <| ixD (i := 0) (iO.up sCB) rfl rfl fun y0 iy0 => ⟨Src s, _, lC.up sCB, iy0, fun yr HR sR ir => ?_⟩
    rw [← List.map_reverse] at ir
    have por : o0.reverse.Perm (idsI fs.length) := (List.reverse_perm o0).trans po0
    have sCR := sCB.trans sR
    refine aNil ⟨Src s, vb, gs.map invQ, 20, yr, o0.reverse, rfl, lC.up sCR, gb.up sR, by rw [List.length_map]; exact oat _ _ por ir, fun vk HE sE ik zk1 zk2 => ?_⟩
    rw [List.length_reverse] at zk1 zk2
    replace zk1 : Sz 161 (lineQ (gs.map invQ) o0.reverse).1 := zk1.mono (fz _ (by omega))
    replace zk2 : Sz 329 (lineQ (gs.map invQ) o0.reverse).2 := zk2.mono (az _ (by omega))
    have sCE := sCR.trans sE
    have itE := it.up (hA.trans (sB.trans (sR.trans sE)))
    clear iL gb ir ia hLA hvD it
    have dE := dC.then sCE
    have iOE := iO.up sCE
    have gnE := gnC.up sCE
    have inE := inC.up sCE
    -- x
    refine bCons <| sSet 7 <| eCall Gf hr tk <| aCons <| eV 0 rfl <| aCons <| eI <| aNil ⟨s, 99, rfl, dE.src, by decide, by decide, fun tx bx vx HF dF ix' x1 x2 x3 x4 => ?_⟩
    have dFF := dE.trans dF
    have lF := dFF.live
    have itF := itE.dr dF
    have ikF := ik.dr dF
    have iOF := iOE.dr dF
    have gnF := gnE.go dF.kp
    have inF := inE.dr dF
    clear itE ik iOE gnE inE iO gnC inC
    have fx : ∀ {H'}, Same HF H' → Fr R (Src s) H' vx 20 (mkQ tx bx) := fun s' => Fr.ofP (.inl (ix'.up s')) (by omega) (by omega) (by omega)
    obtain ⟨x, hx⟩ : ∃ x, x = mkQ tx bx := ⟨_, rfl⟩
    rw [← hx] at fx
    -- the first test
    refine bCons <| sIf <| tOr2 <| tCmp (op_neD hr.units) <| eCall Gc hr tk <| aCons <| eV 6 rfl <| aCons <| eCall Gc hr tk <| aCons <| eV 5 rfl <| aCons <| eV 7 rfl <| aNil ⟨Src s, "Line", vt, vx, 161, 329, 20, _, _, x, rfl, lF, fL, itF, zt1, zt2, fx (Same.refl _), by decide, by decide, by decide, fun va HG sG ia za => ?_⟩
    rw [lineQ_app] at ia za
    refine aNil ⟨Src s, "Line", vk, va, 161, 329, 511, _, _, _, rfl, lF.up sG, fL, ikF.up sG, zk1, zk2, Fr.of ia za, by decide, by decide, by decide, fun vb' HH sH ib zb => ?_⟩
    rw [lineQ_app, thrX_back gs o0 x npos] at ib
    have sFH := sG.trans sH
    refine eCall Gl hr tk <| aCons <| eIx ix_seq <| eV 7 rfl <| eI <| ixP (i := 0) (.inl (ix'.up sFH)) rfl <| aCons <| eIx ix_seq <| eV 7 rfl <| eI <| ixP (i := 1) (.inl (ix'.up sFH)) rfl <| aNil ⟨Src s, tx, bx, 20, rfl, lF.up sFH, by omega, by omega, by omega, by omega, fun vc HI sI ic _ => ?_⟩
    rw [← hx] at ic
    refine neD (ib.up sI) ic (okEq_frac _) (okEq_frac _) ⟨_, rfl, ?_⟩
    rw [eqv_frac, decide_eq_true rfl]
    have sFI := sFH.trans sI
    refine iteF <| tCmp (op_neD hr.units) <| eCall Gc hr tk <| aCons <| eV 5 rfl <| aCons <| eCall Gc hr tk <| aCons <| eV 6 rfl <| aCons <| eV 7 rfl <| aNil ⟨Src s, "Line", vk, vx, 161, 329, 20, _, _, x, rfl, lF.up sFI, fL, ikF.up sFI, zk1, zk2, fx sFI, by decide, by decide, by decide, fun va HJ sJ ia za => ?_⟩
    rw [lineQ_app] at ia za
    refine aNil ⟨Src s, "Line", vt, va, 161, 329, 511, _, _, _, rfl, lF.up (sFI.trans sJ), fL, itF.up (sFI.trans sJ), zt1, zt2, Fr.of ia za, by decide, by decide, by decide, fun vb' HK' sK ib zb => ?_⟩
    rw [lineQ_app, thrX_forth gs o0 x npos] at ib
    have sFK := sFI.trans (sJ.trans sK)
    refine eCall Gl hr tk <| aCons <| eIx ix_seq <| eV 7 rfl <| eI <| ixP (i := 0) (.inl (ix'.up sFK)) rfl <| aCons <| eIx ix_seq <| eV 7 rfl <| eI <| ixP (i := 1) (.inl (ix'.up sFK)) rfl <| aNil ⟨Src s, tx, bx, 20, rfl, lF.up sFK, by omega, by omega, by omega, by omega, fun vc HM sM ic _ => ?_⟩
    rw [← hx] at ic
    refine neD (ib.up sM) ic (okEq_frac _) (okEq_frac _) ⟨_, rfl, ?_⟩
    rw [eqv_frac, decide_eq_true rfl]
    have sFM := sFK.trans sM
    refine iteF <| bNil ?_
    -- cut
    refine bCons <| sSet 8 <| eOp op_add <| eI <| eCall G1 hr tk <| aCons <| eV 0 rfl <| aCons <| eOp op_sub <| eV 2 rfl <| eI ⟨_, _, rfl, rfl, aNil ⟨s, (fs.length : Int) - 1, rfl, (dFF.then sFM).src, by omega, log_of (by omega) (Int.le_trans (show (fs.length : Int) - 1 ≤ 1000 by omega) (by decide)), fun ra HO dO ra0 ra1 => ⟨_, _, rfl, rfl, ?_⟩⟩⟩
    obtain ⟨at', hat⟩ : ∃ at' : Nat, (1 : Int) + ra = (at' : Nat) := ⟨(1 + ra).toNat, by omega⟩
    have a1 : 1 ≤ at' := by omega
    have a2 : at' < fs.length := by omega
    have dFO : Dr s HF HO := (Dr.same dFF.src sFM).trans dO
    have dOO := dFF.trans dFO
    have itO := itF.dr dFO
    have iOO := iOF.dr dFO
    have gnO := gnF.go dFO.kp
    have inO := inF.dr dFO
    have ixO := ix'.dr dFO
    have lO := dOO.live
    clear itF iOF gnF inF ikF
    -- the two parts
    refine bCons <| sSet 9 <| eLst <| aCons <| eSl (lo := none) (hi := some _) sl_list po_none (po_some (pE _)) ?_
    refine eIx ix_seq <| eV 4 rfl <| eI <| ixD (i := 0) iOO rfl rfl fun y0 iy0 => ?_
    obtain ⟨pu, us, rfl, npu, hpu, hus⟩ := id iy0.lstE
    have eus := IsA.of_ints hus
    subst eus
    refine eV 8 rfl ⟨_, rfl, pu, _, rfl, SqL.of hpu, fun pc hpc => ?_⟩
    have ecut : cutV (o0.map V.int) none (some (1 + ra)) = (o0.take at').map V.int := by rw [hat, cut_take, List.map_take]
    rw [ecut]
    have sc := same_new (o := .lst ((o0.take at').map V.int)) hpc
    have ic1 : Is R (Src s) (upd HO pc (.lst ((o0.take at').map V.int))) (.ref pc) (.lst ((o0.take at').map D.int)) := .lst (lO.new hpc) upd_same IsA.ints
    generalize upd HO pc (.lst ((o0.take at').map V.int)) = HP at sc ic1
    refine aCons <| eSl (lo := some _) (hi := none) sl_list (po_some (pE _)) po_none ?_
    refine eIx ix_seq <| eV 4 rfl <| eI <| ixD (i := 0) (iOO.up sc) rfl rfl fun y0 iy0' => ?_
    obtain ⟨pu2, us2, rfl, npu2, hpu2, hus2⟩ := id iy0'.lstE
    have eus2 := IsA.of_ints hus2
    subst eus2
    refine eV 8 rfl ⟨_, rfl, pu2, _, rfl, SqL.of hpu2, fun pd hpd => ?_⟩
    have ecut2 : cutV (o0.map V.int) (some (1 + ra)) none = (o0.drop at').map V.int := by rw [hat, cut_drop, List.map_drop]
    rw [ecut2]
    have sd := same_new (o := .lst ((o0.drop at').map V.int)) hpd
    have ic2 : Is R (Src s) (upd HP pd (.lst ((o0.drop at').map V.int))) (.ref pd) (.lst ((o0.drop at').map D.int)) := .lst ((lO.up sc).new hpd) upd_same IsA.ints
    refine aNil ⟨by show 2 ≤ sizeLine; decide, fun pe hpe => ?_⟩
    have se := same_new (o := .lst [.ref pc, .ref pd]) hpe
    have iP : Is R (Src s) _ (.ref pe) (.lst [.lst ((o0.take at').map D.int), .lst ((o0.drop at').map D.int)]) := Is.newL (lO.up (sc.trans sd)) hpe (.cons (ic1.up sd) (.cons ic2 .nil))
    have sOP : Same HO _ := sc.trans (sd.trans se)
    generalize upd (upd HP pd (.lst ((o0.drop at').map V.int))) pe (.lst [.ref pc, .ref pd]) = HQ at iP sOP
    clear ic1 ic2 sc sd se hpd hpe
    have lQ := lO.up sOP
    have gnQ := gnO.up sOP
    obtain ⟨pt, hpt⟩ : ∃ pt : Nat → List Int, pt = fun i => if i = 0 then o0.take at' else o0.drop at' := ⟨_, rfl⟩
    have ptb : ∀ i, (∀ z ∈ pt i, 0 ≤ z ∧ z < (gs.length : Int)) ∧ 1 ≤ (pt i).length ∧ (pt i).length ≤ 8 := fun i => by
      rw [hpt]
      by_cases hi : i = 0
      · simp only [hi, if_true]
        refine ⟨fun z hz => obd po0 z (List.mem_of_mem_take hz), ?_, ?_⟩ <;> rw [List.length_take] <;> omega
      · simp only [hi, if_false]
        refine ⟨fun z hz => obd po0 z (List.mem_of_mem_drop hz), ?_, ?_⟩ <;> rw [List.length_drop] <;> omega
    refine bCons <| sLc 10 N__law_right s__law_right [("_law_part", 16)] <| iW rfl <| eV 9 rfl ⟨Src s, _, _, iP, rfl, fun J xs ix wk L' hL' => ?_⟩
    have lx := ix.len
    have lx2 : xs.length = 2 := lx
    refine lcP (R := R) wk (fun i e => ∃ g : G2, e = lD g ∧ (g = lineQ ((pt i).map (gAt gs)) (idsI (pt i).length) ∧ Sz 161 g.1 ∧ Sz 329 g.2)) (by omega) (fills_same (S := Src s) hL') (fun H2 h2 => Kp.of h2) ?_ ?_
    · rintro i x0 H2 H2' hi h2' ⟨rfl, hx0⟩
      obtain ⟨pb, pl1, pl8⟩ := ptb i
      have ipQ : Is R (Src s) HQ x0 (.lst ((pt i).map D.int)) := by
        obtain ⟨dx, e1, i1⟩ := ix.getV hx0
        rw [hpt]
        match i, hi, e1 with
        | 0, _, e1 => cases e1; exact i1
        | 1, _, e1 => cases e1; exact i1
        | n + 2, hi, _ => omega
      generalize pt i = part at pb pl1 pl8 ipQ ⊢
      refine ⟨fun us hLn => ?_, Same.refl _⟩
      have lv : Live (fun a => Src s a ∨ a = L') H2' := live_or (lQ.up h2') (by rw [hLn]; exact fun z => by cases z)
      have rg : ∀ a, (Src s a ∨ a = L') → Src s a ∨ HQ a = none := fun a z => z.elim .inl fun e => .inr (by rw [e]; exact hL')
      have ipT := (ipQ.regN rg).up h2'
      have gnT := (gnQ.regN rg).up h2'
      intro s0 H0 C cl fp
      refine gN 16 ⟨rfl, rfl, fun s0 H0 C cl fp => ?_⟩
      refine eCall Gi hr takes0 <| aCons <| eLcB N__law_right s__law_right [("_law_k", 14)] <| iW rfl <| eV 16 rfl ⟨_, _, _, ipT, rfl, fun J2 xs2 ix2 wk2 L2 hL2 => ?_⟩
      have lx3 := ix2.len
      rw [List.length_map] at lx3
      refine lcG (R := R) wk2 ((part.map (gAt gs)).map gD) (by rw [List.length_map, List.length_map]; exact lx3.symm) (by omega) (fills_same (S := fun a => Src s a ∨ a = L') hL2) (fun H3 h3 => Kp.of h3) ?_ ?_
      · rintro i2 e2 x2 H3 H3' he2 h3 ⟨rfl, hx2⟩
        have ex := IsA.of_ints ix2
        subst ex
        have hi2 : i2 < part.length := by
          have := (List.getElem?_eq_some_iff.mp hx2).1
          simpa using this
        have e0 := at_int hi2 hx2
        subst e0
        rw [List.getElem?_map, List.getElem?_map, List.getElem?_eq_getElem hi2] at he2
        cases he2
        obtain ⟨h0, h1⟩ := pb _ (List.getElem_mem hi2)
        obtain ⟨kk, ek⟩ : ∃ kk : Nat, part[i2] = (kk : Int) := ⟨part[i2].toNat, by omega⟩
        have hk : kk < gs.length := by omega
        have egk : gs[kk]? = some gs[kk] := List.getElem?_eq_getElem hk
        rw [ek, gAt_nat egk]
        refine ⟨fun hLn2 => ?_, Same.refl _⟩
        have rg2 : ∀ a, ((Src s a ∨ a = L') ∨ a = L2) → (Src s a ∨ a = L') ∨ H2' a = none := fun a z => z.elim .inl fun e => .inr (by rw [e]; exact hL2)
        have gn3 := (gnT.regN rg2).up h3
        intro s0 H0 C cl fp
        exact gN 14 ⟨rfl, rfl, fun s0 H0 C cl fp => eIx ix_seq <| eV 3 rfl <| eV 14 rfl <| ixG gn3 egk fun y iy => ⟨Same.refl _, iy⟩⟩
      · intro H4 ys4 h4 hL4 ia4
        have iL4 := Is.filled lv hL2 hL4 ia4
        have gp := gates_part iL4 pb pl1 pl8 gnO.sz gnO.pos
        refine aCons <| eListRange mL mR <| eCB call_lenO mN <| aCons <| eV 16 rfl <| aNil <| lenOf (ipT.up h4) rfl ⟨part.length, by rw [List.length_map], by omega, fun q hq => ?_⟩
        have s5 := same_new (o := .lst ((idsI part.length).map V.int)) hq
        have iq : Is R (fun a => Src s a ∨ a = L') (upd H4 q (.lst ((idsI part.length).map V.int))) (.ref q) (.lst ((idsI part.length).map D.int)) := .lst ((lv.up h4).new hq) upd_same IsA.ints
        refine aNil ⟨_, _, part.map (gAt gs), 20, _, idsI part.length, rfl, (lv.up h4).up s5, gp.up s5, ⟨⟨_, iq, rfl⟩, by rw [List.length_map]; exact ordB_perm (List.Perm.refl _)⟩, fun v' H' s' i' z1 z2 => ⟨h4.trans (s5.trans s'), _, ⟨_, rfl, rfl, z1.mono (fz _ ?_), z2.mono (az _ ?_)⟩, i'⟩⟩
        · rw [List.length_map, List.length_range]; exact pl8
        · rw [List.length_map, List.length_range]; exact pl8
    intro HR' zs2 es2 hR hLR le2 hP2 iaR
    obtain ⟨qs, rfl, hq⟩ := unzipP (g := lD) (P := fun i (g : G2) => g = lineQ ((pt i).map (gAt gs)) (idsI (pt i).length) ∧ Sz 161 g.1 ∧ Sz 329 g.2) es2 hP2
    rw [List.length_map] at le2
    have le3 : qs.length = 2 := le2.trans lx2
    match qs, le3, hq, iaR with
    | [q0, q1], _, hq, iaR =>
    obtain ⟨eq0, zq01, zq02⟩ := hq 0 q0 rfl
    obtain ⟨eq1, zq11, zq12⟩ := hq 1 q1 rfl
    have iE : Is R (Src s) HR' (.ref L') (.lst [lD q0, lD q1]) := .lst (lQ.new hL') hLR (iaR.reg fun _ z => .inl z)
    have sOR := sOP.trans hR
    have lR := lO.up sOR
    have pass : ∀ (i : Nat) (y : Rat), q0.1 * y + q0.2 = thrX gs (o0.take at') y ∧ q1.1 * y + q1.2 = thrX gs (o0.drop at') y := fun _ y => by
      rw [eq0, eq1, lineQ_app, lineQ_app, thrX_part gs _ _ _ (Nat.le_refl _), thrX_part gs _ _ _ (Nat.le_refl _), List.take_length, List.take_length]
      rw [hpt]
      exact ⟨rfl, rfl⟩
    have fxR : ∀ {H'}, Same HR' H' → Fr R (Src s) H' vx 20 x := fun s' => by
      rw [hx]
      exact Fr.ofP (.inl ((ixO.up sOR).up s')) (by omega) (by omega) (by omega)
    have itR := itO.up sOR
    have iOR := iOO.up sOR
    have gnR := gnO.up sOR
    have inR := inO.up sOR
    clear hP2 hq iaR hLR iP
    refine bCons <| sIf <| tCmp (op_neD hr.units) <| eCall Gc hr tk <| aCons <| eIx ix_seq <| eV 10 rfl <| eI <| ixD (i := 1) iE rfl rfl fun ye1 iye1 => aCons <| eCall Gc hr tk <| aCons <| eIx ix_seq <| eV 10 rfl <| eI <| ixD (i := 0) iE rfl rfl fun ye0 iye0 => aCons <| eV 7 rfl ?_
    refine aNil ⟨Src s, "Line", ye0, vx, 161, 329, 20, _, _, x, rfl, lR, fL, iye0, zq01, zq02, fxR (Same.refl _), by decide, by decide, by decide, fun va HS sS ia za => ?_⟩
    rw [(pass 0 x).1] at ia za
    refine aNil ⟨Src s, "Line", ye1, va, 161, 329, 511, _, _, _, rfl, lR.up sS, fL, iye1.up sS, zq11, zq12, Fr.of ia za, by decide, by decide, by decide, fun vb' HT sT ib zb => ?_⟩
    rw [(pass 0 _).2, ← thrX_app, List.take_append_drop] at ib
    have sRT := sS.trans sT
    refine eCall Gc hr tk <| aCons <| eV 5 rfl <| aCons <| eV 7 rfl <| aNil ⟨Src s, "Line", vt, vx, 161, 329, 20, _, _, x, rfl, lR.up sRT, fL, itR.up sRT, zt1, zt2, fxR sRT, by decide, by decide, by decide, fun vc HU sU ic zc => ?_⟩
    rw [lineQ_app] at ic
    refine neD (ib.up sU) ic (okEq_frac _) (okEq_frac _) ⟨_, rfl, ?_⟩
    rw [eqv_frac, decide_eq_true rfl]
    have sRU := sRT.trans sU
    refine iteF <| bNil ?_
    -- worths
    have wz : asz 20 o0.length + asz 20 o1.length + 1 ≤ 659 ∧ asz 20 o1.length + asz 20 o2.length + 1 ≤ 659 ∧ asz 20 o0.length + asz 20 o2.length + 1 ≤ 659 := by
      have := az _ (show fs.length ≤ 8 from h8)
      rw [l0, l1, l2]
      omega
    refine bCons <| sSet 11 <| eCall Ga hr tk <| aCons <| eCall Gw hr tk <| aCons <| eV 3 rfl <| aCons <| eIx ix_seq <| eV 4 rfl <| eI <| ixD (i := 0) (iOR.up sRU) rfl rfl fun y0 iy0 => aCons <| eIx ix_seq <| eV 4 rfl <| eI <| ixD (i := 1) (iOR.up sRU) rfl rfl fun y1 iy1 => ?_
    refine aNil ⟨Src s, vn, gs, 20, y0, o0, y1, o1, rfl, lR.up sRU, gnR.up sRU, oat _ _ po0 iy0, oat _ _ po1 iy1, by omega, fun w1 HV sV iw1 zw1 => ?_⟩
    have sRV := sRU.trans sV
    refine aCons <| eCall Gw hr tk <| aCons <| eV 3 rfl <| aCons <| eIx ix_seq <| eV 4 rfl <| eI <| ixD (i := 1) (iOR.up sRV) rfl rfl fun y0 iy0 => aCons <| eIx ix_seq <| eV 4 rfl <| eI <| ixD (i := 2) (iOR.up sRV) rfl rfl fun y1 iy1 => ?_
    refine aNil ⟨Src s, vn, gs, 20, y0, o1, y1, o2, rfl, lR.up sRV, gnR.up sRV, oat _ _ po1 iy0, oat _ _ po2 iy1, by omega, fun w2 HW sW iw2 zw2 => ?_⟩
    refine aNil ⟨Src s, _, _, 659, 659, _, _, rfl, lR.up (sRV.trans sW), Fr.of (iw1.up sW) (zw1.mono wz.1), Fr.of iw2 (zw2.mono wz.2.1), by decide, trivial, fun w3 HX sX iw3 _ => ?_⟩
    have sRX := sRV.trans (sW.trans sX)
    refine bCons <| sIf <| tCmp (op_neD hr.units) <| eV 11 rfl <| eCall Gw hr tk <| aCons <| eV 3 rfl <| aCons <| eIx ix_seq <| eV 4 rfl <| eI <| ixD (i := 0) (iOR.up sRX) rfl rfl fun y0 iy0 => aCons <| eIx ix_seq <| eV 4 rfl <| eI <| ixD (i := 2) (iOR.up sRX) rfl rfl fun y1 iy1 => ?_
    refine aNil ⟨Src s, vn, gs, 20, y0, o0, y1, o2, rfl, lR.up sRX, gnR.up sRX, oat _ _ po0 iy0, oat _ _ po2 iy1, by omega, fun w4 HY sY iw4 _ => neD (iw3.up sY) iw4 (okEq_frac _) (okEq_frac _) ⟨_, rfl, ?_⟩⟩
    have ew : (lineQ gs o0).2 - (lineQ gs o1).2 + ((lineQ gs o1).2 - (lineQ gs o2).2) = (lineQ gs o0).2 - (lineQ gs o2).2 := by grind
    rw [eqv_frac, decide_eq_true ew]
    have sRY := sRX.trans sY
    have dY : Dr s H HY := (dC.then sCE).trans ((dF.trans dFO).then (sOR.trans sRY))
    refine iteF <| bNil <| bCons <| sIf <| tCmp op_eq <| eV 2 rfl <| eI ⟨rfl, _, rfl, ?_⟩
    refine ite2 (fun _ => bOne <| sRet <| eBl <| k _ dY) (fun c8 => ?_)
    have n8 : fs.length ≤ 7 := by
      by_cases h : fs.length = 8
      · rw [h] at c8
        simp at c8
      · omega
    refine bNil <| bCons <| sSet 12 <| eCall G1 hr tk <| aCons <| eV 0 rfl <| aCons <| eOp op_add <| eV 2 rfl <| eI ⟨_, _, rfl, rfl, aNil ⟨s, (fs.length : Int) + 1, rfl, dY.src, by omega, log_of (by omega) (Int.le_trans (show (fs.length : Int) + 1 ≤ 1000 by omega) (by decide)), fun rp HZ dZ rp0 rp1 => ?_⟩⟩
    obtain ⟨pl, rfl⟩ : ∃ pl : Nat, rp = (pl : Nat) := ⟨rp.toNat, by omega⟩
    have dRZ : Dr s HR' HZ := (Dr.same (dOO.then sOR).src sRY).trans dZ
    have itZ := itR.dr dRZ
    have iOZ := iOR.dr dRZ
    have gnZ := gnR.go dRZ.kp
    have inZ := inR.dr dRZ
    have dHZ := dY.trans dZ
    have lZ := dHZ.live
    clear itR iOR gnR inR itO iOO gnO inO iE
    -- a gate that changes nothing, put in
    refine bCons <| sSet 13 <| eOp op_catR <| eOp op_catR <| eSl (lo := none) (hi := some _) sl_list po_none (po_some (pE _)) ?_
    refine eIx ix_seq <| eV 4 rfl <| eI <| ixD (i := 0) iOZ rfl rfl fun y0 iy0 => ?_
    obtain ⟨qu, us, rfl, nqu, hqu, hus⟩ := id iy0.lstE
    have eus := IsA.of_ints hus
    subst eus
    refine eV 12 rfl ⟨_, rfl, qu, _, rfl, SqL.of hqu, fun pc hpc => ?_⟩
    rw [cut_take, ← List.map_take]
    have hpc1 : upd HZ pc (.lst ((o0.take pl).map V.int)) pc = some (.lst ((o0.take pl).map V.int)) := upd_same
    have sc := same_new (o := .lst ((o0.take pl).map V.int)) hpc
    generalize upd HZ pc (.lst ((o0.take pl).map V.int)) = Ha at hpc1 sc
    refine eLst <| aCons <| eV 2 rfl <| aNil ⟨by show 1 ≤ sizeLine; decide, fun pd hpd => ?_⟩
    have hpd1 : upd Ha pd (.lst [.int (fs.length : Nat)]) pd = some (.lst [.int (fs.length : Nat)]) := upd_same
    have sd := same_new (o := .lst [.int (fs.length : Nat)]) hpd
    have hpc2 := sd _ _ hpc1
    generalize upd Ha pd (.lst [.int (fs.length : Nat)]) = Hb at hpd1 sd hpc2
    have szl : ∀ {m : Nat}, m ≤ 100 → m ≤ sizeLine := fun h => Nat.le_of_lt (small1000 (by omega))
    refine ⟨pc, pd, _, _, rfl, rfl, SqL.of hpc2, SqL.of hpd1, szl (by rw [List.length_map, List.length_take]; simp; omega), fun pe hpe => ?_⟩
    have hpe1 : upd Hb pe (.lst ((o0.take pl).map V.int ++ [.int (fs.length : Nat)])) pe = some (.lst ((o0.take pl).map V.int ++ [.int (fs.length : Nat)])) := upd_same
    have se := same_new (o := .lst ((o0.take pl).map V.int ++ [.int (fs.length : Nat)])) hpe
    generalize upd Hb pe (.lst ((o0.take pl).map V.int ++ [.int (fs.length : Nat)])) = Hc at hpe1 se
    have sZc := sc.trans (sd.trans se)
    refine eSl (lo := some _) (hi := none) sl_list (po_some (pE _)) po_none ?_
    refine eIx ix_seq <| eV 4 rfl <| eI <| ixD (i := 0) (iOZ.up sZc) rfl rfl fun y0 iy0' => ?_
    obtain ⟨qv, us2, rfl, nqv, hqv, hus2⟩ := id iy0'.lstE
    have eus2 := IsA.of_ints hus2
    subst eus2
    refine eV 12 rfl ⟨_, rfl, qv, _, rfl, SqL.of hqv, fun pf hpf => ?_⟩
    rw [cut_drop, ← List.map_drop]
    have hpf1 : upd Hc pf (.lst ((o0.drop pl).map V.int)) pf = some (.lst ((o0.drop pl).map V.int)) := upd_same
    have sf := same_new (o := .lst ((o0.drop pl).map V.int)) hpf
    have hpe2 := sf _ _ hpe1
    generalize upd Hc pf (.lst ((o0.drop pl).map V.int)) = Hd at hpf1 sf hpe2
    refine ⟨pe, pf, _, _, rfl, rfl, SqL.of hpe2, SqL.of hpf1, szl (by rw [List.length_append, List.length_map, List.length_map, List.length_take, List.length_drop]; simp; omega), fun pg hpg => ?_⟩
    obtain ⟨lo, hlo⟩ : ∃ lo, lo = o0.take pl ++ [(fs.length : Int)] ++ o0.drop pl := ⟨_, rfl⟩
    have elo : (o0.take pl).map V.int ++ [.int (fs.length : Nat)] ++ (o0.drop pl).map V.int = lo.map V.int := by
      rw [hlo, List.map_append, List.map_append]
      rfl
    rw [elo]
    have lZd := lZ.up (sZc.trans sf)
    have ig : Is R (Src s) (upd Hd pg (.lst (lo.map V.int))) (.ref pg) (.lst (lo.map D.int)) := .lst (lZd.new hpg) upd_same IsA.ints
    have sg := same_new (o := .lst (lo.map V.int)) hpg
    have sZg := sZc.trans (sf.trans sg)
    generalize upd Hd pg (.lst (lo.map V.int)) = He at ig sg sZg
    have pere : (o0.take pl ++ o0.drop pl).Perm (idsI fs.length) := by
      rw [List.take_append_drop]
      exact po0
    have perl : lo.Perm (idsI (fs.length + 1)) := by
      rw [hlo]
      exact longer_perm pere
    have lZe := lZ.up sZg
    -- the last row
    refine bOne <| sRet <| eCmp (op_eqO GE (hr.mono (by decide)) tk) <| eCall Gi hr tk <| aCons <| eOp op_catR <| eV 3 rfl <| eLst <| aCons <| eGate GG hr tk <| aCons <| eTupD R (Src s) [.int 4, .int 4] <| aCons <| eI <| aCons <| eI <| aNil ⟨lZe, IsA.ints (is := [4, 4]), fun v1 Hf s1 i1 => ?_⟩
    refine aCons <| eLstD R (Src s) [.int 0, .int 3] <| aCons <| eI <| aCons <| eI <| aNil ⟨lZe.up s1, IsA.ints (is := [0, 3]), fun v2 Hg s2 i2 => ?_⟩
    have s12 := s1.trans s2
    refine aNil ⟨Src s, _, _, 4, 4, 0, 3, rfl, lZe.up s12, .inl (i1.up s2), .inr i2, by decide, fun v3 Hh s3 i3 _ _ _ => aNil ⟨by show 1 ≤ sizeLine; decide, fun ph hph => ?_⟩⟩
    have s13 := s12.trans s3
    have sh' := same_new (o := .lst [v3]) hph
    have hph1 : upd Hh ph (.lst [v3]) ph = some (.lst [v3]) := upd_same
    have i3h := i3.up sh'
    have inh := inZ.up (sZg.trans (s13.trans sh'))
    have lh := lZe.up (s13.trans sh')
    have s1h := s13.trans sh'
    generalize upd Hh ph (.lst [v3]) = Hi at hph1 i3h inh lh s1h
    obtain ⟨pn, xn, rfl, npn, hpn, hxn⟩ := id inh.lstE
    have lxn := hxn.len
    rw [List.length_map] at lxn
    refine ⟨pn, ph, _, _, rfl, rfl, SqL.of hpn, SqL.of hph1, szl (by simp; omega), fun pj hpj => ?_⟩
    have e44 : mkQ 4 4 = 1 := by decide +kernel
    have e03 : mkQ 0 3 = 0 := by decide +kernel
    rw [e44, e03] at i3h
    have sj := same_new (o := .lst (xn ++ [v3])) hpj
    have ij : Is R (Src s) (upd Hi pj (.lst (xn ++ [v3]))) (.ref pj) (.lst ((gs ++ [((1 : Rat), (0 : Rat))]).map gD)) := by
      rw [List.map_append]
      exact .lst (lh.new hpj) upd_same ((hxn.up sj).app (.cons (i3h.up sj) .nil))
    have gj : GatesAt R (Src s) (upd Hi pj (.lst (xn ++ [v3]))) (.ref pj) (gs ++ [((1 : Rat), (0 : Rat))]) 20 := by
      refine ⟨⟨_, ij, rfl⟩, by rw [List.length_append]; simp, by rw [List.length_append]; simp; omega, fun g hg => ?_, fun g hg => ?_, by decide, by decide⟩
      · rcases List.mem_append.mp hg with z | z
        · exact gnZ.sz g z
        · rw [List.mem_singleton.mp z]
          exact ⟨sz_one.mono (by decide), sz_zero.mono (by decide)⟩
      · rcases List.mem_append.mp hg with z | z
        · exact gnZ.pos g z
        · rw [List.mem_singleton.mp z]
          decide
    have s1j := s1h.trans sj
    generalize upd Hi pj (.lst (xn ++ [v3])) = Hj at ij gj sj s1j
    have sZj := sZg.trans s1j
    refine aCons <| eV 13 rfl <| aNil ⟨Src s, .ref pj, gs ++ [((1 : Rat), (0 : Rat))], 20, .ref pg, lo, rfl, lZ.up sZj, gj, ⟨⟨_, ig.up s1j, rfl⟩, ?_⟩, fun v6 Hk s6 i6 _ _ => ?_⟩
    · rw [List.length_append, gl]
      exact ordB_perm perl
    have elq : lineQ (gs ++ [((1 : Rat), (0 : Rat))]) lo = lineQ gs o0 := by
      have h := line_longer (gs := gs) (a := o0.take pl) (b := o0.drop pl) (by rw [List.take_append_drop]; exact obd po0)
      rw [List.take_append_drop, gl, ← hlo] at h
      exact h
    rw [elq] at i6
    refine eV 5 rfl <| ownQ i6 TL (.inl rfl) (itZ.up (sZj.trans s6)) ?_
    rw [decide_eq_true ⟨rfl, rfl, rfl⟩]
    exact k _ (dHZ.then (sZj.trans s6))
end
end BR

namespace BR
open PySem PySem.Spec PyProof.Rows L2
theorem fD_regM {R : Rp} {s L : Addr} {H0 H H' : Hp} {v : V} {f : F4} {us : List V} (i : Is R (Src s) H' v (fD f)) (hs : SrcAt H0 s) (hL : H0 L = none) (dr : Dr s H H') (hu : H L = some (.lst us)) : Is R (fun a => a = s ∨ a = L) H' v (fD f) :=
  fD_reg i fun b hb => by
    rcases hb with rfl | rfl
    · exact .inl rfl
    · refine .inr ⟨us, dr.kp _ _ (fun z => ?_) hu⟩
      obtain ⟨_, _, _, q⟩ := hs
      rw [show b = s from z] at hL
      rw [hL] at q
      cases q
section
variable {P : Program} {w : World} {K : PySem.W.Frag} {mg : Str → Option Value} {base : Heap} {R : Rp}
theorem ok_law {f : Addr} {fd : FuncData} {CE : Addr} (hK : R.K = K) (F : L2.Fun K "law" "law" s_law f fd) (mR : mg "range" = none)
    (G0 : DefG P w K mg base 1 "_law_source" ["_law_cell"] spSource) (G1 : DefG P w K mg base 1 "_law_draw" ["_law_source_here", "_law_many"] spDraw) (G4 : DefG P w K mg base 5 "_law_small" ["_law_source_here"] (spSmall R)) (G5 : DefG P w K mg base 8 "_law_right" ["_law_source_here", "_law_facts"] (spRight7 R))
    (GG : MakeG P w K mg base 4 "Gate" (R.CA "Gate") ["self", "factor", "amount"] (spGate R CE)) (GL : MakeG P w K mg base 3 "Line" (R.CA "Line") ["self", "factor", "amount"] (spLine R))
    (TL : EqC R mg "Line") (tGL : EqTo R "Gate" "Line") (NG : NeOk K (R.CA "Gate")) (GE : MethG P w K mg base 1 (R.CA "Gate") "__eq__" ["self", "other"] (spEqF R mg "Gate")) :
    FnOk P w K mg base (L2.CX P w) 9 f fd ["_law_script"] (spLaw K) := by
  subst hK
  refine okN F sc_law (fun vs H Q E h => ?_) fun X H vs Q E hX hr tk h => ?_
  · obtain ⟨a, ns, rfl, _⟩ := h
    rfl
  · obtain ⟨cdv, A, outer, sh, rfl⟩ := hX
    have hN := sc_law.nd
    obtain ⟨a, ns, rfl, hs, h63, k⟩ := h
    refine bCons <| sCells (n := 5) 0 (fun σ => ∃ b0 b1 b2 b3 b4 b5, σ = [b0, b1, b2, b3, b4, b5]) hs h63 rfl ⟨_, _, _, _, _, _, rfl⟩ ?_ fun σ' H' _ => ?_
    · rintro c L cs σ' H1 ⟨b0, b1, b2, b3, b4, b5, rfl⟩ hL
      refine gN 1 <| bCons <| sSet 2 <| eCall G0 hr tk <| aCons <| eV 1 rfl <| aNil ⟨c, rfl, fun s H2 s2 hs0 hsrc => ?_⟩
      have nls : L ≠ s := fun z => by rw [z, hs0] at hL; cases hL
      have hL2 := s2 _ _ hL
      refine bOne <| sTurns mR (fun σ H' => (∃ b0 b1 b3 b4 b5, σ = [b0, b1, some (.ref s), b3, b4, b5]) ∧ Dr s H2 H') <| aCons <| eI <| aNil ⟨3, rfl, by decide, by decide, ⟨⟨_, _, _, _, _, rfl⟩, Dr.refl hsrc⟩, ?_, fun σ H' h => ?_⟩
      · rintro i σ H3 hi ⟨⟨b0, b1, b3, b4, b5, rfl⟩, d3⟩
        refine gN 3 <| bCons <| sLc 4 N_law s_law [("_law_at", 5)] <| iR1 mR <| aCons <| eOp op_add <| eI <| eCall G1 hr tk <| aCons <| eV 2 rfl <| aCons <| eI <| aNil ⟨s, 7, rfl, d3.src, by decide, by decide, fun r H4 d4 r0 r7 => ⟨_, _, rfl, rfl, aNil ⟨2 + r, rfl, by omega, by omega, fun LL hLL => ?_⟩⟩⟩
        have d34 := d3.trans d4
        refine lcP (R := R) walk_range (fun i e => ∃ f, e = fD f ∧ f.Md) (by omega) (fills_dr hLL d34.src) (fun _ _ => True.intro) ?_ ?_
        · rintro i x H5 H5' hi h5 ⟨rfl, rfl⟩
          refine ⟨fun us hLn => ?_, Dr.refl h5.src⟩
          intro s0 H0 C cl fp
          exact gN 5 ⟨rfl, rfl, fun s0 H0 C cl fp => eCall G4 hr takes0 <| aCons <| eV 2 rfl <| aNil ⟨s, rfl, h5.src, fun v' H' f dr i' sm => ⟨dr, _, ⟨f, rfl, sm⟩, fD_regM i' d34.src hLL dr hLn⟩⟩⟩
        intro H6 ys es h6 hL6 le hP ia
        obtain ⟨fs, rfl, hsm⟩ := unzipP (g := fD) (P := fun _ f => F4.Md f) es hP
        rw [List.length_map] at le
        have d36 := d34.trans h6
        have iL : Is R (Src s) H6 (.ref LL) (.lst (fs.map fD)) := .lst (d34.live.new hLL) hL6 (ia.reg fun _ z => .inl z)
        refine bOne <| sIf <| tNot <| tVal <| eCall G5 hr tk <| aCons <| eV 2 rfl <| aCons <| eV 4 rfl <| aNil ⟨s, _, fs, rfl, h6.src, iL, by omega, by omega, fun f hf => ?_, fun H7 d7 => ⟨_, rfl, iteF <| bNil ⟨⟨_, _, _, _, _, rfl⟩, d36.trans d7⟩⟩⟩
        obtain ⟨i, hi, rfl⟩ := List.getElem_of_mem hf
        exact hsm i _ (List.getElem?_eq_getElem hi)
      · obtain ⟨⟨b0, b1, b3, b4, b5, rfl⟩, d⟩ := h
        exact ⟨⟨_, _, _, _, _, _, rfl⟩, d.kp _ _ nls hL2⟩
    · have l0 : Live (fun _ => False) H' := Live.none
      refine bOne <| sRet <| eCmp (op_neO GE NG (hr.mono (by decide)) tk) <| eGate GG hr tk <| aCons <| eTupD R (fun _ => False) [.int 1, .int 1] <| aCons <| eI <| aCons <| eI <| aNil ⟨l0, IsA.ints (is := [1, 1]), fun v1 H1 s1 i1 => ?_⟩
      refine aCons <| eTupD R (fun _ => False) [.int 0, .int 1] <| aCons <| eI <| aCons <| eI <| aNil ⟨Live.none, IsA.ints (is := [0, 1]), fun v2 H2 s2 i2 => ?_⟩
      refine aNil ⟨_, _, _, 1, 1, 0, 1, rfl, Live.none, .inl (i1.up s2), .inl i2, by decide, fun v3 H3 s3 i3 _ _ _ => ?_⟩
      refine eLine GL hr tk <| aCons <| eTupD R (fun _ => False) [.int 1, .int 1] <| aCons <| eI <| aCons <| eI <| aNil ⟨Live.none, IsA.ints (is := [1, 1]), fun v4 H4 s4 i4 => ?_⟩
      refine aCons <| eTupD R (fun _ => False) [.int 0, .int 1] <| aCons <| eI <| aCons <| eI <| aNil ⟨Live.none, IsA.ints (is := [0, 1]), fun v5 H5 s5 i5 => ?_⟩
      refine aNil ⟨_, v4, v5, 1, 1, 1, 0, rfl, Live.none, Fr.of (i4.up s5) sz_one, Fr.of i5 sz_zero, by decide, by decide, fun v6 H6 s6 i6 _ _ => ?_⟩
      exact ownQ (i3.up (s4.trans (s5.trans s6))) TL tGL i6 (k _)
end
end BR

namespace BR
open PySem PySem.Spec PyProof.Rows L2
theorem all_mk {P : Program} {w : World} {K : PySem.W.Frag} {h : Heap} {mg : Str → Option Value} {fa : Addr} (X : K.In h) (G : h.Ns mainGlobals mg) (hfa : mg "law" = some (.ref fa))
    {CB : Addr}
    {CE : Addr}
    {nm_CE q_CE : Str} {N_CE : Addr} {bs_CE : List Value} {sn_CE : List Str} {sub_CE : List Value} {ab_CE : Bool} {col_CE : Option Bool} {dd_CE : Option Addr} {m0_CE m1_CE m2_CE m3_CE m5_CE : Option Value}
    {bm_CE : List Value}
    {od_iCE an_iCE : Option Addr} {sl_iCE : Array (Option Value)} {oc_iCE kv_iCE dc_iCE pm_iCE cd_iCE ct_iCE : Value} {f_iCE : Addr}
    {CG : Addr}
    {od_iCG an_iCG : Option Addr} {sl_iCG : Array (Option Value)} {oc_iCG kv_iCG dc_iCG pm_iCG cd_iCG ct_iCG : Value} {f_iCG : Addr}
    {CL : Addr}
    {od_iCL an_iCL : Option Addr} {sl_iCL : Array (Option Value)} {oc_iCL kv_iCL dc_iCL pm_iCL cd_iCL ct_iCL : Value} {f_iCL : Addr}
    {od_eG an_eG : Option Addr} {sl_eG : Array (Option Value)} {oc_eG kv_eG dc_eG pm_eG cd_eG ct_eG : Value} {f_eG : Addr}
    {od_eL an_eL : Option Addr} {sl_eL : Array (Option Value)} {oc_eL kv_eL dc_eL pm_eL cd_eL ct_eL : Value} {f_eL : Addr}
    {t_N : Tok}
    {p_one : Addr} {dd_one : Option Addr} {ta_one tb_one : Tok} {n_one : Nat} {sl_one : Array (Option Value)}
    {p_zero : Addr} {dd_zero : Option Addr} {ta_zero tb_zero : Tok} {n_zero : Nat} {sl_zero : Array (Option Value)}
    {od_check_fraction an_check_fraction : Option Addr} {sl_check_fraction : Array (Option Value)} {oc_check_fraction kv_check_fraction dc_check_fraction pm_check_fraction cd_check_fraction ct_check_fraction : Value} {f_check_fraction : Addr}
    {od_is_number an_is_number : Option Addr} {sl_is_number : Array (Option Value)} {oc_is_number kv_is_number dc_is_number pm_is_number cd_is_number ct_is_number : Value} {f_is_number : Addr}
    {od_is_order an_is_order : Option Addr} {sl_is_order : Array (Option Value)} {oc_is_order kv_is_order dc_is_order pm_is_order cd_is_order ct_is_order : Value} {f_is_order : Addr}
    {od_check_order an_check_order : Option Addr} {sl_check_order : Array (Option Value)} {oc_check_order kv_check_order dc_check_order pm_check_order cd_check_order ct_check_order : Value} {f_check_order : Addr}
    {od_common_divisor an_common_divisor : Option Addr} {sl_common_divisor : Array (Option Value)} {oc_common_divisor kv_common_divisor dc_common_divisor pm_common_divisor cd_common_divisor ct_common_divisor : Value} {f_common_divisor : Addr}
    {od_lowest an_lowest : Option Addr} {sl_lowest : Array (Option Value)} {oc_lowest kv_lowest dc_lowest pm_lowest cd_lowest ct_lowest : Value} {f_lowest : Addr}
    {od_plus an_plus : Option Addr} {sl_plus : Array (Option Value)} {oc_plus kv_plus dc_plus pm_plus cd_plus ct_plus : Value} {f_plus : Addr}
    {od_minus an_minus : Option Addr} {sl_minus : Array (Option Value)} {oc_minus kv_minus dc_minus pm_minus cd_minus ct_minus : Value} {f_minus : Addr}
    {od_times an_times : Option Addr} {sl_times : Array (Option Value)} {oc_times kv_times dc_times pm_times cd_times ct_times : Value} {f_times : Addr}
    {od_carry an_carry : Option Addr} {sl_carry : Array (Option Value)} {oc_carry kv_carry dc_carry pm_carry cd_carry ct_carry : Value} {f_carry : Addr}
    {od_passage an_passage : Option Addr} {sl_passage : Array (Option Value)} {oc_passage kv_passage dc_passage pm_passage cd_passage ct_passage : Value} {f_passage : Addr}
    {od_line an_line : Option Addr} {sl_line : Array (Option Value)} {oc_line kv_line dc_line pm_line cd_line ct_line : Value} {f_line : Addr}
    {od_worth an_worth : Option Addr} {sl_worth : Array (Option Value)} {oc_worth kv_worth dc_worth pm_worth cd_worth ct_worth : Value} {f_worth : Addr}
    {od__law_source an__law_source : Option Addr} {sl__law_source : Array (Option Value)} {oc__law_source kv__law_source dc__law_source pm__law_source cd__law_source ct__law_source : Value} {f__law_source : Addr}
    {od__law_draw an__law_draw : Option Addr} {sl__law_draw : Array (Option Value)} {oc__law_draw kv__law_draw dc__law_draw pm__law_draw cd__law_draw ct__law_draw : Value} {f__law_draw : Addr}
    {od__law_pick an__law_pick : Option Addr} {sl__law_pick : Array (Option Value)} {oc__law_pick kv__law_pick dc__law_pick pm__law_pick cd__law_pick ct__law_pick : Value} {f__law_pick : Addr}
    {od__law_shuffled an__law_shuffled : Option Addr} {sl__law_shuffled : Array (Option Value)} {oc__law_shuffled kv__law_shuffled dc__law_shuffled pm__law_shuffled cd__law_shuffled ct__law_shuffled : Value} {f__law_shuffled : Addr}
    {od__law_fraction an__law_fraction : Option Addr} {sl__law_fraction : Array (Option Value)} {oc__law_fraction kv__law_fraction dc__law_fraction pm__law_fraction cd__law_fraction ct__law_fraction : Value} {f__law_fraction : Addr}
    {od__law_gate an__law_gate : Option Addr} {sl__law_gate : Array (Option Value)} {oc__law_gate kv__law_gate dc__law_gate pm__law_gate cd__law_gate ct__law_gate : Value} {f__law_gate : Addr}
    {od__law_low an__law_low : Option Addr} {sl__law_low : Array (Option Value)} {oc__law_low kv__law_low dc__law_low pm__law_low cd__law_low ct__law_low : Value} {f__law_low : Addr}
    {od__law_add an__law_add : Option Addr} {sl__law_add : Array (Option Value)} {oc__law_add kv__law_add dc__law_add pm__law_add cd__law_add ct__law_add : Value} {f__law_add : Addr}
    {od__law_made an__law_made : Option Addr} {sl__law_made : Array (Option Value)} {oc__law_made kv__law_made dc__law_made pm__law_made cd__law_made ct__law_made : Value} {f__law_made : Addr}
    {od__law_inverse an__law_inverse : Option Addr} {sl__law_inverse : Array (Option Value)} {oc__law_inverse kv__law_inverse dc__law_inverse pm__law_inverse cd__law_inverse ct__law_inverse : Value} {f__law_inverse : Addr}
    {od__law_small an__law_small : Option Addr} {sl__law_small : Array (Option Value)} {oc__law_small kv__law_small dc__law_small pm__law_small cd__law_small ct__law_small : Value} {f__law_small : Addr}
    {od__law_right an__law_right : Option Addr} {sl__law_right : Array (Option Value)} {oc__law_right kv__law_right dc__law_right pm__law_right cd__law_right ct__law_right : Value} {f__law_right : Addr}
    {od_check_gates an_check_gates dd_check_gates : Option Addr} {sl_check_gates so_check_gates : Array (Option Value)} {oc_check_gates kv_check_gates dc_check_gates pm_check_gates cd_check_gates ct_check_gates tc_check_gates : Value} {f_check_gates T_check_gates : Addr} {tt_check_gates : Tok} {nn_check_gates : Nat}
    {od_law an_law : Option Addr} {sl_law : Array (Option Value)} {oc_law kv_law dc_law pm_law cd_law ct_law : Value} {f_law : Addr}
    (a_CB : PySem.W.nsIn K mainGlobals "GateError" = some (some (.ref CB)))
    (hd_CB : PySem.W.hasDictIn K CB = true)
    (ty_CB : PySem.W.typeIn K (.ref CB) = some (.type "type"))
    (a_CE : PySem.W.nsIn K mainGlobals "BadCount" = some (some (.ref CE)))
    (xl_CE : K.lookup CE = some (PySem.excClassObj nm_CE q_CE CE N_CE bs_CE bm_CE true sn_CE sub_CE ab_CE col_CE dd_CE m0_CE m1_CE m2_CE m3_CE m5_CE "ValueError.__new__"))
    (rb_CE : PySem.HandSPX.refsVE bm_CE = true)
    (sa_CE : PySem.W.findIn K (.ref CE) "__setattr__" = some (some (.builtin "object.__setattr__")))
    (ga_CE : PySem.W.findIn K (.ref CE) "__getattribute__" = some (some (.builtin "BaseException.__getattribute__")))
    (gg_CE : PySem.W.findIn K (.ref CE) "__getattr__" = some none)
    (eb_CE : PySem.W.subIn K (.ref CE) (.type "BaseException") = some true)
    (ty_CE : PySem.W.typeIn K (.ref CE) = some (.type "type"))
    (kc_CE : PySem.W.keepIn K (.ref CE) = true)
    (hd_CE : PySem.W.hasDictIn K CE = true)
    (ha_CE : PySem.W.findIn K (.ref CE) "__class__" = some (some (.builtin "object.__class__")))
    (hm_CE : PySem.W.mroIn K CE (.type "object") = some true)
    (sp_get : PySem.W.specialIn K (.builtin "object.__class__") "__get__" = some (some (.builtin "getset_descriptor.__get__")))
    (tk_get : PySem.W.takesIn K (.builtin "object.__class__") = some true)
    (a_iCE : PySem.W.findIn K (.ref CE) "__init__" = some (some (.ref f_iCE)))
    (t_iCE : PySem.W.typeIn K (.ref f_iCE) = some (.type "function"))
    (l_iCE : K.lookup f_iCE = some ⟨oc_iCE, od_iCE, .func (PySem.W.fnOf "__init__" "BadCount.__init__" (L2.defArgs s_BadCount_init) (L2.defBody s_BadCount_init) (L2.defScope s_BadCount_init) .none kv_iCE dc_iCE pm_iCE an_iCE cd_iCE ct_iCE), sl_iCE⟩)
    (c_iCE : PySem.W.codeIn K cd_iCE "BadCount.__init__" = true)
    (k_iCE : PySem.W.keepIn K (.ref f_iCE) = true)
    (a_CG : PySem.W.nsIn K mainGlobals "Gate" = some (some (.ref CG)))
    (pg_CG : PySem.W.plainGet K CG Str.empty = true)
    (hd_CG : PySem.W.hasDictIn K CG = true)
    (po_CG : PySem.W.plainOver K CG = true)
    (sa_CG : PySem.W.findIn K (.ref CG) "__setattr__" = some (some (.builtin "object.__setattr__")))
    (mk_CG : PySem.W.makesIn K CG = true)
    (kc_CG : PySem.W.keepIn K (.ref CG) = true)
    (a_iCG : PySem.W.findIn K (.ref CG) "__init__" = some (some (.ref f_iCG)))
    (i_iCG : PySem.W.isFn K (.ref f_iCG) = true)
    (l_iCG : K.lookup f_iCG = some ⟨oc_iCG, od_iCG, .func (PySem.W.fnOf "__init__" "Gate.__init__" (L2.defArgs s_Gate_init) (L2.defBody s_Gate_init) (L2.defScope s_Gate_init) .none kv_iCG dc_iCG pm_iCG an_iCG cd_iCG ct_iCG), sl_iCG⟩)
    (c_iCG : PySem.W.codeIn K cd_iCG "Gate.__init__" = true)
    (k_iCG : PySem.W.keepIn K (.ref f_iCG) = true)
    (a_CL : PySem.W.nsIn K mainGlobals "Line" = some (some (.ref CL)))
    (pg_CL : PySem.W.plainGet K CL Str.empty = true)
    (hd_CL : PySem.W.hasDictIn K CL = true)
    (po_CL : PySem.W.plainOver K CL = true)
    (sa_CL : PySem.W.findIn K (.ref CL) "__setattr__" = some (some (.builtin "object.__setattr__")))
    (mk_CL : PySem.W.makesIn K CL = true)
    (kc_CL : PySem.W.keepIn K (.ref CL) = true)
    (a_iCL : PySem.W.findIn K (.ref CL) "__init__" = some (some (.ref f_iCL)))
    (i_iCL : PySem.W.isFn K (.ref f_iCL) = true)
    (l_iCL : K.lookup f_iCL = some ⟨oc_iCL, od_iCL, .func (PySem.W.fnOf "__init__" "Line.__init__" (L2.defArgs s_Line_init) (L2.defBody s_Line_init) (L2.defScope s_Line_init) .none kv_iCL dc_iCL pm_iCL an_iCL cd_iCL ct_iCL), sl_iCL⟩)
    (c_iCL : PySem.W.codeIn K cd_iCL "Line.__init__" = true)
    (k_iCL : PySem.W.keepIn K (.ref f_iCL) = true)
    (ty_CG : PySem.W.typeIn K (.ref CG) = some (.type "type"))
    (ha_CG : PySem.W.findIn K (.ref CG) "__class__" = some (some (.builtin "object.__class__")))
    (hm_CG : PySem.W.mroIn K CG (.type "object") = some true)
    (ty_CL : PySem.W.typeIn K (.ref CL) = some (.type "type"))
    (ha_CL : PySem.W.findIn K (.ref CL) "__class__" = some (some (.builtin "object.__class__")))
    (hm_CL : PySem.W.mroIn K CL (.type "object") = some true)
    (a_eG : PySem.W.findIn K (.ref CG) "__eq__" = some (some (.ref f_eG)))
    (i_eG : PySem.W.isFn K (.ref f_eG) = true)
    (l_eG : K.lookup f_eG = some ⟨oc_eG, od_eG, .func (PySem.W.fnOf "__eq__" "Gate.__eq__" (L2.defArgs s_Gate_eq) (L2.defBody s_Gate_eq) (L2.defScope s_Gate_eq) .none kv_eG dc_eG pm_eG an_eG cd_eG ct_eG), sl_eG⟩)
    (c_eG : PySem.W.codeIn K cd_eG "Gate.__eq__" = true)
    (k_eG : PySem.W.keepIn K (.ref f_eG) = true)
    (a_eL : PySem.W.findIn K (.ref CL) "__eq__" = some (some (.ref f_eL)))
    (i_eL : PySem.W.isFn K (.ref f_eL) = true)
    (l_eL : K.lookup f_eL = some ⟨oc_eL, od_eL, .func (PySem.W.fnOf "__eq__" "Line.__eq__" (L2.defArgs s_Line_eq) (L2.defBody s_Line_eq) (L2.defScope s_Line_eq) .none kv_eL dc_eL pm_eL an_eL cd_eL ct_eL), sl_eL⟩)
    (c_eL : PySem.W.codeIn K cd_eL "Line.__eq__" = true)
    (k_eL : PySem.W.keepIn K (.ref f_eL) = true)
    (s_CL_CG : PySem.W.subIn K (.ref CL) (.ref CG) = some false)
    (s_CG_CL : PySem.W.subIn K (.ref CG) (.ref CL) = some false)
    (ne_LG : CL ≠ CG)
    (nn_CG : PySem.W.findIn K (.ref CG) "__ne__" = some (some (.builtin "object.__ne__")))
    (n_CE_what : PySem.W.findIn K (.ref CE) "what" = some none)
    (n_CE_count : PySem.W.findIn K (.ref CE) "count" = some none)
    (n_CG_factor : PySem.W.findIn K (.ref CG) "factor" = some none)
    (n_CG_amount : PySem.W.findIn K (.ref CG) "amount" = some none)
    (n_CL_factor : PySem.W.findIn K (.ref CL) "factor" = some none)
    (n_CL_amount : PySem.W.findIn K (.ref CL) "amount" = some none)
    (g_N : PySem.W.nsIn K mainGlobals "GREATEST_NUMBER" = some (some (.int 1000000 t_N)))
    (g_one : PySem.W.nsIn K mainGlobals "ONE" = some (some (.ref p_one)))
    (l_one : K.lookup p_one = some ⟨.type "tuple", dd_one, .seq #[.int 1 ta_one, .int 1 tb_one] n_one, sl_one⟩)
    (g_zero : PySem.W.nsIn K mainGlobals "ZERO" = some (some (.ref p_zero)))
    (l_zero : K.lookup p_zero = some ⟨.type "tuple", dd_zero, .seq #[.int 0 ta_zero, .int 1 tb_zero] n_zero, sl_zero⟩)
    (a_check_fraction : PySem.W.nsIn K mainGlobals "check_fraction" = some (some (.ref f_check_fraction)))
    (l_check_fraction : K.lookup f_check_fraction = some ⟨oc_check_fraction, od_check_fraction, .func (PySem.W.fnOf "check_fraction" "check_fraction" (L2.defArgs s_check_fraction) (L2.defBody s_check_fraction) (L2.defScope s_check_fraction) .none kv_check_fraction dc_check_fraction pm_check_fraction an_check_fraction cd_check_fraction ct_check_fraction), sl_check_fraction⟩)
    (c_check_fraction : PySem.W.codeIn K cd_check_fraction "check_fraction" = true)
    (k_check_fraction : PySem.W.keepIn K (.ref f_check_fraction) = true)
    (a_is_number : PySem.W.nsIn K mainGlobals "is_number" = some (some (.ref f_is_number)))
    (l_is_number : K.lookup f_is_number = some ⟨oc_is_number, od_is_number, .func (PySem.W.fnOf "is_number" "is_number" (L2.defArgs s_is_number) (L2.defBody s_is_number) (L2.defScope s_is_number) .none kv_is_number dc_is_number pm_is_number an_is_number cd_is_number ct_is_number), sl_is_number⟩)
    (c_is_number : PySem.W.codeIn K cd_is_number "is_number" = true)
    (k_is_number : PySem.W.keepIn K (.ref f_is_number) = true)
    (a_is_order : PySem.W.nsIn K mainGlobals "is_order" = some (some (.ref f_is_order)))
    (l_is_order : K.lookup f_is_order = some ⟨oc_is_order, od_is_order, .func (PySem.W.fnOf "is_order" "is_order" (L2.defArgs s_is_order) (L2.defBody s_is_order) (L2.defScope s_is_order) .none kv_is_order dc_is_order pm_is_order an_is_order cd_is_order ct_is_order), sl_is_order⟩)
    (c_is_order : PySem.W.codeIn K cd_is_order "is_order" = true)
    (k_is_order : PySem.W.keepIn K (.ref f_is_order) = true)
    (a_check_order : PySem.W.nsIn K mainGlobals "check_order" = some (some (.ref f_check_order)))
    (l_check_order : K.lookup f_check_order = some ⟨oc_check_order, od_check_order, .func (PySem.W.fnOf "check_order" "check_order" (L2.defArgs s_check_order) (L2.defBody s_check_order) (L2.defScope s_check_order) .none kv_check_order dc_check_order pm_check_order an_check_order cd_check_order ct_check_order), sl_check_order⟩)
    (c_check_order : PySem.W.codeIn K cd_check_order "check_order" = true)
    (k_check_order : PySem.W.keepIn K (.ref f_check_order) = true)
    (a_common_divisor : PySem.W.nsIn K mainGlobals "common_divisor" = some (some (.ref f_common_divisor)))
    (l_common_divisor : K.lookup f_common_divisor = some ⟨oc_common_divisor, od_common_divisor, .func (PySem.W.fnOf "common_divisor" "common_divisor" (L2.defArgs s_common_divisor) (L2.defBody s_common_divisor) (L2.defScope s_common_divisor) .none kv_common_divisor dc_common_divisor pm_common_divisor an_common_divisor cd_common_divisor ct_common_divisor), sl_common_divisor⟩)
    (c_common_divisor : PySem.W.codeIn K cd_common_divisor "common_divisor" = true)
    (k_common_divisor : PySem.W.keepIn K (.ref f_common_divisor) = true)
    (a_lowest : PySem.W.nsIn K mainGlobals "lowest" = some (some (.ref f_lowest)))
    (l_lowest : K.lookup f_lowest = some ⟨oc_lowest, od_lowest, .func (PySem.W.fnOf "lowest" "lowest" (L2.defArgs s_lowest) (L2.defBody s_lowest) (L2.defScope s_lowest) .none kv_lowest dc_lowest pm_lowest an_lowest cd_lowest ct_lowest), sl_lowest⟩)
    (c_lowest : PySem.W.codeIn K cd_lowest "lowest" = true)
    (k_lowest : PySem.W.keepIn K (.ref f_lowest) = true)
    (a_plus : PySem.W.nsIn K mainGlobals "plus" = some (some (.ref f_plus)))
    (l_plus : K.lookup f_plus = some ⟨oc_plus, od_plus, .func (PySem.W.fnOf "plus" "plus" (L2.defArgs s_plus) (L2.defBody s_plus) (L2.defScope s_plus) .none kv_plus dc_plus pm_plus an_plus cd_plus ct_plus), sl_plus⟩)
    (c_plus : PySem.W.codeIn K cd_plus "plus" = true)
    (k_plus : PySem.W.keepIn K (.ref f_plus) = true)
    (a_minus : PySem.W.nsIn K mainGlobals "minus" = some (some (.ref f_minus)))
    (l_minus : K.lookup f_minus = some ⟨oc_minus, od_minus, .func (PySem.W.fnOf "minus" "minus" (L2.defArgs s_minus) (L2.defBody s_minus) (L2.defScope s_minus) .none kv_minus dc_minus pm_minus an_minus cd_minus ct_minus), sl_minus⟩)
    (c_minus : PySem.W.codeIn K cd_minus "minus" = true)
    (k_minus : PySem.W.keepIn K (.ref f_minus) = true)
    (a_times : PySem.W.nsIn K mainGlobals "times" = some (some (.ref f_times)))
    (l_times : K.lookup f_times = some ⟨oc_times, od_times, .func (PySem.W.fnOf "times" "times" (L2.defArgs s_times) (L2.defBody s_times) (L2.defScope s_times) .none kv_times dc_times pm_times an_times cd_times ct_times), sl_times⟩)
    (c_times : PySem.W.codeIn K cd_times "times" = true)
    (k_times : PySem.W.keepIn K (.ref f_times) = true)
    (a_carry : PySem.W.nsIn K mainGlobals "carry" = some (some (.ref f_carry)))
    (l_carry : K.lookup f_carry = some ⟨oc_carry, od_carry, .func (PySem.W.fnOf "carry" "carry" (L2.defArgs s_carry) (L2.defBody s_carry) (L2.defScope s_carry) .none kv_carry dc_carry pm_carry an_carry cd_carry ct_carry), sl_carry⟩)
    (c_carry : PySem.W.codeIn K cd_carry "carry" = true)
    (k_carry : PySem.W.keepIn K (.ref f_carry) = true)
    (a_passage : PySem.W.nsIn K mainGlobals "passage" = some (some (.ref f_passage)))
    (l_passage : K.lookup f_passage = some ⟨oc_passage, od_passage, .func (PySem.W.fnOf "passage" "passage" (L2.defArgs s_passage) (L2.defBody s_passage) (L2.defScope s_passage) .none kv_passage dc_passage pm_passage an_passage cd_passage ct_passage), sl_passage⟩)
    (c_passage : PySem.W.codeIn K cd_passage "passage" = true)
    (k_passage : PySem.W.keepIn K (.ref f_passage) = true)
    (a_line : PySem.W.nsIn K mainGlobals "line" = some (some (.ref f_line)))
    (l_line : K.lookup f_line = some ⟨oc_line, od_line, .func (PySem.W.fnOf "line" "line" (L2.defArgs s_line) (L2.defBody s_line) (L2.defScope s_line) .none kv_line dc_line pm_line an_line cd_line ct_line), sl_line⟩)
    (c_line : PySem.W.codeIn K cd_line "line" = true)
    (k_line : PySem.W.keepIn K (.ref f_line) = true)
    (a_worth : PySem.W.nsIn K mainGlobals "worth" = some (some (.ref f_worth)))
    (l_worth : K.lookup f_worth = some ⟨oc_worth, od_worth, .func (PySem.W.fnOf "worth" "worth" (L2.defArgs s_worth) (L2.defBody s_worth) (L2.defScope s_worth) .none kv_worth dc_worth pm_worth an_worth cd_worth ct_worth), sl_worth⟩)
    (c_worth : PySem.W.codeIn K cd_worth "worth" = true)
    (k_worth : PySem.W.keepIn K (.ref f_worth) = true)
    (a__law_source : PySem.W.nsIn K mainGlobals "_law_source" = some (some (.ref f__law_source)))
    (l__law_source : K.lookup f__law_source = some ⟨oc__law_source, od__law_source, .func (PySem.W.fnOf "_law_source" "_law_source" (L2.defArgs s__law_source) (L2.defBody s__law_source) (L2.defScope s__law_source) .none kv__law_source dc__law_source pm__law_source an__law_source cd__law_source ct__law_source), sl__law_source⟩)
    (c__law_source : PySem.W.codeIn K cd__law_source "_law_source" = true)
    (k__law_source : PySem.W.keepIn K (.ref f__law_source) = true)
    (a__law_draw : PySem.W.nsIn K mainGlobals "_law_draw" = some (some (.ref f__law_draw)))
    (l__law_draw : K.lookup f__law_draw = some ⟨oc__law_draw, od__law_draw, .func (PySem.W.fnOf "_law_draw" "_law_draw" (L2.defArgs s__law_draw) (L2.defBody s__law_draw) (L2.defScope s__law_draw) .none kv__law_draw dc__law_draw pm__law_draw an__law_draw cd__law_draw ct__law_draw), sl__law_draw⟩)
    (c__law_draw : PySem.W.codeIn K cd__law_draw "_law_draw" = true)
    (k__law_draw : PySem.W.keepIn K (.ref f__law_draw) = true)
    (a__law_pick : PySem.W.nsIn K mainGlobals "_law_pick" = some (some (.ref f__law_pick)))
    (l__law_pick : K.lookup f__law_pick = some ⟨oc__law_pick, od__law_pick, .func (PySem.W.fnOf "_law_pick" "_law_pick" (L2.defArgs s__law_pick) (L2.defBody s__law_pick) (L2.defScope s__law_pick) .none kv__law_pick dc__law_pick pm__law_pick an__law_pick cd__law_pick ct__law_pick), sl__law_pick⟩)
    (c__law_pick : PySem.W.codeIn K cd__law_pick "_law_pick" = true)
    (k__law_pick : PySem.W.keepIn K (.ref f__law_pick) = true)
    (a__law_shuffled : PySem.W.nsIn K mainGlobals "_law_shuffled" = some (some (.ref f__law_shuffled)))
    (l__law_shuffled : K.lookup f__law_shuffled = some ⟨oc__law_shuffled, od__law_shuffled, .func (PySem.W.fnOf "_law_shuffled" "_law_shuffled" (L2.defArgs s__law_shuffled) (L2.defBody s__law_shuffled) (L2.defScope s__law_shuffled) .none kv__law_shuffled dc__law_shuffled pm__law_shuffled an__law_shuffled cd__law_shuffled ct__law_shuffled), sl__law_shuffled⟩)
    (c__law_shuffled : PySem.W.codeIn K cd__law_shuffled "_law_shuffled" = true)
    (k__law_shuffled : PySem.W.keepIn K (.ref f__law_shuffled) = true)
    (a__law_fraction : PySem.W.nsIn K mainGlobals "_law_fraction" = some (some (.ref f__law_fraction)))
    (l__law_fraction : K.lookup f__law_fraction = some ⟨oc__law_fraction, od__law_fraction, .func (PySem.W.fnOf "_law_fraction" "_law_fraction" (L2.defArgs s__law_fraction) (L2.defBody s__law_fraction) (L2.defScope s__law_fraction) .none kv__law_fraction dc__law_fraction pm__law_fraction an__law_fraction cd__law_fraction ct__law_fraction), sl__law_fraction⟩)
    (c__law_fraction : PySem.W.codeIn K cd__law_fraction "_law_fraction" = true)
    (k__law_fraction : PySem.W.keepIn K (.ref f__law_fraction) = true)
    (a__law_gate : PySem.W.nsIn K mainGlobals "_law_gate" = some (some (.ref f__law_gate)))
    (l__law_gate : K.lookup f__law_gate = some ⟨oc__law_gate, od__law_gate, .func (PySem.W.fnOf "_law_gate" "_law_gate" (L2.defArgs s__law_gate) (L2.defBody s__law_gate) (L2.defScope s__law_gate) .none kv__law_gate dc__law_gate pm__law_gate an__law_gate cd__law_gate ct__law_gate), sl__law_gate⟩)
    (c__law_gate : PySem.W.codeIn K cd__law_gate "_law_gate" = true)
    (k__law_gate : PySem.W.keepIn K (.ref f__law_gate) = true)
    (a__law_low : PySem.W.nsIn K mainGlobals "_law_low" = some (some (.ref f__law_low)))
    (l__law_low : K.lookup f__law_low = some ⟨oc__law_low, od__law_low, .func (PySem.W.fnOf "_law_low" "_law_low" (L2.defArgs s__law_low) (L2.defBody s__law_low) (L2.defScope s__law_low) .none kv__law_low dc__law_low pm__law_low an__law_low cd__law_low ct__law_low), sl__law_low⟩)
    (c__law_low : PySem.W.codeIn K cd__law_low "_law_low" = true)
    (k__law_low : PySem.W.keepIn K (.ref f__law_low) = true)
    (a__law_add : PySem.W.nsIn K mainGlobals "_law_add" = some (some (.ref f__law_add)))
    (l__law_add : K.lookup f__law_add = some ⟨oc__law_add, od__law_add, .func (PySem.W.fnOf "_law_add" "_law_add" (L2.defArgs s__law_add) (L2.defBody s__law_add) (L2.defScope s__law_add) .none kv__law_add dc__law_add pm__law_add an__law_add cd__law_add ct__law_add), sl__law_add⟩)
    (c__law_add : PySem.W.codeIn K cd__law_add "_law_add" = true)
    (k__law_add : PySem.W.keepIn K (.ref f__law_add) = true)
    (a__law_made : PySem.W.nsIn K mainGlobals "_law_made" = some (some (.ref f__law_made)))
    (l__law_made : K.lookup f__law_made = some ⟨oc__law_made, od__law_made, .func (PySem.W.fnOf "_law_made" "_law_made" (L2.defArgs s__law_made) (L2.defBody s__law_made) (L2.defScope s__law_made) .none kv__law_made dc__law_made pm__law_made an__law_made cd__law_made ct__law_made), sl__law_made⟩)
    (c__law_made : PySem.W.codeIn K cd__law_made "_law_made" = true)
    (k__law_made : PySem.W.keepIn K (.ref f__law_made) = true)
    (a__law_inverse : PySem.W.nsIn K mainGlobals "_law_inverse" = some (some (.ref f__law_inverse)))
    (l__law_inverse : K.lookup f__law_inverse = some ⟨oc__law_inverse, od__law_inverse, .func (PySem.W.fnOf "_law_inverse" "_law_inverse" (L2.defArgs s__law_inverse) (L2.defBody s__law_inverse) (L2.defScope s__law_inverse) .none kv__law_inverse dc__law_inverse pm__law_inverse an__law_inverse cd__law_inverse ct__law_inverse), sl__law_inverse⟩)
    (c__law_inverse : PySem.W.codeIn K cd__law_inverse "_law_inverse" = true)
    (k__law_inverse : PySem.W.keepIn K (.ref f__law_inverse) = true)
    (a__law_small : PySem.W.nsIn K mainGlobals "_law_small" = some (some (.ref f__law_small)))
    (l__law_small : K.lookup f__law_small = some ⟨oc__law_small, od__law_small, .func (PySem.W.fnOf "_law_small" "_law_small" (L2.defArgs s__law_small) (L2.defBody s__law_small) (L2.defScope s__law_small) .none kv__law_small dc__law_small pm__law_small an__law_small cd__law_small ct__law_small), sl__law_small⟩)
    (c__law_small : PySem.W.codeIn K cd__law_small "_law_small" = true)
    (k__law_small : PySem.W.keepIn K (.ref f__law_small) = true)
    (a__law_right : PySem.W.nsIn K mainGlobals "_law_right" = some (some (.ref f__law_right)))
    (l__law_right : K.lookup f__law_right = some ⟨oc__law_right, od__law_right, .func (PySem.W.fnOf "_law_right" "_law_right" (L2.defArgs s__law_right) (L2.defBody s__law_right) (L2.defScope s__law_right) .none kv__law_right dc__law_right pm__law_right an__law_right cd__law_right ct__law_right), sl__law_right⟩)
    (c__law_right : PySem.W.codeIn K cd__law_right "_law_right" = true)
    (k__law_right : PySem.W.keepIn K (.ref f__law_right) = true)
    (a_check_gates : PySem.W.nsIn K mainGlobals "check_gates" = some (some (.ref f_check_gates)))
    (l_check_gates : K.lookup f_check_gates = some ⟨oc_check_gates, od_check_gates, .func (PySem.W.fnOf "check_gates" "check_gates" (L2.defArgs s_check_gates) (L2.defBody s_check_gates) (L2.defScope s_check_gates) (.ref T_check_gates) kv_check_gates dc_check_gates pm_check_gates an_check_gates cd_check_gates ct_check_gates), sl_check_gates⟩)
    (c_check_gates : PySem.W.codeIn K cd_check_gates "check_gates" = true)
    (k_check_gates : PySem.W.keepIn K (.ref f_check_gates) = true)
    (w_check_gates : K.lookup T_check_gates = some ⟨tc_check_gates, dd_check_gates, .seq #[.int 8 tt_check_gates] nn_check_gates, so_check_gates⟩)
    (a_law : PySem.W.nsIn K mainGlobals "law" = some (some (.ref f_law)))
    (l_law : K.lookup f_law = some ⟨oc_law, od_law, .func (PySem.W.fnOf "law" "law" (L2.defArgs s_law) (L2.defBody s_law) (L2.defScope s_law) .none kv_law dc_law pm_law an_law cd_law ct_law), sl_law⟩)
    (c_law : PySem.W.codeIn K cd_law "law" = true)
    (k_law : PySem.W.keepIn K (.ref f_law) = true)
    (z_range : PySem.W.nsIn K mainGlobals "range" = some none)
    (z_list : PySem.W.nsIn K mainGlobals "list" = some none)
    (z_int : PySem.W.nsIn K mainGlobals "int" = some none)
    (z_len : PySem.W.nsIn K mainGlobals "len" = some none)
    (z_abs : PySem.W.nsIn K mainGlobals "abs" = some none)
    (z_set : PySem.W.nsIn K mainGlobals "set" = some none)
    (z_bool : PySem.W.nsIn K mainGlobals "bool" = some none)
    (z_isinstance : PySem.W.nsIn K mainGlobals "isinstance" = some none)
    : ∃ fd : FuncData, (∀ (s : Shared) (u : Value), BindsTo s fd ⟨[u], []⟩ [("_law_script", u)]) ∧ ∀ base : Heap, K.In base → base.Ns mainGlobals mg → FnOk P w K mg base (L2.CX P w) 9 fa fd ["_law_script"] (spLaw K) := by
  have T_CB : NamC K mg "GateError" CB := ⟨PySem.W.mg_of X G a_CB, hd_CB, ty_CB⟩
  have T_CE : ErrC K mg "BadCount" CE := errC_mk X G a_CE xl_CE rb_CE sa_CE ga_CE gg_CE eb_CE ty_CE kc_CE hd_CE ha_CE sp_get tk_get hm_CE
  have I_CE : ErrI K mg "BadCount" "BadCount.__init__" CE s_BadCount_init ["self", "what", "count"] := errI_mk T_CE (fun _ _ _ _ _ _ us hl => match us, hl with | [_, _, _], _ => rfl) a_iCE t_iCE l_iCE c_iCE k_iCE
  have L_CG : Cls K CG := ⟨pg_CG, hd_CG, po_CG, sa_CG⟩
  have I_CG : InitAt K mg "Gate" "Gate.__init__" CG s_Gate_init ["self", "factor", "amount"] := initAt_mk X G (fun _ _ _ _ _ _ us hl => match us, hl with | [_, _, _], _ => rfl) a_CG mk_CG kc_CG a_iCG i_iCG l_iCG c_iCG k_iCG
  have L_CL : Cls K CL := ⟨pg_CL, hd_CL, po_CL, sa_CL⟩
  have I_CL : InitAt K mg "Line" "Line.__init__" CL s_Line_init ["self", "factor", "amount"] := initAt_mk X G (fun _ _ _ _ _ _ us hl => match us, hl with | [_, _, _], _ => rfl) a_CL mk_CL kc_CL a_iCL i_iCL l_iCL c_iCL k_iCL
  have M_eG : MethAt K CG "__eq__" "Gate.__eq__" s_Gate_eq ["self", "other"] := methAt_mk L_CG (fun _ _ _ _ _ _ us hl => match us, hl with | [_, _], _ => rfl) a_eG i_eG l_eG c_eG k_eG
  have M_eL : MethAt K CL "__eq__" "Line.__eq__" s_Line_eq ["self", "other"] := methAt_mk L_CL (fun _ _ _ _ _ _ us hl => match us, hl with | [_, _], _ => rfl) a_eL i_eL l_eL c_eL k_eL
  have v_N := PySem.W.mg_of X G g_N
  have c_one : ConQ K mg "ONE" 1 1 := conq_mk X G g_one l_one
  have c_zero : ConQ K mg "ZERO" 0 1 := conq_mk X G g_zero l_zero
  have D_check_fraction : DefAt K mg "check_fraction" s_check_fraction ["fraction"] := defAt_mk X G (fun _ _ _ _ _ _ us hl => match us, hl with | [_], _ => rfl) a_check_fraction l_check_fraction c_check_fraction k_check_fraction
  have D_is_number : DefAt K mg "is_number" s_is_number ["thing"] := defAt_mk X G (fun _ _ _ _ _ _ us hl => match us, hl with | [_], _ => rfl) a_is_number l_is_number c_is_number k_is_number
  have D_is_order : DefAt K mg "is_order" s_is_order ["order", "many"] := defAt_mk X G (fun _ _ _ _ _ _ us hl => match us, hl with | [_, _], _ => rfl) a_is_order l_is_order c_is_order k_is_order
  have D_check_order : DefAt K mg "check_order" s_check_order ["gates", "order"] := defAt_mk X G (fun _ _ _ _ _ _ us hl => match us, hl with | [_, _], _ => rfl) a_check_order l_check_order c_check_order k_check_order
  have D_common_divisor : DefAt K mg "common_divisor" s_common_divisor ["one", "other"] := defAt_mk X G (fun _ _ _ _ _ _ us hl => match us, hl with | [_, _], _ => rfl) a_common_divisor l_common_divisor c_common_divisor k_common_divisor
  have D_lowest : DefAt K mg "lowest" s_lowest ["fraction"] := defAt_mk X G (fun _ _ _ _ _ _ us hl => match us, hl with | [_], _ => rfl) a_lowest l_lowest c_lowest k_lowest
  have D_plus : DefAt K mg "plus" s_plus ["one", "other"] := defAt_mk X G (fun _ _ _ _ _ _ us hl => match us, hl with | [_, _], _ => rfl) a_plus l_plus c_plus k_plus
  have D_minus : DefAt K mg "minus" s_minus ["one", "other"] := defAt_mk X G (fun _ _ _ _ _ _ us hl => match us, hl with | [_, _], _ => rfl) a_minus l_minus c_minus k_minus
  have D_times : DefAt K mg "times" s_times ["one", "other"] := defAt_mk X G (fun _ _ _ _ _ _ us hl => match us, hl with | [_, _], _ => rfl) a_times l_times c_times k_times
  have D_carry : DefAt K mg "carry" s_carry ["line", "x"] := defAt_mk X G (fun _ _ _ _ _ _ us hl => match us, hl with | [_, _], _ => rfl) a_carry l_carry c_carry k_carry
  have D_passage : DefAt K mg "passage" s_passage ["gates", "order"] := defAt_mk X G (fun _ _ _ _ _ _ us hl => match us, hl with | [_, _], _ => rfl) a_passage l_passage c_passage k_passage
  have D_line : DefAt K mg "line" s_line ["gates", "order"] := defAt_mk X G (fun _ _ _ _ _ _ us hl => match us, hl with | [_, _], _ => rfl) a_line l_line c_line k_line
  have D_worth : DefAt K mg "worth" s_worth ["gates", "order", "other"] := defAt_mk X G (fun _ _ _ _ _ _ us hl => match us, hl with | [_, _, _], _ => rfl) a_worth l_worth c_worth k_worth
  have D__law_source : DefAt K mg "_law_source" s__law_source ["_law_cell"] := defAt_mk X G (fun _ _ _ _ _ _ us hl => match us, hl with | [_], _ => rfl) a__law_source l__law_source c__law_source k__law_source
  have D__law_draw : DefAt K mg "_law_draw" s__law_draw ["_law_source_here", "_law_many"] := defAt_mk X G (fun _ _ _ _ _ _ us hl => match us, hl with | [_, _], _ => rfl) a__law_draw l__law_draw c__law_draw k__law_draw
  have D__law_pick : DefAt K mg "_law_pick" s__law_pick ["_law_source_here", "_law_some"] := defAt_mk X G (fun _ _ _ _ _ _ us hl => match us, hl with | [_, _], _ => rfl) a__law_pick l__law_pick c__law_pick k__law_pick
  have D__law_shuffled : DefAt K mg "_law_shuffled" s__law_shuffled ["_law_source_here", "_law_some"] := defAt_mk X G (fun _ _ _ _ _ _ us hl => match us, hl with | [_, _], _ => rfl) a__law_shuffled l__law_shuffled c__law_shuffled k__law_shuffled
  have D__law_fraction : DefAt K mg "_law_fraction" s__law_fraction ["_law_source_here", "_law_high"] := defAt_mk X G (fun _ _ _ _ _ _ us hl => match us, hl with | [_, _], _ => rfl) a__law_fraction l__law_fraction c__law_fraction k__law_fraction
  have D__law_gate : DefAt K mg "_law_gate" s__law_gate ["_law_source_here", "_law_high"] := defAt_mk X G (fun _ _ _ _ _ _ us hl => match us, hl with | [_, _], _ => rfl) a__law_gate l__law_gate c__law_gate k__law_gate
  have D__law_low : DefAt K mg "_law_low" s__law_low ["_law_top", "_law_bottom"] := defAt_mk X G (fun _ _ _ _ _ _ us hl => match us, hl with | [_, _], _ => rfl) a__law_low l__law_low c__law_low k__law_low
  have D__law_add : DefAt K mg "_law_add" s__law_add ["_law_one", "_law_other"] := defAt_mk X G (fun _ _ _ _ _ _ us hl => match us, hl with | [_, _], _ => rfl) a__law_add l__law_add c__law_add k__law_add
  have D__law_made : DefAt K mg "_law_made" s__law_made ["_law_facts"] := defAt_mk X G (fun _ _ _ _ _ _ us hl => match us, hl with | [_], _ => rfl) a__law_made l__law_made c__law_made k__law_made
  have D__law_inverse : DefAt K mg "_law_inverse" s__law_inverse ["_law_fact"] := defAt_mk X G (fun _ _ _ _ _ _ us hl => match us, hl with | [_], _ => rfl) a__law_inverse l__law_inverse c__law_inverse k__law_inverse
  have D__law_small : DefAt K mg "_law_small" s__law_small ["_law_source_here"] := defAt_mk X G (fun _ _ _ _ _ _ us hl => match us, hl with | [_], _ => rfl) a__law_small l__law_small c__law_small k__law_small
  have D__law_right : DefAt K mg "_law_right" s__law_right ["_law_source_here", "_law_facts"] := defAt_mk X G (fun _ _ _ _ _ _ us hl => match us, hl with | [_, _], _ => rfl) a__law_right l__law_right c__law_right k__law_right
  have D_check_gates : DefAtD K mg "check_gates" s_check_gates ["gates", "most"] [.int 8] := defAtD_mk X G (m := 1) rfl (fun _ _ _ _ _ _ _ us its h1 h2 => match us, its, h1, h2 with | [_], [_], _, _ => ⟨_, rfl, rfl⟩) a_check_gates l_check_gates c_check_gates k_check_gates w_check_gates
  have F_law := L2.fun_mk (st := s_law) l_law c_law k_law
  have e_law := hfa.symm.trans (PySem.W.mg_of X G a_law)
  cases e_law
  have m_range : mg "range" = none := PySem.W.mg_none_of X G z_range
  have m_list : mg "list" = none := PySem.W.mg_none_of X G z_list
  have m_int : mg "int" = none := PySem.W.mg_none_of X G z_int
  have m_len : mg "len" = none := PySem.W.mg_none_of X G z_len
  have m_abs : mg "abs" = none := PySem.W.mg_none_of X G z_abs
  have m_set : mg "set" = none := PySem.W.mg_none_of X G z_set
  have m_bool : mg "bool" = none := PySem.W.mg_none_of X G z_bool
  have m_isinstance : mg "isinstance" = none := PySem.W.mg_none_of X G z_isinstance
  let R : Rp := ⟨K, fun x => if x = "Gate" then CG else CL⟩
  have hG : R.CA "Gate" = CG := rfl
  have hL : R.CA "Line" = CL := rfl
  have fG : FAok R "Gate" := by
    refine ⟨?_, ?_, ?_⟩ <;> rw [hG]
    · exact L_CG
    · exact n_CG_factor
    · exact n_CG_amount
  have fL : FAok R "Line" := by
    refine ⟨?_, ?_, ?_⟩ <;> rw [hL]
    · exact L_CL
    · exact n_CL_factor
    · exact n_CL_amount
  have TG : EqC R mg "Gate" := ⟨⟨PySem.W.mg_of X G a_CG, hd_CG, ty_CG⟩, fG, ha_CG, hm_CG, sp_get, tk_get⟩
  have TL : EqC R mg "Line" := ⟨⟨PySem.W.mg_of X G a_CL, hd_CL, ty_CL⟩, fL, ha_CL, hm_CL, sp_get, tk_get⟩
  have tGL : EqTo R "Gate" "Line" := .inr ⟨by decide, ne_LG, s_CL_CG⟩
  refine ⟨PySem.W.fnOf "law" "law" (L2.defArgs s_law) (L2.defBody s_law) (L2.defScope s_law) .none kv_law dc_law pm_law an_law cd_law ct_law, fun s u => .of_eq rfl, fun base _ _ => ?_⟩
  have g1 := ok_gcd (P := P) (w := w) (base := base) D_common_divisor
  have g2 := ok_low (R := R) rfl D_lowest g1
  have gE := ok_bci (P := P) (w := w) (base := base) I_CE n_CE_what n_CE_count
  have g3 := ok_chk (R := R) rfl D_check_fraction (.inr ⟨_, v_N⟩) gE
  have g4 := ok_gate (R := R) rfl hG I_CG L_CG n_CG_factor n_CG_amount g3 g2 gE
  have ga := ok_plus (R := R) rfl D_plus g2
  have gm := ok_minus (R := R) rfl D_minus g2
  have gt := ok_times (R := R) rfl D_times g2
  have gl := ok_Line (R := R) rfl hL I_CL L_CL n_CL_factor n_CL_amount g2
  have gc := ok_carry (R := R) rfl D_carry ga gt
  have qG := ok_eqGate (P := P) (w := w) (base := base) (R := R) rfl M_eG m_isinstance TG
  have qL := ok_eqLine (P := P) (w := w) (base := base) (R := R) rfl M_eL m_isinstance TL
  have h1 := ok_chkGs (R := R) rfl D_check_gates m_len gE
  have h2 := ok_isNum (P := P) (w := w) (base := base) D_is_number m_isinstance m_int m_bool
  have h3 := ok_isOrd (R := R) rfl D_is_order m_len m_set h2
  have h4 := ok_chkO (R := R) rfl D_check_order m_len h3
  have w0 := ok_pass (R := R) rfl fG fL D_passage c_one c_zero gl gt gc
  have w1 := ok_lineW (R := R) rfl D_line h1 h4 w0
  have w2 := ok_worth (R := R) rfl fL D_worth w1 gm
  have d0 := ok_src (P := P) (w := w) (base := base) D__law_source m_abs
  have d1 := ok_draw (P := P) (w := w) (base := base) (R := R) rfl D__law_draw
  have d2 := ok_pick (R := R) rfl D__law_pick m_len d1
  have d3 := ok_shuf (R := R) rfl D__law_shuffled m_list m_len d1
  have d4 := ok_fra (R := R) rfl D__law_fraction d1 d2
  have d5 := ok_gt (R := R) rfl D__law_gate d1 d2 d4
  have e1 := ok__law_low (P := P) (w := w) (base := base) (R := R) rfl D__law_low m_abs
  have e3 := ok__law_add (R := R) rfl D__law_add e1
  have u1 := ok_made (R := R) rfl D__law_made g4
  have u2 := ok_inv (R := R) rfl D__law_inverse e1
  have u3 := ok_small (R := R) rfl D__law_small d2 d5
  have u4 := ok_right7 (R := R) rfl fG fL D__law_right m_list m_len m_range d1 d3 d4 e1 e3 u1 u2 gc w1 w2 g4 TL qL
  exact ok_law (R := R) rfl F_law m_range d0 d1 u3 u4 g4 gl TL tGL ⟨nn_CG, hm_CG⟩ qG
end BR

open PySem PySem.W PyProof.Rows in
set_option maxRecDepth 100000 in
set_option maxHeartbeats 0 in
theorem PySem.Challenge.cw_bestround_k07_whole_inverse_and_joined_l_holds : PySem.Challenge.rw_bestround_k07_whole_inverse_and_joined_l.Holds := by
  w_on; o_law; k_head; (case hw => w_witness2)
  k_fill
  refine BR.walk (l := PySem.Challenge.rw_bestround_k07_whole_inverse_and_joined_l) (k := 9) rfl rfl ⟨rfl, by decide, by decide⟩ (fun w h Y => PySem.W.kIn_of Y) ?F
  case F =>
    intro w mg fa h KX G hmg
    refine' BR.all_mk KX G hmg ?a_CB ?hd_CB ?ty_CB ?a_CE ?xl_CE ?rb_CE ?sa_CE ?ga_CE ?gg_CE ?eb_CE ?ty_CE ?kc_CE ?hd_CE ?ha_CE ?hm_CE ?sp_get ?tk_get ?a_iCE ?t_iCE ?l_iCE ?c_iCE ?k_iCE ?a_CG ?pg_CG ?hd_CG ?po_CG ?sa_CG ?mk_CG ?kc_CG ?a_iCG ?i_iCG ?l_iCG ?c_iCG ?k_iCG ?a_CL ?pg_CL ?hd_CL ?po_CL ?sa_CL ?mk_CL ?kc_CL ?a_iCL ?i_iCL ?l_iCL ?c_iCL ?k_iCL ?ty_CG ?ha_CG ?hm_CG ?ty_CL ?ha_CL ?hm_CL ?a_eG ?i_eG ?l_eG ?c_eG ?k_eG ?a_eL ?i_eL ?l_eL ?c_eL ?k_eL ?s_CL_CG ?s_CG_CL ?ne_LG ?nn_CG ?n_CE_what ?n_CE_count ?n_CG_factor ?n_CG_amount ?n_CL_factor ?n_CL_amount ?g_N ?g_one ?l_one ?g_zero ?l_zero ?a_check_fraction ?l_check_fraction ?c_check_fraction ?k_check_fraction ?a_is_number ?l_is_number ?c_is_number ?k_is_number ?a_is_order ?l_is_order ?c_is_order ?k_is_order ?a_check_order ?l_check_order ?c_check_order ?k_check_order ?a_common_divisor ?l_common_divisor ?c_common_divisor ?k_common_divisor ?a_lowest ?l_lowest ?c_lowest ?k_lowest ?a_plus ?l_plus ?c_plus ?k_plus ?a_minus ?l_minus ?c_minus ?k_minus ?a_times ?l_times ?c_times ?k_times ?a_carry ?l_carry ?c_carry ?k_carry ?a_passage ?l_passage ?c_passage ?k_passage ?a_line ?l_line ?c_line ?k_line ?a_worth ?l_worth ?c_worth ?k_worth ?a__law_source ?l__law_source ?c__law_source ?k__law_source ?a__law_draw ?l__law_draw ?c__law_draw ?k__law_draw ?a__law_pick ?l__law_pick ?c__law_pick ?k__law_pick ?a__law_shuffled ?l__law_shuffled ?c__law_shuffled ?k__law_shuffled ?a__law_fraction ?l__law_fraction ?c__law_fraction ?k__law_fraction ?a__law_gate ?l__law_gate ?c__law_gate ?k__law_gate ?a__law_low ?l__law_low ?c__law_low ?k__law_low ?a__law_add ?l__law_add ?c__law_add ?k__law_add ?a__law_made ?l__law_made ?c__law_made ?k__law_made ?a__law_inverse ?l__law_inverse ?c__law_inverse ?k__law_inverse ?a__law_small ?l__law_small ?c__law_small ?k__law_small ?a__law_right ?l__law_right ?c__law_right ?k__law_right ?a_check_gates ?l_check_gates ?c_check_gates ?k_check_gates ?w_check_gates ?a_law ?l_law ?c_law ?k_law ?z_range ?z_list ?z_int ?z_len ?z_abs ?z_set ?z_bool ?z_isinstance
    (case a_CB => k_is)
    (case hd_CB => k_is)
    (case ty_CB => k_is)
    (case a_CE => k_is)
    (case xl_CE => k_is)
    (case rb_CE => decide +kernel)
    (case sa_CE => k_is)
    (case ga_CE => k_is)
    (case gg_CE => k_is)
    (case eb_CE => k_is)
    (case ty_CE => k_is)
    (case kc_CE => k_is)
    (case hd_CE => k_is)
    (case ha_CE => k_is)
    (case hm_CE => k_is)
    (case sp_get => k_is)
    (case tk_get => k_is)
    (case a_iCE => k_is)
    (case t_iCE => k_is)
    (case l_iCE => k_is)
    (case c_iCE => k_is)
    (case k_iCE => k_is)
    (case a_CG => k_is)
    (case pg_CG => k_is)
    (case hd_CG => k_is)
    (case po_CG => k_is)
    (case sa_CG => k_is)
    (case mk_CG => k_is)
    (case kc_CG => k_is)
    (case a_iCG => k_is)
    (case i_iCG => k_is)
    (case l_iCG => k_is)
    (case c_iCG => k_is)
    (case k_iCG => k_is)
    (case a_CL => k_is)
    (case pg_CL => k_is)
    (case hd_CL => k_is)
    (case po_CL => k_is)
    (case sa_CL => k_is)
    (case mk_CL => k_is)
    (case kc_CL => k_is)
    (case a_iCL => k_is)
    (case i_iCL => k_is)
    (case l_iCL => k_is)
    (case c_iCL => k_is)
    (case k_iCL => k_is)
    (case ty_CG => k_is)
    (case ha_CG => k_is)
    (case hm_CG => k_is)
    (case ty_CL => k_is)
    (case ha_CL => k_is)
    (case hm_CL => k_is)
    (case a_eG => k_is)
    (case i_eG => k_is)
    (case l_eG => k_is)
    (case c_eG => k_is)
    (case k_eG => k_is)
    (case a_eL => k_is)
    (case i_eL => k_is)
    (case l_eL => k_is)
    (case c_eL => k_is)
    (case k_eL => k_is)
    (case s_CL_CG => first | rfl | k_is)
    (case s_CG_CL => first | rfl | k_is)
    (case ne_LG => decide)
    (case nn_CG => k_is)
    (case n_CE_what => k_is)
    (case n_CE_count => k_is)
    (case n_CG_factor => k_is)
    (case n_CG_amount => k_is)
    (case n_CL_factor => k_is)
    (case n_CL_amount => k_is)
    (case g_N => k_is)
    (case g_one => k_is)
    (case l_one => k_is)
    (case g_zero => k_is)
    (case l_zero => k_is)
    (case a_check_fraction => k_is)
    (case l_check_fraction => k_is)
    (case c_check_fraction => k_is)
    (case k_check_fraction => k_is)
    (case a_is_number => k_is)
    (case l_is_number => k_is)
    (case c_is_number => k_is)
    (case k_is_number => k_is)
    (case a_is_order => k_is)
    (case l_is_order => k_is)
    (case c_is_order => k_is)
    (case k_is_order => k_is)
    (case a_check_order => k_is)
    (case l_check_order => k_is)
    (case c_check_order => k_is)
    (case k_check_order => k_is)
    (case a_common_divisor => k_is)
    (case l_common_divisor => k_is)
    (case c_common_divisor => k_is)
    (case k_common_divisor => k_is)
    (case a_lowest => k_is)
    (case l_lowest => k_is)
    (case c_lowest => k_is)
    (case k_lowest => k_is)
    (case a_plus => k_is)
    (case l_plus => k_is)
    (case c_plus => k_is)
    (case k_plus => k_is)
    (case a_minus => k_is)
    (case l_minus => k_is)
    (case c_minus => k_is)
    (case k_minus => k_is)
    (case a_times => k_is)
    (case l_times => k_is)
    (case c_times => k_is)
    (case k_times => k_is)
    (case a_carry => k_is)
    (case l_carry => k_is)
    (case c_carry => k_is)
    (case k_carry => k_is)
    (case a_passage => k_is)
    (case l_passage => k_is)
    (case c_passage => k_is)
    (case k_passage => k_is)
    (case a_line => k_is)
    (case l_line => k_is)
    (case c_line => k_is)
    (case k_line => k_is)
    (case a_worth => k_is)
    (case l_worth => k_is)
    (case c_worth => k_is)
    (case k_worth => k_is)
    (case a__law_source => k_is)
    (case l__law_source => k_is)
    (case c__law_source => k_is)
    (case k__law_source => k_is)
    (case a__law_draw => k_is)
    (case l__law_draw => k_is)
    (case c__law_draw => k_is)
    (case k__law_draw => k_is)
    (case a__law_pick => k_is)
    (case l__law_pick => k_is)
    (case c__law_pick => k_is)
    (case k__law_pick => k_is)
    (case a__law_shuffled => k_is)
    (case l__law_shuffled => k_is)
    (case c__law_shuffled => k_is)
    (case k__law_shuffled => k_is)
    (case a__law_fraction => k_is)
    (case l__law_fraction => k_is)
    (case c__law_fraction => k_is)
    (case k__law_fraction => k_is)
    (case a__law_gate => k_is)
    (case l__law_gate => k_is)
    (case c__law_gate => k_is)
    (case k__law_gate => k_is)
    (case a__law_low => k_is)
    (case l__law_low => k_is)
    (case c__law_low => k_is)
    (case k__law_low => k_is)
    (case a__law_add => k_is)
    (case l__law_add => k_is)
    (case c__law_add => k_is)
    (case k__law_add => k_is)
    (case a__law_made => k_is)
    (case l__law_made => k_is)
    (case c__law_made => k_is)
    (case k__law_made => k_is)
    (case a__law_inverse => k_is)
    (case l__law_inverse => k_is)
    (case c__law_inverse => k_is)
    (case k__law_inverse => k_is)
    (case a__law_small => k_is)
    (case l__law_small => k_is)
    (case c__law_small => k_is)
    (case k__law_small => k_is)
    (case a__law_right => k_is)
    (case l__law_right => k_is)
    (case c__law_right => k_is)
    (case k__law_right => k_is)
    (case a_check_gates => k_is)
    (case l_check_gates => k_is)
    (case c_check_gates => k_is)
    (case k_check_gates => k_is)
    (case w_check_gates => k_is)
    (case a_law => k_is)
    (case l_law => k_is)
    (case c_law => k_is)
    (case k_law => k_is)
    (case z_range => k_is)
    (case z_list => k_is)
    (case z_int => k_is)
    (case z_len => k_is)
    (case z_abs => k_is)
    (case z_set => k_is)
    (case z_bool => k_is)
    (case z_isinstance => k_is)
