import PyProof.Rows.All
import Wide.All
import OpenK.AllK
import Wide.FinOn
import HandS.ForMost
import HandS.ForExc
import HandS.Wide
import HandS.Flow
import HandS.Strs
import HandS.ExcInit
import HandS.ExcIs
import HandS.ExcField
import HandS.Defaults
import HandS.Walk
import HandS.OwnEq
import HandS.Lambda
import HandS.IsInst
import HandS.CallSlots
import HandS.Style
import HandS.Rev
import HandS.Iter
import HandS.Zip
import HandS.Flt
import HandS.Conv
import KE.GoesEnum
import HandS.More
import OpenK.KWalk
import KE.DataMinMax
import PyProof.Rows.RowBridgeK
import HandS.WideBits
import HandS.Small
import KE.SortData
import HandS.EndTab
import HandS.ExcOwn
import KE.KNestM
import PyProof.ExcBaseAll.ValueError
import HandS.SetFor
import HandS.Text
import HandS.Codes
import HandS.StrMore
import HandS.NoneIn
import HandS.Replace
import HandS.ReplaceLit
import HandS.ReplaceList
import PyProof.SeqIndex
import HandS.Star
import HandS.TupAny
import HandS.TryMany
import HandS.MakeKwOnly
import PySem.Challenge.RW_bestround_k36_loose_gates_and_results
set_option Elab.async false
set_option linter.all false
set_option maxRecDepth 100000
set_option maxHeartbeats 4000000

namespace BR
open PySem PySem.Spec PyProof.Rows L2

/-! the weakest readings: one goes down the program's own tree -/
structure wE (X : Cx) (e : Expr) (σ : L2.St) (H : Hp) (Q : VK) : Prop where
  r : ∀ pins s, Inv X pins σ H s → wpAny (model X.prog X.w) X.A (eval e X.env) (EP X pins σ Q) X.xe s
structure wT (X : Cx) (e : Expr) (σ : L2.St) (H : Hp) (Q : Bool → Hp → Prop) : Prop where
  r : ∀ pins s, Inv X pins σ H s → wpAny (model X.prog X.w) X.A (isTrue e X.env (eval e X.env)) (TP X pins σ Q) X.xe s
structure wA (X : Cx) (es : List Expr) (σ : L2.St) (H : Hp) (Q : List V → Hp → Prop) : Prop where
  r : ∀ pos pins s, Inv X pins σ H s → wpAny (model X.prog X.w) X.A (spliced (backTo pos (starEach es X.env))) (AP X pins σ Q) X.xe s
structure wS (X : Cx) (st : Stmt) (D : Ends) (σ : L2.St) (H : Hp) : Prop where
  r : ∀ pins s, Inv X pins σ H s → wpAny (model X.prog X.w) X.A (exec st X.env) (SP X pins D) X.xe s
structure wB (X : Cx) (sts : List Stmt) (D : Ends) (σ : L2.St) (H : Hp) : Prop where
  r : ∀ pins s, Inv X pins σ H s → wpAny (model X.prog X.w) X.A (execs sts X.env) (SP X pins D) X.xe s
structure wG (X : Cx) (tg : Expr) (v : V) (σ : L2.St) (H : Hp) (Q : L2.St → Hp → Prop) : Prop where
  r : ∀ pins s u, Inv X pins σ H s → RelV v u → wpAny (model X.prog X.w) X.A (assign tg X.env u) (fun _ s' => ∃ σ' H', Inv X pins σ' H' s' ∧ Q σ' H') X.xe s
structure wGs (X : Cx) (tgs : List Expr) (vs : List V) (σ : L2.St) (H : Hp) (Q : L2.St → Hp → Prop) : Prop where
  r : ∀ pins s us, Inv X pins σ H s → Vals vs us → wpAny (model X.prog X.w) X.A (assignInOrder ((assignEach tgs X.env).map (·.2)) us) (fun _ s' => ∃ σ' H', Inv X pins σ' H' s' ∧ Q σ' H') X.xe s
structure wI (X : Cx) (tg it : Expr) (σ : L2.St) (H : Hp) (R : It → Hp → Prop) : Prop where
  r : ∀ pins s, Inv X pins σ H s → wpAny (model X.prog X.w) X.A (eval it X.env) (fun v s1 => wpAny (model X.prog X.w) X.A (pyIter v) (PIE X pins σ tg R) X.xe s1) X.xe s
structure wTs (X : Cx) (ifs : List Expr) (σ : L2.St) (H : Hp) (Q : Bool → Hp → Prop) : Prop where
  r : ∀ pins s, Inv X pins σ H s → wpAny (model X.prog X.w) X.A (forIn ifs true fun c r => if r = true then do let ok ← isTrue c X.env (eval c X.env); pure (ForInStep.yield ok) else pure (ForInStep.yield r)) (TP X pins σ Q) X.xe s
section
variable {X : Cx} {σ : L2.St} {H : Hp} {Q : VK} {D : Ends}
theorem pE (e : Expr) : PE X e (wE X e) := ⟨fun pins s _ _ _ I h => h.r pins s I⟩
theorem pT (e : Expr) : PT X e (wT X e) := ⟨fun pins s _ _ _ I h => h.r pins s I⟩
theorem pA (es : List Expr) : PA X es (wA X es) := ⟨fun pos pins s _ _ _ I h => h.r pos pins s I⟩
theorem pS (st : Stmt) : PS X st (wS X st) := ⟨fun pins s _ _ _ I h => h.r pins s I⟩
theorem pB (sts : List Stmt) : PSs X sts (wB X sts) := ⟨fun pins s _ _ _ I h => h.r pins s I⟩
theorem pG (tg : Expr) : PG X tg (wG X tg) := ⟨fun pins s _ _ _ u _ I r h => h.r pins s u I r⟩
theorem pGs (tgs : List Expr) : PGs X tgs (wGs X tgs) := ⟨fun pins s _ _ _ us _ I r h => h.r pins s us I r⟩
theorem pI (tg it : Expr) : PI X tg it (wI X tg it) := ⟨fun pins s _ _ _ I h => h.r pins s I⟩
theorem uE {e : Expr} {t : TE} (p : PE X e t) (h : t σ H Q) : wE X e σ H Q := ⟨fun pins s I => p.run pins s σ H Q I h⟩
theorem uT {e : Expr} {t : TT} {Q : Bool → Hp → Prop} (p : PT X e t) (h : t σ H Q) : wT X e σ H Q := ⟨fun pins s I => p.run pins s σ H Q I h⟩
theorem uA {es : List Expr} {t : TA} {Q : List V → Hp → Prop} (p : PA X es t) (h : t σ H Q) : wA X es σ H Q := ⟨fun pos pins s I => p.run pos pins s σ H Q I h⟩
theorem uS {st : Stmt} {t : TS} (p : PS X st t) (h : t D σ H) : wS X st D σ H := ⟨fun pins s I => p.run pins s σ H D I h⟩
theorem uB {sts : List Stmt} {t : TS} (p : PSs X sts t) (h : t D σ H) : wB X sts D σ H := ⟨fun pins s I => p.run pins s σ H D I h⟩
theorem uG {tg : Expr} {t : TG} {v : V} {Q : L2.St → Hp → Prop} (p : PG X tg t) (h : t v σ H Q) : wG X tg v σ H Q := ⟨fun pins s u I r => p.run pins s σ H v u Q I r h⟩
theorem uGs {tgs : List Expr} {t : TGs} {vs : List V} {Q : L2.St → Hp → Prop} (p : PGs X tgs t) (h : t vs σ H Q) : wGs X tgs vs σ H Q := ⟨fun pins s us I r => p.run pins s σ H vs us Q I r h⟩
theorem uI {tg it : Expr} {t : TI} {R : It → Hp → Prop} (p : PI X tg it t) (h : t σ H R) : wI X tg it σ H R := ⟨fun pins s I => p.run pins s σ H R I h⟩
theorem uTs {ifs : List Expr} {t : TT} {Q : Bool → Hp → Prop} (p : PTs X ifs t) (h : t σ H Q) : wTs X ifs σ H Q := ⟨fun pins s I => p.run pins s σ H Q I h⟩
theorem wE.mono {e : Expr} {Q' : VK} (h : wE X e σ H Q) (k : ∀ v H', Q v H' → Q' v H') : wE X e σ H Q' := ⟨fun pins s I => thn (h.r pins s I) fun u s' ⟨v, H', I', r, q⟩ => ⟨v, H', I', r, k v H' q⟩⟩
theorem wT.mono {e : Expr} {Q Q' : Bool → Hp → Prop} (h : wT X e σ H Q) (k : ∀ v H', Q v H' → Q' v H') : wT X e σ H Q' := ⟨fun pins s I => thn (h.r pins s I) fun b s' ⟨H', I', q⟩ => ⟨H', I', k b H' q⟩⟩
theorem wA.mono {es : List Expr} {Q Q' : List V → Hp → Prop} (h : wA X es σ H Q) (k : ∀ v H', Q v H' → Q' v H') : wA X es σ H Q' := ⟨fun p pins s I => thn (h.r p pins s I) fun u s' ⟨v, H', I', r, q⟩ => ⟨v, H', I', r, k v H' q⟩⟩
theorem wI.mono {tg it : Expr} {R R' : It → Hp → Prop} (h : wI X tg it σ H R) (k : ∀ J H', R J H' → R' J H') : wI X tg it σ H R' := ⟨fun pins s I => thn (h.r pins s I) fun u s1 hh => thn hh fun itv s2 ⟨i0, fp, tn, J, H1, e, I1, T, t0, f0, q⟩ => ⟨i0, fp, tn, J, H1, e, I1, T, t0, f0, k _ _ q⟩⟩

variable {pos p1 p2 p3 : Pos} {a b c d e : Expr} {es : List Expr}
/-! ### expressions -/
theorem eV (i : Nat) {x : Str} {v : V} (hs : σ[i]? = some (some v)) (q : Q v H) (hN : X.N[i]? = some x := by rfl) (hv : Vis X.env.scope x := by first | exact Or.inl rfl | exact Or.inr (Or.inl rfl) | exact Or.inr (Or.inr rfl))
    (hd : (x == ("__debug__" : Str)) = false := by decide) (hcd : (x == ("__classdict__" : Str)) = false := by decide) : wE X (.Name x pos) σ H Q := uE (pe_var hN hv hd hcd) ⟨v, hs, q⟩
theorem eI {i j} (q : Q (.int i) H) : wE X (.Constant (.int i) j pos) σ H Q := uE pe_int q
theorem eBl {i j} (q : Q (.bl i) H) : wE X (.Constant (.bool i) j pos) σ H Q := uE pe_bl q
theorem eN {j} (q : Q .non H) : wE X (.Constant .none j pos) σ H Q := uE pe_non q
theorem eStr {x j} (q : Q (.str x) H) : wE X (.Constant (.str x) j pos) σ H Q := uE pe_str q
theorem eGl {x : Str} {v : V} {u : Value} (hm : X.mg x = some u) (r : RelV v u) (q : Q v H) (hg : Gl X x := by rfl) (hd : (x == ("__debug__" : Str)) = false := by decide) : wE X (.Name x pos) σ H Q := uE (pe_glob hg hm r hd) q
theorem eOp {op : Operator} {r : R2} (ho : OpR X (binaryOp op) r) (h : wE X a σ H fun x H1 => wE X b σ H1 fun y H2 => r x y H2 Q) : wE X (.BinOp a op b pos) σ H Q := uE (pe_op ho (pE a) (pE b)) h
theorem eUn {op : UnaryOp} {r : V → Hp → VK → Prop} (ho : UnR X (unaryOp op) r) (h : wE X a σ H fun x H1 => r x H1 Q) : wE X (.UnaryOp op a pos) σ H Q := uE (pe_un ho (pE a)) h
theorem eCmp {op : CmpOp} {r : R2} (ho : OpR X (compareOp op) r) (h : wE X a σ H fun x H1 => wE X b σ H1 fun y H2 => r x y H2 Q) (hm : behindInMarks op b = false := by first | exact nomark _ | rfl) : wE X (.Compare a [op] [b] pos) σ H Q :=
  uE (pe_cmpR ho (pE a) (pE b) hm) h
theorem eNot (h : wE X a σ H fun x H1 => ∃ k, x = .bl k ∧ Q (.bl (!k)) H1) : wE X (.UnaryOp .Not a pos) σ H Q := uE (pe_not (pE a)) h
theorem eAnd2 (h : wE X a σ H fun x H1 => ∃ k, x = .bl k ∧ if k = true then wE X b σ H1 Q else Q (.bl false) H1) : wE X (.BoolOp .And [a, b] pos) σ H Q := uE (pe_and (pE a) (pe_one (pE b))) h
theorem eAnd3 (h : wE X a σ H fun x H1 => ∃ k, x = .bl k ∧ if k = true then (wE X b σ H1 fun x H2 => ∃ k, x = .bl k ∧ if k = true then wE X c σ H2 Q else Q (.bl false) H2) else Q (.bl false) H1) : wE X (.BoolOp .And [a, b, c] pos) σ H Q :=
  uE (pe_and (pE a) (pe_and (pE b) (pe_one (pE c)))) h
theorem eIf (h : wT X c σ H fun k H1 => if k = true then wE X a σ H1 Q else wE X b σ H1 Q) : wE X (.IfExp c a b pos) σ H Q := uE (pe_ifExp (pT c) (pE a) (pE b)) h
theorem eIx {r : R2} (hr : IxR X r) (h : wE X a σ H fun x H1 => wE X b σ H1 fun y H2 => r x y H2 Q) (hp : PlainIx b := by exact fun _ _ => rfl) : wE X (.Subscript a b pos) σ H Q := uE (pe_ix hr (pE a) (pE b) hp) h
def rFld (K : PySem.W.Frag) (f : Str) (x : V) (H : Hp) (Q : VK) : Prop := ∃ p C dx fs v, x = .ref p ∧ H p = some (.ins C dx fs) ∧ Cls K C ∧ NoAttr K C f ∧ fs.lookup f = some v ∧ Q v H
theorem eFld {f : Str} (h : wE X a σ H fun x H1 => rFld X.K f x H1 Q) (hb : attributeBase a f X.env (eval a X.env) = eval a X.env := by rfl) :
    wE X (.Attribute a f pos) σ H Q := uE (pe_fld (pE a) hb) h
theorem aNil {Q : List V → Hp → Prop} (q : Q [] H) : wA X [] σ H Q := uA pa_nil q
theorem aCons {Q : List V → Hp → Prop} (h : wE X e σ H fun x H1 => wA X es σ H1 fun xs H2 => Q (x :: xs) H2) (hs : starEach (e :: es) X.env = (false, eval e X.env) :: starEach es X.env := by rfl) : wA X (e :: es) σ H Q := uA (pa_cons (pE e) (pA es) hs) h
theorem eTup {k} (h : wA X es σ H fun xs H1 => xs.length ≤ sizeLine ∧ ∀ p, H1 p = none → Q (.ref p) (upd H1 p (.tup xs))) : wE X (.Tuple es k pos) σ H Q := uE (pe_tup (pA es)) h
theorem eLst (h : wA X es σ H fun xs H1 => xs.length ≤ sizeLine ∧ ∀ p, H1 p = none → Q (.ref p) (upd H1 p (.lst xs))) : wE X (.List es pos) σ H Q := uE (pe_lst (pA es)) h
theorem eSl {r : V → Option Int → Option Int → Hp → VK → Prop} {lo hi : Option Expr} {tl th : TO} (hr : SlR X r) (hl : PO X lo tl) (hu : PO X hi th) (h : tSl r (wE X a) tl th σ H Q) : wE X (.Subscript a (.Slice lo hi none p2) pos) σ H Q := uE (pe_slice hr (pE a) hl hu) h
theorem eCB {r : List V → Hp → VK → Prop} {x : Str} {id : String} (hc : CallR X (.builtin id) r) (hm : X.mg x = none) (h : wA X (e :: es) σ H fun vs H1 => r vs H1 Q) (hg : Gl X x := by rfl) (hv : bootBuiltins x = some (.builtin id) := by decide +kernel)
    (hn : x ≠ "__name__" := by decide) (hdb : (x == ("__debug__" : Str)) = false := by decide) (he : starEach (e :: es) X.env = (false, eval e X.env) :: starEach es X.env := by rfl) (hpl : (backTo pos (starEach es X.env)).any (·.1) = false := by rfl) :
    wE X (.Call (.Name x p1) (e :: es) [] pos) σ H Q := uE (pe_callB hc hg hm hv (pA _) hn hdb he hpl) h
theorem eCTy {r : List V → Hp → VK → Prop} {x : Str} {T : String} (hc : CallR X (.type T) r) (hm : X.mg x = none) (h : wA X (e :: es) σ H fun vs H1 => r vs H1 Q) (hg : Gl X x := by rfl) (hv : bootBuiltins x = some (.type T) := by decide +kernel)
    (hn : x ≠ "__name__" := by decide) (hdb : (x == ("__debug__" : Str)) = false := by decide) (he : starEach (e :: es) X.env = (false, eval e X.env) :: starEach es X.env := by rfl) (hpl : (backTo pos (starEach es X.env)).any (·.1) = false := by rfl) :
    wE X (.Call (.Name x p1) (e :: es) [] pos) σ H Q := uE (pe_callTy hc hg hm hv (pA _) hn hdb he hpl) h
/-! ### tests -/
theorem tCmp {op : CmpOp} {r : R2} {Q : Bool → Hp → Prop} (ho : OpR X (compareOp op) r) (h : wE X a σ H fun x H1 => wE X b σ H1 fun y H2 => r x y H2 fun z H3 => ∃ k, z = .bl k ∧ Q k H3) (hm : behindInMarks op b = false := by first | exact nomark _ | rfl) :
    wT X (.Compare a [op] [b] pos) σ H Q := uT (pt_cmpR ho (pE a) (pE b) hm) h
theorem tChain {op op' : CmpOp} {r r' : R2} {Q : Bool → Hp → Prop} (ho : OpR X (compareOp op) r) (ho' : OpR X (compareOp op') r')
    (h : wE X a σ H fun x H1 => wE X b σ H1 fun y H2 => r x y H2 fun z H3 => ∃ k, z = .bl k ∧ if k = true then (wE X c σ H3 fun u H4 => r' y u H4 fun z H5 => ∃ k, z = .bl k ∧ Q k H5) else ∃ k, V.bl false = .bl k ∧ Q k H3)
    (hm : lastMarks [op, op'] [b, c] = false := by with_unfolding_all rfl) : wT X (.Compare a [op, op'] [b, c] pos) σ H Q := uT (pt_chain ho ho' (pE a) (pE b) (pE c) hm) h
theorem tVal {Q : Bool → Hp → Prop} (h : wE X e σ H fun x H1 => ∃ k, x = .bl k ∧ Q k H1) (he : ∀ whole, isTrue e X.env whole = (do let v ← whole; standAt e.pos; holding [v] (truthy v)) := by intro _; rfl) : wT X e σ H Q := uT (pt_val (pE e) he) h
theorem tTru {Q : Bool → Hp → Prop} (h : wE X e σ H fun x H1 => ∃ k, TruV X.K x H1 k ∧ Q k H1) (he : ∀ whole, isTrue e X.env whole = (do let v ← whole; standAt e.pos; holding [v] (truthy v)) := by intro _; rfl) : wT X e σ H Q := uT (pt_truth (pE e) he) h
theorem tNot {Q : Bool → Hp → Prop} (h : wT X a σ H fun k H1 => Q (!k) H1) : wT X (.UnaryOp .Not a pos) σ H Q := uT (pt_not (pT a)) h
theorem tOr2 {Q : Bool → Hp → Prop} (h : wT X a σ H fun k H1 => if k = true then Q true H1 else wT X b σ H1 Q) : wT X (.BoolOp .Or [a, b] pos) σ H Q := uT (PW.pt (pw_or (pT a) (pw_or1 (pT b)))) h
theorem tOr3 {Q : Bool → Hp → Prop} (h : wT X a σ H fun k H1 => if k = true then Q true H1 else wT X b σ H1 fun k H2 => if k = true then Q true H2 else wT X c σ H2 Q) : wT X (.BoolOp .Or [a, b, c] pos) σ H Q :=
  uT (PW.pt (pw_or (pT a) (pw_or (pT b) (pw_or1 (pT c))))) h
/-! ### statements -/
variable {st : Stmt} {sts us : List Stmt}
theorem bNil (q : D.nx σ H) : wB X [] D σ H := uB pss_nil q
theorem bCons (h : wS X st { D with nx := fun σ' H' => wB X sts D σ' H' } σ H) : wB X (st :: sts) D σ H := uB (pss_cons (pS st) (pB sts)) h
theorem bOne (h : wS X st D σ H) : wB X [st] D σ H := uB (pss_one (pS st)) h
theorem sExpr (h : wE X e σ H fun _ H1 => D.nx σ H1) (hs : swapsWith e none pos.line X.env = pure false := by rfl) : wS X (.Expr e pos) D σ H := uS (ps_expr (pE e) hs) h
theorem sRet (h : wE X e σ H D.rt) : wS X (.Return (some e) pos) D σ H := uS (ps_ret (pE e)) h
theorem sIf (h : wT X c σ H fun k H1 => if k = true then wB X sts D σ H1 else wB X us D σ H1) : wS X (.If c sts us pos) D σ H := uS (ps_if (pT c) (pB sts) (pB us)) h
theorem sSet (i : Nat) {x : Str} (h : wE X e σ H fun v H1 => D.nx (σ.set i (some v)) H1) (hN : X.N.Nodup := by assumption) (hi : X.N[i]? = some x := by rfl) (hx : Loc X.env.scope x := by first | exact Or.inl rfl | exact Or.inr rfl)
    (hs : swapsWith e (some (.Name x p1)) pos.line X.env = pure false := by rfl) (hf : X.fn x = true ∨ X.env.scope.names.lookup x = some .local := by first | exact .inl rfl | exact .inr rfl | assumption) : wS X (.Assign [.Name x p1] e pos) D σ H :=
  uS (ps_set hN hi hx (pE e) hs hf) h
theorem sAsg {tg : Expr} (h : wE X e σ H fun v H1 => wG X tg v σ H1 D.nx) (hs : swapsWithSole [tg] e pos.line X.env = pure false := by rfl) (hw : swappedStores [tg] e X.env = pure none := by rfl)
    (h1 : (assignEach [tg] X.env).map (·.2) = [assign tg X.env] := by rfl) : wS X (.Assign [tg] e pos) D σ H := uS (ps_asg (pE e) (pG tg) hs hw h1) h
theorem sPar (i j : Nat) {x y : Str} {px py pt : Pos} {kt k2 pt2} (h : wA X [a, b] σ H fun vs H1 => ∃ v w, vs = [v, w] ∧ D.nx ((σ.set i (some v)).set j (some w)) H1)
    (hN : X.N.Nodup := by assumption) (hi : X.N[i]? = some x := by rfl) (hj : X.N[j]? = some y := by rfl) (hij : i ≠ j := by decide) (hx : X.env.scope.names.lookup x = some .local := by rfl) (hy : X.env.scope.names.lookup y = some .local := by rfl)
    (hw : swappedStores [.Tuple [.Name x px, .Name y py] kt pt] (.Tuple [a, b] k2 pt2) X.env = pure (some [x, y]) := by rfl) (hs : swapsWithSole [.Tuple [.Name x px, .Name y py] kt pt] (.Tuple [a, b] k2 pt2) pos.line X.env = pure false := by rfl)
    (hc : X.calm = true := by rfl) : wS X (.Assign [.Tuple [.Name x px, .Name y py] kt pt] (.Tuple [a, b] k2 pt2) pos) D σ H := uS (ps_par hc hN hi hj hij hx hy (pA _) hw hs) h
theorem sFld {f : Str} {o : Expr} (h : wE X e σ H fun y H1 => wE X o σ H1 fun x H2 => ∃ a C dx fs, x = .ref a ∧ H2 a = some (.ins C dx fs) ∧ Cls X.K C ∧ NoAttr X.K C f ∧ fs.length < 1000 ∧ D.nx σ (upd H2 a (.ins C dx (putF f y fs))))
    (hs : swapsWith e (some (.Attribute o f p1)) pos.line X.env = pure false := by rfl) : wS X (.Assign [.Attribute o f p1] e pos) D σ H := uS (ps_fld (pE o) (pE e) hs) h
/-! ### targets -/
theorem gN (i : Nat) {x : Str} {v : V} {Q : L2.St → Hp → Prop} (q : Q (σ.set i (some v)) H) (hN : X.N.Nodup := by assumption) (hi : X.N[i]? = some x := by rfl) (hx : Loc X.env.scope x := by first | exact Or.inl rfl | exact Or.inr rfl)
    (hf : X.fn x = true ∨ X.env.scope.names.lookup x = some .local := by first | exact .inl rfl | exact .inr rfl | assumption) : wG X (.Name x pos) v σ H Q := uG (pg_name hN hi hx hf) q
theorem gsNil {Q : L2.St → Hp → Prop} (q : Q σ H) : wGs X [] [] σ H Q := uGs pgs_nil ⟨rfl, q⟩
theorem gsCons {v : V} {vs : List V} {Q : L2.St → Hp → Prop} (h : wG X e v σ H fun σ' H' => wGs X es vs σ' H' Q) (hs : (assignEach (e :: es) X.env).map (·.2) = assign e X.env :: (assignEach es X.env).map (·.2) := by rfl) : wGs X (e :: es) (v :: vs) σ H Q :=
  uGs (pgs_cons (pG e) (pGs es) hs) ⟨v, vs, rfl, h⟩
theorem gT {k} {v : V} {p : Addr} {xs : List V} {Q : L2.St → Hp → Prop} (e : v = .ref p) (hq : SqT X.K H p xs) (h : wGs X es xs σ H Q) (hl : xs.length = (assignEach es X.env).length := by rfl) (hc : X.calm = true := by rfl)
    (hst : (assignEach es X.env).findIdx? (·.1) = none := by rfl) : wG X (.Tuple es k pos) v σ H Q := uG (pg_tup hc (pGs es) rfl hst) ⟨p, xs, e, hq, hl, h⟩
theorem gL {k} {v : V} {p : Addr} {xs : List V} {Q : L2.St → Hp → Prop} (e : v = .ref p) (hq : SqL X.K H p xs) (h : wGs X es xs σ H Q) (hl : xs.length = (assignEach es X.env).length := by rfl) (hc : X.calm = true := by rfl)
    (hst : (assignEach es X.env).findIdx? (·.1) = none := by rfl) : wG X (.Tuple es k pos) v σ H Q := uG (pg_lst hc (pGs es) rfl hst) ⟨p, xs, e, hq, hl, h⟩
theorem gSb {o i : Expr} {v : V} {t : TSet} {Q : L2.St → Hp → Prop} (hs : PSet X t) (h : wE X o σ H fun x H1 => wE X i σ H1 fun y H2 => t x y v H2 fun H3 => Q σ H3)
    (ha : ∀ v, assign (.Subscript o i pos) X.env v = (do
      let ov ← holding [v] (eval o X.env)
      let iv ← holding [v, ov] (eval i X.env)
      standAt pos
      holding [v, ov, iv] (setItem ov iv v)
      release [v, ov, iv] []) := by intro _; rfl) : wG X (.Subscript o i pos) v σ H Q := uG (pg_sub (pE o) (pE i) hs ha) h
/-! ### loops -/
theorem sWhile (W : Nat → L2.St → Hp → Prop) (m0 : Nat) (w0 : W m0 σ H) (hs : ∀ m σ' H', W m σ' H' → wT X c σ' H' fun k H1 => if k = true then wB X sts { D with nx := fun σ2 H2 => ∃ m', m' < m ∧ W m' σ2 H2, ct := fun σ2 H2 => ∃ m', m' < m ∧ W m' σ2 H2, bk := D.nx } σ' H1 else D.nx σ' H1)
    (hp : PassesOwn (model X.prog X.w) X.A X.env X.xe := by exact PassesOwn.never) : wS X (.While c sts [] pos) D σ H :=
  uS (ps_while hp (pT c) (pB sts)) ⟨W, ⟨m0, w0⟩, fun m σ' H' w => (hs m σ' H' w).mono fun k H1 q => by
    cases k with
    | true => exact ⟨_, fun _ _ z => z, q⟩
    | false => exact q⟩
/-- a for over what Wk walks -/
theorem sFor {tg it : Expr} (h : wI X tg it σ H fun J H1 => ∃ n G Y, Walk J n G Y ∧ ∃ Pv : Nat → L2.St → Hp → Prop, Pv 0 σ H1 ∧ (∀ i σ H, i ≤ n → Pv i σ H → G H) ∧
      (∀ i x σ H H', i < n → Pv i σ H → Y i H x H' → wG X tg x σ H' fun σ2 H2 => wB X sts { D with nx := Pv (i + 1), ct := Pv (i + 1), bk := D.nx } σ2 H2) ∧ ∀ σ H, Pv n σ H → D.nx σ H)
    (hp : PassesOwn (model X.prog X.w) X.A X.env X.xe := by exact PassesOwn.never) (hc : X.calm = true := by rfl) (hs : ∀ x, foldedSetIterable it X.env x = pure x := by intro _; rfl) : wS X (.For tg it sts [] pos) D σ H :=
  uS (ps_for hp hc (pI tg it) (pG tg) (pB sts) hs) (h.mono fun J H1 ⟨n, G, Y, wk, Pv, h0, hG, hst, hd⟩ => for_it wk Pv h0 hG hst hd)
theorem iL {tg e : Expr} {R : It → Hp → Prop} (h : wE X e σ H fun x H1 => ∃ a, x = .ref a ∧ (∃ xs, SqL X.K H1 a xs) ∧ R (Itl X.K a) H1) : wI X tg e σ H R := uI (pi_list (pE e)) h
theorem iT {tg e : Expr} {R : It → Hp → Prop} (h : wE X e σ H fun x H1 => ∃ a, x = .ref a ∧ (∃ xs, SqT X.K H1 a xs) ∧ R (Itt X.K a) H1) : wI X tg e σ H R := uI (pi_tup (pE e)) h
theorem iR1 {tg e : Expr} {R : It → Hp → Prop} (hm : X.mg "range" = none) (h : wA X [e] σ H fun vs H1 => ∃ j : Int, vs = [.int j] ∧ -(2 ^ 62) ≤ j ∧ j < 2 ^ 62 ∧ R (Itr 0 j.toNat) H1) (hg : Gl X "range" := by rfl)
    (hs : starEach [e] X.env = [(false, eval e X.env)] := by rfl) : wI X tg (.Call (.Name "range" p1) [e] [] pos) σ H R := uI (pi_range1 hg hm (pA _) hs) h
/-! ### list comprehensions -/
def kG (X : Cx) (sc : Scope) (tg : Expr) : TG := fun v σ H Q => ∀ s0 H0 C cl fp, wG (X.blk s0 H0 sc (compEnvC sc cl C X.env) fp) tg v σ H Q
def kT (X : Cx) (sc : Scope) (ifs : List Expr) : TT := fun σ H Q => ∀ s0 H0 C cl fp, wTs (X.blk s0 H0 sc (compEnvC sc cl C X.env) fp) ifs σ H Q
def kE (X : Cx) (sc : Scope) (e : Expr) : TE := fun σ H Q => ∀ s0 H0 C cl fp, wE (X.blk s0 H0 sc (compEnvC sc cl C X.env) fp) e σ H Q
theorem kTnil {sc : Scope} {Q : Bool → Hp → Prop} (q : Q true H) : kT X sc [] σ H Q := fun _ _ _ _ _ => uTs pts_nil q
theorem eLc {elt tg it : Expr} {ifs : List Expr} {sc : Scope} (N : List Str) (st : Stmt) (own : List (Str × Nat))
    (h : wI X tg it σ H fun J H1 => ∀ L, H1 L = none → ∃ n G Y, Walk J n G Y ∧ ∃ Pv : Nat → Hp → Prop, Pv 0 (upd H1 L (.lst [])) ∧ (∀ i H, i ≤ n → Pv i H → G H) ∧
      (∀ i x H H', i < n → Pv i H → Y i H x H' → kG X sc tg x (wipe σ (own.map (·.2))) H' fun σ2 H2 => wipe σ2 (own.map (·.2)) = wipe σ (own.map (·.2)) ∧
        kT X sc ifs σ2 H2 fun k H3 => if k = true then kE X sc elt σ2 H3 fun y H4 => ∃ acc, H4 L = some (.lst acc) ∧ acc.length < sizeLine ∧ Pv (i + 1) (upd H4 L (.lst (acc ++ [y]))) else Pv (i + 1) H3) ∧
      ∀ H, Pv n H → Q (.ref L) H) (hN : X.N.Nodup := by assumption)
    (ok : blkC N (L2.defScope st) sc own = true := by decide +kernel) (xN : X.N = N := by rfl) (xS : X.env.scope = L2.defScope st := by rfl) (hc : X.calm = true := by rfl) (hs : ∀ x, foldedSetIterable it X.env x = pure x := by intro _; rfl) : wE X (.ListComp elt [⟨tg, it, ifs, 0⟩] sc pos) σ H Q := by
  refine uE (pe_lc (own := own) (g := kG X sc tg) (tt := kT X sc ifs) (te := kE X sc elt) hc hN (pI tg it) (blkOk_by (by rw [xN, xS]; exact ok)) (fun s0 H0 C cl fp => ⟨fun pins s σ H v u Q I r h => (h s0 H0 C cl fp).r pins s u I r⟩)
    (fun s0 H0 C cl fp => ⟨fun pins s σ H Q I h => (h s0 H0 C cl fp).r pins s I⟩) (fun s0 H0 C cl fp => ⟨fun pins s σ H Q I h => (h s0 H0 C cl fp).r pins s I⟩) hs) ?_
  refine h.mono fun J H1 k L hL => ?_
  obtain ⟨n, G, Y, wk, Pv, h0, hG, hst, hd⟩ := k L hL
  exact lc_it (g := kG X sc tg) (tt := kT X sc ifs) (te := kE X sc elt) wk Pv h0 hG hst hd
/-- name = [..], the comprehension on the name's own line -/
theorem sLc (i : Nat) {y : Str} {py spos : Pos} {elt tg it : Expr} {ifs : List Expr} {sc : Scope} (N : List Str) (st : Stmt) (own : List (Str × Nat))
    (h : wI X tg it σ H fun J H1 => ∀ L, H1 L = none → ∃ n G Y, Walk J n G Y ∧ ∃ Pv : Nat → Hp → Prop, Pv 0 (upd H1 L (.lst [])) ∧ (∀ i H, i ≤ n → Pv i H → G H) ∧
      (∀ i x H H', i < n → Pv i H → Y i H x H' → kG X sc tg x (wipe σ (own.map (·.2))) H' fun σ2 H2 => wipe σ2 (own.map (·.2)) = wipe σ (own.map (·.2)) ∧
        kT X sc ifs σ2 H2 fun k H3 => if k = true then kE X sc elt σ2 H3 fun y H4 => ∃ acc, H4 L = some (.lst acc) ∧ acc.length < sizeLine ∧ Pv (i + 1) (upd H4 L (.lst (acc ++ [y]))) else Pv (i + 1) H3) ∧
      ∀ H, Pv n H → D.nx (σ.set i (some (.ref L))) H) (hN : X.N.Nodup := by assumption) (hy : X.N[i]? = some y := by rfl) (hyl : X.env.scope.names.lookup y = some .local := by rfl)
    (hsw : swapsWith (.ListComp elt [⟨tg, it, ifs, 0⟩] sc pos) (some (.Name y py)) spos.line X.env = pure true := by exact sw_true rfl rfl rfl (by decide +kernel))
    (ok : blkC N (L2.defScope st) sc own = true := by decide +kernel) (xN : X.N = N := by rfl) (xS : X.env.scope = L2.defScope st := by rfl) (hc : X.calm = true := by rfl) (hs : ∀ x, foldedSetIterable it X.env x = pure x := by intro _; rfl) : wS X (.Assign [.Name y py] (.ListComp elt [⟨tg, it, ifs, 0⟩] sc pos) spos) D σ H := by
  refine uS (ps_setLc (own := own) (g := kG X sc tg) (tt := kT X sc ifs) (te := kE X sc elt) hc hN hy hyl hsw (pI tg it) (blkOk_by (by rw [xN, xS]; exact ok)) (fun s0 H0 C cl fp => ⟨fun pins s σ H v u Q I r h => (h s0 H0 C cl fp).r pins s u I r⟩)
    (fun s0 H0 C cl fp => ⟨fun pins s σ H Q I h => (h s0 H0 C cl fp).r pins s I⟩) (fun s0 H0 C cl fp => ⟨fun pins s σ H Q I h => (h s0 H0 C cl fp).r pins s I⟩) hs) ?_
  refine h.mono fun J H1 k L hL => ?_
  obtain ⟨n, G, Y, wk, Pv, h0, hG, hst, hd⟩ := k L hL
  exact lc_it (g := kG X sc tg) (tt := kT X sc ifs) (te := kE X sc elt) wk Pv h0 hG hst hd
end
end BR

namespace BR
open PySem PySem.Spec PyProof.Rows L2
/-! defs, classes, methods as they stand, each with its promise -/
/-- its parameters by place; and where it stands -/
structure BndL (K : PySem.W.Frag) (f : Addr) (fd : FuncData) (ps : List Str) : Prop where
  b : Binds K fd ps []
  lk : ∃ oc od osl, K.lookup f = some ⟨oc, od, .func fd, osl⟩
structure DefG (P : Program) (w : World) (K : PySem.W.Frag) (mg : Str → Option Value) (base : Heap) (k : Nat) (x : Str) (ps : List Str) (sp : Sp) : Prop where
  ex : ∃ f fd, FnOk P w K mg base (L2.CX P w) k f fd ps sp ∧ mg x = some (.ref f) ∧ PySem.W.keepIn K (.ref f) = true ∧ BndL K f fd ps
structure MakeG (P : Program) (w : World) (K : PySem.W.Frag) (mg : Str → Option Value) (base : Heap) (k : Nat) (x : Str) (C : Addr) (ps : List Str) (sp : Sp) : Prop where
  ex : ∃ f fd, L2.Mk K C f ∧ FnOk P w K mg base (L2.CX P w) k f fd ps sp ∧ mg x = some (.ref C) ∧ BndL K f fd ps
structure MethG (P : Program) (w : World) (K : PySem.W.Frag) (mg : Str → Option Value) (base : Heap) (k : Nat) (C : Addr) (m : Str) (ps : List Str) (sp : Sp) : Prop where
  ex : ∃ f fd, Cls K C ∧ Meth K C m f ∧ FnOk P w K mg base (L2.CX P w) k f fd ps sp ∧ BndL K f fd ps
/-- a def of the text, before its promise is shown -/
structure DefAt (K : PySem.W.Frag) (mg : Str → Option Value) (x : Str) (st : Stmt) (ps : List Str) : Prop where
  ex : ∃ f fd, L2.Fun K x x st f fd ∧ mg x = some (.ref f) ∧ BndL K f fd ps
structure InitAt (K : PySem.W.Frag) (mg : Str → Option Value) (x qual : Str) (C : Addr) (st : Stmt) (ps : List Str) : Prop where
  ex : ∃ f fd, L2.Mk K C f ∧ L2.Fun K "__init__" qual st f fd ∧ mg x = some (.ref C) ∧ BndL K f fd ps
structure MethAt (K : PySem.W.Frag) (C : Addr) (m qual : Str) (st : Stmt) (ps : List Str) : Prop where
  ex : ∃ f fd, Cls K C ∧ Meth K C m f ∧ L2.Fun K m qual st f fd ∧ BndL K f fd ps
/-- nothing leaves -/
abbrev W0 : WX := fun _ _ _ _ => False

section
variable {X : Cx} {σ : L2.St} {H : Hp} {Q : VK} {k j : Nat} {x m : Str} {C : Addr} {ps : List Str} {sp : Sp} {W : WX} {p1 p2 pos : Pos} {e o : Expr} {es : List Expr}
theorem eCall (G : DefG X.prog X.w X.K X.mg X.base k x ps sp) (hr : Room j X.A) (tk : Takes X W) (h : wA X (e :: es) σ H fun vs H1 => sp vs H1 Q fun c d H' => W c d σ H') (hk : k ≤ j := by decide) (hg : Gl X x := by rfl)
    (hdb : (x == ("__debug__" : Str)) = false := by decide) (he : starEach (e :: es) X.env = (false, eval e X.env) :: starEach es X.env := by rfl) (hpl : (backTo pos (starEach es X.env)).any (·.1) = false := by rfl) :
    wE X (.Call (.Name x p1) (e :: es) [] pos) σ H Q := by
  obtain ⟨f, fd, F, hm, hkp, ⟨hb, _⟩⟩ := G.ex
  exact uE (pe_callS F (hr.mono hk) hg hm hkp hb (passAt tk) (pA _) hdb he hpl) h
/-- a new instance is made, its own __init__ run, at the slots as they are -/
theorem run_made {f : Addr} {fd : FuncData} {pins : List (Addr × Obj)} {s : Shared} {us : List Value} {vs : List V} (M : L2.Mk X.K C f) (F : FnOk X.prog X.w X.K X.mg X.base (L2.CX X.prog X.w) k f fd ps sp) (hr : Room (k + 1) X.A) (hb : Binds X.K fd ps []) (tk : Takes X W)
    (I : Inv X pins σ H s) (r : Vals vs us) (h : ∀ n d, H n = none → H d = none → d ≠ n → sp (.ref n :: vs) (upd (upd H d (.own n)) n (.ins C d [])) (fun v H2 => v = .non ∧ Q (.ref n) H2) fun c d H' => W c d σ H') :
    wpAny (model X.prog X.w) X.A (call (.ref C) us) (EP X pins σ Q) X.xe s := by
  have q := h (s.heap.objs.size + 1) s.heap.objs.size (I.hok.fresh (Nat.le_succ _)) (I.hok.fresh (Nat.le_refl _)) (Nat.ne_of_lt (Nat.lt_succ_self _))
  have J := Inv.made (C := C) I
  have r2 : Vals (V.ref (s.heap.objs.size + 1) :: vs) (Value.ref (s.heap.objs.size + 1) :: us) := .cons rfl r
  have hl : (Value.ref (s.heap.objs.size + 1) :: us).length = ps.length := by
    have z := r2.length
    rw [F.len _ _ _ _ q] at z
    exact z.symm
  have b := hb _ (Value.ref (s.heap.objs.size + 1) :: us) J.kIn (by rw [List.append_nil]; exact hl)
  rw [List.append_nil] at b
  refine wpAny_call (make_map (f := f) I.kIn M.makes M.init (beq_iff_eq.mp M.fn) (codeAny_mono (F.run _ X.stack _ _ ⟨_, []⟩ _ _ _ _ (hr.make C us []) (J.env0.make C us []) b r2 q) fun z s' y => ?_))
  cases z with
  | error er => exact passAt tk σ pins _ _ er s' J y
  | ok fl =>
    cases fl with
    | ret u =>
      obtain ⟨v, H', I3, rv, ev, q3⟩ := J.after y
      subst ev
      exact ⟨rv, V.ref (s.heap.objs.size + 1), H', I3, rfl, q3⟩
    | next => exact False.elim y
    | brk => exact False.elim y
    | cont => exact False.elim y
theorem eMake (G : MakeG X.prog X.w X.K X.mg X.base k x C ps sp) (hr : Room j X.A) (tk : Takes X W)
    (h : wA X (e :: es) σ H fun vs H1 => ∀ n d, H1 n = none → H1 d = none → d ≠ n → sp (.ref n :: vs) (upd (upd H1 d (.own n)) n (.ins C d [])) (fun v H2 => v = .non ∧ Q (.ref n) H2) fun c d H' => W c d σ H') (hk : k + 1 ≤ j := by decide)
    (hg : Gl X x := by rfl) (hdb : (x == ("__debug__" : Str)) = false := by decide) (he : starEach (e :: es) X.env = (false, eval e X.env) :: starEach es X.env := by rfl) (hpl : (backTo pos (starEach es X.env)).any (·.1) = false := by rfl) :
    wE X (.Call (.Name x p1) (e :: es) [] pos) σ H Q := by
  obtain ⟨f, fd, M, F, hm, ⟨hb, _⟩⟩ := G.ex
  refine ⟨fun pins s I => ?_⟩
  refine wpAny_Call_Name_kw (ld_glob I hg hm ?_ hdb)
  exact PySem.W.callWith_K (h₀ := X.base) I.ok.mod.kin M.kp (thn (h.r pos pins s I) fun us s1 ⟨vs, H1, I1, r, q⟩ => ⟨I1.kIn, run_made M F (hr.mono hk) hb tk I1 r q⟩) he hpl
/-- raise -/
theorem sRaise {e : Expr} {D : Ends} {t : L2.St → Hp → XK → Prop} (tk : Takes X W) (he : PMk X e t) (h : t σ H fun c d H' => W c d σ H') (hc : X.calm = true := by rfl) : wS X (.Raise (some e) none pos) D σ H := uS (ps_raise hc tk he) h
end

section
variable {P : Program} {w : World} {K : PySem.W.Frag} {mg : Str → Option Value} {base : Heap} {k : Nat} {x qual : Str} {C : Addr} {st : Stmt} {N ps : List Str} {sp : Sp}
/-- a def's body, nothing leaves it -/
theorem okN {f : Addr} {fd : FuncData} (F : L2.Fun K x qual st f fd) (S : FnScope N ps (defScope st)) (len : ∀ vs H Q E, sp vs H Q E → vs.length = ps.length)
    (h : ∀ (X : Cx) (H : Hp) (vs : List V) (Q : VK) (E : XK), (∃ cdv A outer s, X = (cxOf (L2.CX P w) P w K mg base N qual (defScope st) f cdv A outer s H E).nox) → Room k X.A → Takes X W0 → sp vs H Q E →
      wB X (defBody st) { nx := fun _ H' => Q .non H', rt := Q } (start N vs) H) : FnOk P w K mg base (L2.CX P w) (k + 1) f fd ps sp :=
  F.okX S len fun cdv A outer s H vs Q E hr hs => ⟨_, (pB (X := (cxOf (L2.CX P w) P w K mg base N qual (defScope st) f cdv A outer s H E).nox) (defBody st)).nox, h _ H vs Q E ⟨cdv, A, outer, s, rfl⟩ hr takes0 hs⟩
end
end BR

namespace BR
open PySem PySem.Spec PyProof.Rows L2
/-! what values tell, apart from where they stand -/
inductive D where
  | non | bl (b : Bool) | int (i : Int) | str (x : Str)
  | tup (l : List D) | lst (l : List D) | obj (c : Str) (l : List (Str × D))
abbrev Reg := Addr → Prop
/-- a tuple of the program's top -/
def KTup (K : PySem.W.Frag) (a : Addr) (xs : List V) : Prop :=
  ∃ o its n, K.lookup a = some o ∧ o.cls = .type "tuple" ∧ o.data = .seq its n ∧ its.size ≤ sizeLine ∧ Vals xs its.toList
structure Rp where
  K : PySem.W.Frag
  CA : Str → Addr
mutual
/-- v stands for d; no object of it lies in S -/
inductive Is (R : Rp) (S : Reg) (H : Hp) : V → D → Prop
  | non : Is R S H .non .non
  | bl (b : Bool) : Is R S H (.bl b) (.bl b)
  | int (i : Int) : Is R S H (.int i) (.int i)
  | str (x : Str) : Is R S H (.str x) (.str x)
  | tup {a : Addr} {xs : List V} {ds : List D} : ¬ S a → H a = some (.tup xs) → IsA R S H xs ds → Is R S H (.ref a) (.tup ds)
  | tupK {a : Addr} {xs : List V} {ds : List D} : KTup R.K a xs → IsA R S H xs ds → Is R S H (.ref a) (.tup ds)
  | lst {a : Addr} {xs : List V} {ds : List D} : ¬ S a → H a = some (.lst xs) → IsA R S H xs ds → Is R S H (.ref a) (.lst ds)
  | obj {a dx : Addr} {c : Str} {fs : List (Str × V)} {ds : List (Str × D)} : ¬ S a → H a = some (.ins (R.CA c) dx fs) → IsF R S H fs ds → Is R S H (.ref a) (.obj c ds)
inductive IsA (R : Rp) (S : Reg) (H : Hp) : List V → List D → Prop
  | nil : IsA R S H [] []
  | cons {v : V} {vs : List V} {d : D} {ds : List D} : Is R S H v d → IsA R S H vs ds → IsA R S H (v :: vs) (d :: ds)
inductive IsF (R : Rp) (S : Reg) (H : Hp) : List (Str × V) → List (Str × D) → Prop
  | nil : IsF R S H [] []
  | cons {f : Str} {v : V} {vs : List (Str × V)} {d : D} {ds : List (Str × D)} : Is R S H v d → IsF R S H vs ds → IsF R S H ((f, v) :: vs) ((f, d) :: ds)
end
/-- all but S is kept -/
def Kp (S : Reg) (H H' : Hp) : Prop := ∀ a o, ¬ S a → H a = some o → H' a = some o
/-- what lies in S is there -/
def Live (S : Reg) (H : Hp) : Prop := ∀ a, S a → H a ≠ none
section
variable {R : Rp} {S : Reg} {H H' H2 : Hp}
theorem Kp.refl (S : Reg) (H : Hp) : Kp S H H := fun _ _ _ e => e
theorem Kp.trans (a : Kp S H H') (b : Kp S H' H2) : Kp S H H2 := fun c o n e => b c o n (a c o n e)
theorem Kp.of (a : Same H H') : Kp S H H' := fun c o _ e => a c o e
mutual
theorem Is.kp (k : Kp S H H') : ∀ {v : V} {d : D}, Is R S H v d → Is R S H' v d
  | _, _, .non => .non
  | _, _, .bl b => .bl b
  | _, _, .int i => .int i
  | _, _, .str x => .str x
  | _, _, .tup n e h => .tup n (k _ _ n e) (IsA.kp k h)
  | _, _, .tupK e h => .tupK e (IsA.kp k h)
  | _, _, .lst n e h => .lst n (k _ _ n e) (IsA.kp k h)
  | _, _, .obj n e h => .obj n (k _ _ n e) (IsF.kp k h)
theorem IsA.kp (k : Kp S H H') : ∀ {v : List V} {d : List D}, IsA R S H v d → IsA R S H' v d
  | _, _, .nil => .nil
  | _, _, .cons a b => .cons (Is.kp k a) (IsA.kp k b)
theorem IsF.kp (k : Kp S H H') : ∀ {v : List (Str × V)} {d : List (Str × D)}, IsF R S H v d → IsF R S H' v d
  | _, _, .nil => .nil
  | _, _, .cons a b => .cons (Is.kp k a) (IsF.kp k b)
end
theorem Is.up {v : V} {d : D} (h : Is R S H v d) (s : Same H H') : Is R S H' v d := Is.kp (Kp.of s) h
theorem IsA.up {v : List V} {d : List D} (h : IsA R S H v d) (s : Same H H') : IsA R S H' v d := IsA.kp (Kp.of s) h
theorem Is.go {v : V} {d : D} (h : Is R S H v d) (s : Kp S H H') : Is R S H' v d := Is.kp s h
theorem IsA.go {v : List V} {d : List D} (h : IsA R S H v d) (s : Kp S H H') : IsA R S H' v d := IsA.kp s h
theorem Live.up (l : Live S H) (s : Same H H') : Live S H' := fun a h z => by
  have q := l a h
  cases e : H a with
  | none => exact q e
  | some o => rw [s a o e] at z; cases z
theorem Live.new {p : Addr} (l : Live S H) (h : H p = none) : ¬ S p := fun z => l p z h
theorem Live.or {T : Reg} (l : Live S H) (k : Live T H) : Live (fun z => S z ∨ T z) H := fun a h => h.elim (l a) (k a)
theorem Live.none : Live (fun _ => False) H := fun _ z => z.elim
theorem same_new {p : Addr} {o : HO} (h : H p = none) : Same H (upd H p o) := fun b u e => by
  rw [upd_ne (ne_of_none e h)]
  exact e
theorem IsA.len : ∀ {vs : List V} {ds : List D}, IsA R S H vs ds → vs.length = ds.length
  | _, _, .nil => rfl
  | _, _, .cons _ h => by rw [List.length_cons, List.length_cons, IsA.len h]
theorem IsA.get : ∀ {vs : List V} {ds : List D} {i : Nat} {d : D}, IsA R S H vs ds → ds[i]? = some d → ∃ v, vs[i]? = some v ∧ Is R S H v d
  | _, _, _, _, .nil, e => by simp at e
  | _, _, 0, _, .cons a _, e => by simp at e; subst e; exact ⟨_, rfl, a⟩
  | _, _, i + 1, d, .cons _ b, e => by
    obtain ⟨v, h1, h2⟩ := IsA.get (i := i) (d := d) b (by simpa using e)
    exact ⟨v, by simpa using h1, h2⟩
theorem IsA.getV : ∀ {vs : List V} {ds : List D} {i : Nat} {v : V}, IsA R S H vs ds → vs[i]? = some v → ∃ d, ds[i]? = some d ∧ Is R S H v d
  | _, _, _, _, .nil, e => by simp at e
  | _, _, 0, _, .cons a _, e => by simp at e; subst e; exact ⟨_, rfl, a⟩
  | _, _, i + 1, d, .cons _ b, e => by
    obtain ⟨v, h1, h2⟩ := IsA.getV (i := i) (v := d) b (by simpa using e)
    exact ⟨v, by simpa using h1, h2⟩
theorem IsA.app : ∀ {vs us : List V} {ds es : List D}, IsA R S H vs ds → IsA R S H us es → IsA R S H (vs ++ us) (ds ++ es)
  | _, _, _, _, .nil, h => h
  | _, _, _, _, .cons a b, h => .cons a (IsA.app b h)
theorem IsA.ints : ∀ {is : List Int}, IsA R S H (is.map V.int) (is.map D.int)
  | [] => .nil
  | i :: r => .cons (.int i) IsA.ints
theorem IsA.of_ints : ∀ {vs : List V} {is : List Int}, IsA R S H vs (is.map D.int) → vs = is.map V.int
  | _, [], .nil => rfl
  | _, i :: r, .cons a b => by
    cases a
    rw [IsA.of_ints b]
    rfl
theorem KTup.sq {K : PySem.W.Frag} {a : Addr} {xs : List V} (h : KTup K a xs) : SqT K H a xs := .inr h
theorem Is.tupE {v : V} {ds : List D} (h : Is R S H v (.tup ds)) : ∃ a xs, v = .ref a ∧ SqT R.K H a xs ∧ IsA R S H xs ds := by
  cases h with
  | tup n e h => exact ⟨_, _, rfl, SqT.of e, h⟩
  | tupK e h => exact ⟨_, _, rfl, e.sq, h⟩
theorem Is.lstE {v : V} {ds : List D} (h : Is R S H v (.lst ds)) : ∃ a xs, v = .ref a ∧ ¬ S a ∧ H a = some (.lst xs) ∧ IsA R S H xs ds := by
  cases h with
  | lst n e h => exact ⟨_, _, rfl, n, e, h⟩
theorem IsF.look : ∀ {fs : List (Str × V)} {ds : List (Str × D)} {f : Str} {d : D}, IsF R S H fs ds → ds.lookup f = some d → ∃ v, fs.lookup f = some v ∧ Is R S H v d
  | _, _, _, _, .nil, e => by simp at e
  | _, _, f, d, .cons (f := g) a b, e => by
    by_cases z : f = g
    · subst z
      simp [List.lookup] at e
      subst e
      exact ⟨_, by simp [List.lookup], a⟩
    · have q : (f == g) = false := by simpa using z
      simp only [List.lookup, q] at e ⊢
      exact IsF.look b e
/-- what is made anew -/
theorem Is.newT {p : Addr} {xs : List V} {ds : List D} (l : Live S H) (h : H p = none) (a : IsA R S H xs ds) : Is R S (upd H p (.tup xs)) (.ref p) (.tup ds) := .tup (l.new h) upd_same (a.up (same_new h))
theorem Is.newL {p : Addr} {xs : List V} {ds : List D} (l : Live S H) (h : H p = none) (a : IsA R S H xs ds) : Is R S (upd H p (.lst xs)) (.ref p) (.lst ds) := .lst (l.new h) upd_same (a.up (same_new h))

/-! ### two-place readings over what is known -/
variable {Q : VK} {v : V}
def D.items : D → Option (List D)
  | .tup l => some l
  | .lst l => some l
  | _ => none
theorem ixD {d e : D} {ds : List D} {i : Nat} (h : Is R S H v d) (hi : d.items = some ds) (he : ds[i]? = some e) (q : ∀ x, Is R S H x e → Q x H) : rIx R.K v (.int (i : Nat)) H Q := by
  cases d with
  | tup l =>
    cases hi
    obtain ⟨a, xs, rfl, hs, ha⟩ := h.tupE
    obtain ⟨x, hx, ix⟩ := ha.get he
    exact .inr (.inl ⟨a, xs, _, x, rfl, rfl, hs, atI_nat hx, q x ix⟩)
  | lst l =>
    cases hi
    obtain ⟨a, xs, rfl, _, hs, ha⟩ := h.lstE
    obtain ⟨x, hx, ix⟩ := ha.get he
    exact .inl ⟨a, xs, _, x, rfl, rfl, SqL.of hs, atI_nat hx, q x ix⟩
  | _ => cases hi
end
end BR

namespace BR
open PySem PySem.Spec PyProof.Rows L2
/-! ### fractions -/
def mkQ (p q : Int) : Rat := Rat.divInt p q
def frac (r : Rat) : D := .tup [.int r.num, .int (r.den : Int)]
structure Sz (n : Nat) (r : Rat) : Prop where
  num : r.num.natAbs < 2 ^ n
  den : r.den < 2 ^ n
theorem mkQ_self (r : Rat) : mkQ r.num (r.den : Int) = r := by
  unfold mkQ
  rw [Rat.divInt_ofNat]
  exact Rat.mkRat_self r
theorem den_pos (r : Rat) : (0 : Int) < (r.den : Int) := by
  have := r.den_pos
  omega
theorem mkQ_num {p q : Int} (h : 0 < q) : (mkQ p q).num = p / (Int.gcd p q : Int) := by
  unfold mkQ
  rw [Rat.num_divInt, Int.sign_eq_one_of_pos h, Int.one_mul, Int.gcd_comm]
theorem mkQ_den {p q : Int} (h : 0 < q) : ((mkQ p q).den : Int) = q / (Int.gcd p q : Int) := by
  unfold mkQ
  rw [Rat.den_divInt, if_neg (by omega), Int.gcd_comm]
  have e : (q.natAbs : Int) = q := Int.natAbs_of_nonneg (by omega)
  rw [Int.natCast_ediv, e]
theorem gcd_pos {p q : Int} (h : 0 < q) : (0 : Int) < (Int.gcd p q : Int) := by
  have : 0 < Int.gcd p q := Int.gcd_pos_of_ne_zero_right p (by omega)
  omega
theorem gcd_le {p q : Int} (h : 0 < q) : (Int.gcd p q : Int) ≤ q := Int.le_of_dvd h (Int.gcd_dvd_right p q)
theorem ediv_abs {p g : Int} (h : 0 < g) : (p / g).natAbs ≤ p.natAbs := Int.natAbs_ediv_le_natAbs p g
theorem mkQ_sz {n : Nat} {p q : Int} (h : 0 < q) (hp : p.natAbs < 2 ^ n) (hq : q.natAbs < 2 ^ n) : Sz n (mkQ p q) := by
  refine ⟨?_, ?_⟩
  · rw [mkQ_num h]
    exact Nat.lt_of_le_of_lt (ediv_abs (gcd_pos h)) hp
  · have e := mkQ_den (p := p) h
    have l := ediv_abs (p := q) (gcd_pos (p := p) h)
    omega
theorem mkQ_add {a b c d : Int} (h : 0 < b) (k : 0 < d) : mkQ (a * d + c * b) (b * d) = mkQ a b + mkQ c d := by
  unfold mkQ
  rw [Rat.divInt_add_divInt _ _ (by omega) (by omega)]
theorem mkQ_mul {a b c d : Int} : mkQ (a * c) (b * d) = mkQ a b * mkQ c d := by
  unfold mkQ
  rw [Rat.divInt_mul_divInt]
theorem mkQ_inj {a b c d : Int} (h : 0 < b) (k : 0 < d) : mkQ a b = mkQ c d ↔ a * d = c * b := by
  unfold mkQ
  exact Rat.divInt_eq_divInt_iff (by omega) (by omega)
theorem mkQ_neg {a b : Int} : mkQ (-a) b = - mkQ a b := by
  unfold mkQ
  rw [Rat.neg_divInt]
theorem pow_le2 {a b : Nat} (h : a ≤ b) : 2 ^ a ≤ 2 ^ b := Nat.pow_le_pow_right (by decide) h
theorem Sz.mono {n m : Nat} {r : Rat} (h : Sz n r) (k : n ≤ m) : Sz m r := ⟨Nat.lt_of_lt_of_le h.num (pow_le2 k), Nat.lt_of_lt_of_le h.den (pow_le2 k)⟩
theorem abs_mul {a b : Int} {n m : Nat} (h : a.natAbs < 2 ^ n) (k : b.natAbs < 2 ^ m) : (a * b).natAbs < 2 ^ (n + m) := wide_lt h k
theorem abs_add {a b : Int} {n : Nat} (h : a.natAbs < 2 ^ n) (k : b.natAbs < 2 ^ n) : (a + b).natAbs < 2 ^ (n + 1) := by
  have : 2 ^ (n + 1) = 2 ^ n + 2 ^ n := by rw [Nat.pow_succ]; omega
  omega
/-! ### the gcd by remainders -/
theorem gcd_step (a b : Int) : Int.gcd b (a % b) = Int.gcd a b := by
  rw [Int.emod_def, Int.gcd_sub_mul_left_right, Int.gcd_comm]

/-! ### data that are equal -/
mutual
def D.py : D → PyData
  | .non => .none
  | .bl b => .bool b
  | .int i => .int i
  | .str x => .str x
  | .tup l => .tuple (D.pys l)
  | .lst l => .list (D.pys l)
  | .obj _ _ => .none
def D.pys : List D → List PyData
  | [] => []
  | d :: r => D.py d :: D.pys r
end
mutual
def D.plain : D → Bool
  | .obj _ _ => false
  | .tup l => D.plains l
  | .lst l => D.plains l
  | _ => true
def D.plains : List D → Bool
  | [] => true
  | d :: r => D.plain d && D.plains r
end
section
variable {R : Rp} {S : Reg} {H : Hp}
mutual
theorem Is.dp : ∀ {v : V} {d : D}, Is R S H v d → d.plain = true → Dp R.K H v d.py
  | _, _, .non, _ => .non
  | _, _, .bl b, _ => .bl b
  | _, _, .int i, _ => .int i
  | _, _, .str x, _ => .str x
  | _, _, .tup n e h, p => .tup (SqT.of e) (IsA.dp h (by simpa [D.plain] using p))
  | _, _, .tupK e h, p => .tup e.sq (IsA.dp h (by simpa [D.plain] using p))
  | _, _, .lst n e h, p => .lst (SqL.of e) (IsA.dp h (by simpa [D.plain] using p))
  | _, _, .obj n e h, p => by simp [D.plain] at p
theorem IsA.dp : ∀ {v : List V} {d : List D}, IsA R S H v d → D.plains d = true → DpAll R.K H v (D.pys d)
  | _, _, .nil, _ => .nil
  | _, _, .cons a b, p => by
    simp [D.plains] at p
    exact .cons (Is.dp a p.1) (IsA.dp b p.2)
end
/-- what is no object stays where an instance is written -/
def KpI (H H' : Hp) : Prop := ∀ a o, H a = some o → (∀ C dx fs, o ≠ .ins C dx fs) → H' a = some o
mutual
theorem Is.kpI {H' : Hp} (k : KpI H H') : ∀ {v : V} {d : D}, Is R S H v d → d.plain = true → Is R S H' v d
  | _, _, .non, _ => .non
  | _, _, .bl b, _ => .bl b
  | _, _, .int i, _ => .int i
  | _, _, .str x, _ => .str x
  | _, _, .tup n e h, p => .tup n (k _ _ e fun _ _ _ z => by cases z) (IsA.kpI k h (by simpa [D.plain] using p))
  | _, _, .tupK e h, p => .tupK e (IsA.kpI k h (by simpa [D.plain] using p))
  | _, _, .lst n e h, p => .lst n (k _ _ e fun _ _ _ z => by cases z) (IsA.kpI k h (by simpa [D.plain] using p))
  | _, _, .obj n e h, p => by simp [D.plain] at p
theorem IsA.kpI {H' : Hp} (k : KpI H H') : ∀ {v : List V} {d : List D}, IsA R S H v d → D.plains d = true → IsA R S H' v d
  | _, _, .nil, _ => .nil
  | _, _, .cons a b, p => by
    simp [D.plains] at p
    exact .cons (Is.kpI k a p.1) (IsA.kpI k b p.2)
end
theorem kpI_upd {n C dx C' dx' : Addr} {fs fs' : List (Str × V)} (h : H n = some (.ins C dx fs)) : KpI H (upd H n (.ins C' dx' fs')) := fun a o e z => by
  by_cases q : a = n
  · subst q
    rw [h] at e
    cases e
    exact absurd rfl (z _ _ _)
  · rw [upd_ne q]
    exact e
def D.okEq (d : D) : Bool := d.plain && SeqAt.shaped d.py
def D.eqv (d e : D) : Bool := PyData.eqv d.py e.py
theorem neD {d e : D} {x y : V} {Q : VK} (h : Is R S H x d) (k : Is R S H y e) (hd : d.okEq = true) (he : e.okEq = true) (q : Q (.bl (!D.eqv d e)) H) : rNeD R.K x y H Q := by
  unfold D.okEq at hd he
  rw [Bool.and_eq_true] at hd he
  exact ⟨_, _, h.dp hd.1, k.dp he.1, hd.2, he.2, q⟩
theorem eqD {d e : D} {x y : V} {Q : VK} (h : Is R S H x d) (k : Is R S H y e) (hd : d.okEq = true) (he : e.okEq = true) (q : Q (.bl (D.eqv d e)) H) : rEqD R.K x y H Q := by
  unfold D.okEq at hd he
  rw [Bool.and_eq_true] at hd he
  exact ⟨_, _, h.dp hd.1, k.dp he.1, hd.2, he.2, q⟩
theorem okEq_frac (r : Rat) : (frac r).okEq = true := by
  simp [D.okEq, frac, D.plain, D.plains, D.py, D.pys, SeqAt.shaped, PyData.canLay0, PyData.canLayAll0, PyData.depth, PyData.depthAll]
theorem eqv_frac (r s : Rat) : D.eqv (frac r) (frac s) = decide (r = s) := by
  simp only [D.eqv, frac, D.py, D.pys, PyData.eqv, PyData.eqvAll, Bool.and_true]
  by_cases h : r = s
  · subst h; simp
  · rw [decide_eq_false h]
    by_cases h1 : r.num = s.num
    · by_cases h2 : r.den = s.den
      · exact absurd (Rat.ext h1 h2) h
      · have : ¬ (r.den : Int) = s.den := by omega
        simp [h1, this]
    · simp [h1]
end
end BR

namespace BRX
open PySem PySem.Spec PySem.Calls PyProof.Rows PySem.W
section
variable {prog : Program} {w : World} {A : Around} {E : Value → Shared → Prop} {s : Shared} {K : Frag} {x D : Addr} {ox : Obj} {od : Option Obj}
end
end BRX

namespace BR
open PySem PySem.Spec PyProof.Rows L2
section
variable {X : Cx} {σ : L2.St} {H : Hp} {D : Ends} {e o : Expr} {f : Str} {p1 p2 p3 pos : Pos}
/-- self.f = e in an exception's __init__ -/
theorem sOst (h : wE X e σ H fun y H1 => wE X o σ H1 fun x H2 => ∃ a C : Addr, x = .ref a ∧ OexC X.K C ∧ PySem.W.findIn X.K (.ref C) f = some none ∧
      ((H2 a = some (exo a C none) ∧ ∀ dx, H2 dx = none → dx ≠ a → D.nx σ (upd (upd H2 dx (exd dx [(f, y)])) a (exo a C (some dx)))) ∨
        ∃ (dx : Addr) (fs : List (Str × V)), H2 a = some (exo a C (some dx)) ∧ H2 dx = some (exd dx fs) ∧ fs.length ≤ 900 ∧ D.nx σ (upd H2 dx (exd dx ((f, y) :: fs)))))
    (hs : swapsWith e (some (.Attribute o f p1)) pos.line X.env = pure false := by rfl) : wS X (.Assign [.Attribute o f p1] e pos) D σ H := uS (ps_ost (pE o) (pE e) hs) h
end
/-- an exception's class of the text, with its own __init__ -/
structure ErrC (K : PySem.W.Frag) (mg : Str → Option Value) (x : Str) (C : Addr) : Prop where
  gC : mg x = some (.ref C)
  ox : OexC K C
  xf : XfC K C
  ex : ExcC K C
structure ErrI (K : PySem.W.Frag) (mg : Str → Option Value) (x qual : Str) (C : Addr) (st : Stmt) (ps : List Str) : Prop where
  er : ErrC K mg x C
  ini : ∃ f fd, PySem.W.findIn K (.ref C) "__init__" = some (some (.ref f)) ∧ PySem.W.typeIn K (.ref f) = some (.type "function") ∧ L2.Fun K "__init__" qual st f fd ∧ Binds K fd ps []
/-- the same, the __init__'s promise shown -/
structure ErrG (P : Program) (w : World) (K : PySem.W.Frag) (mg : Str → Option Value) (base : Heap) (k : Nat) (x : Str) (C : Addr) (ps : List Str) (sp : Sp) : Prop where
  er : ErrC K mg x C
  ini : ∃ f fd, PySem.W.findIn K (.ref C) "__init__" = some (some (.ref f)) ∧ PySem.W.typeIn K (.ref f) = some (.type "function") ∧ FnOk P w K mg base (L2.CX P w) k f fd ps sp ∧ Binds K fd ps []
section
variable {X : Cx} {σ : L2.St} {H : Hp} {D : Ends} {e : Expr} {es : List Expr} {x : Str} {C : Addr} {p pos p2 : Pos} {k j : Nat} {ps : List Str} {sp : Sp} {W : WX}
/-- raise C(e, ..) -/
theorem sRaiseI (G : ErrG X.prog X.w X.K X.mg X.base k x C ps sp) (hr : Room j X.A) (tk : Takes X W)
    (h : wA X (e :: es) σ H fun vs H1 => vs.length ≤ 1000 ∧ ∀ a, H1 a = none → sp (.ref a :: vs) (upd H1 a (exo a C none))
      (fun v H2 => v = .non ∧ ∃ (d : Addr) (fs : List (Str × V)), H2 a = some (exo a C (some d)) ∧ H2 d = some (exd d fs) ∧ H1 d = none ∧ W (.ref C) (some d) σ (upd (del H2 a) d (.xd fs))) (fun _ _ _ => False)) (hk : k + 1 ≤ j := by decide)
    (hg : Gl X x := by rfl) (hdb : (x == ("__debug__" : Str)) = false := by decide) (he : starEach (e :: es) X.env = (false, eval e X.env) :: starEach es X.env := by rfl) (hpl : (backTo pos (starEach es X.env)).any (·.1) = false := by rfl) (hc : X.calm = true := by rfl) :
    wS X (.Raise (some (.Call (.Name x p) (e :: es) [] pos)) none p2) D σ H := by
  obtain ⟨f, fd, iC, tI, F, hb⟩ := G.ini
  refine sRaise tk (pmk_oex G.er.ox iC tI F (hr.mono hk) hb .nil (fun _ _ _ _ _ _ _ z => ?_) hg G.er.gC (pA _) hdb he hpl) ?_ hc
  · obtain ⟨_, _, _, _, _, _, _, _, _, _, _, _, z⟩ := z
    exact z.elim
  · show wA X (e :: es) σ H _
    simpa only [List.append_nil] using h
end
section
variable {P : Program} {w : World} {K : PySem.W.Frag} {mg : Str → Option Value} {base : Heap} {k : Nat} {x qual : Str} {C : Addr} {st : Stmt} {N ps : List Str} {sp : Sp}
/-- a def's body that may raise -/
theorem okR {f : Addr} {fd : FuncData} (F : L2.Fun K x qual st f fd) (S : FnScope N ps (defScope st)) (len : ∀ vs H Q E, sp vs H Q E → vs.length = ps.length)
    (h : ∀ (X : Cx) (H : Hp) (vs : List V) (Q : VK) (E : XK), (∃ cdv A outer s, X = cxOf (L2.CX P w) P w K mg base N qual (defScope st) f cdv A outer s H E) → Room k X.A → Takes X (fun c d _ H' => E c d H') → PassesOwn (model X.prog X.w) X.A X.env X.xe → sp vs H Q E →
      wB X (defBody st) { nx := fun _ H' => Q .non H', rt := Q } (start N vs) H) : FnOk P w K mg base (L2.CX P w) (k + 1) f fd ps sp :=
  F.okX S len fun cdv A outer s H vs Q E hr hs => ⟨_, pB (X := cxOf (L2.CX P w) P w K mg base N qual (defScope st) f cdv A outer s H E) (defBody st), h _ H vs Q E ⟨cdv, A, outer, s, rfl⟩ hr (takes_of rfl rfl rfl rfl) (passes_of rfl) hs⟩
end
end BR
namespace BR
open PySem PySem.Spec PyProof.Rows L2
theorem lk0 {α : Type} {f : Str} {v : α} {r : List (Str × α)} : List.lookup f ((f, v) :: r) = some v := by simp [List.lookup]
theorem lk1 {α : Type} {f g : Str} {w : α} {r : List (Str × α)} (h : ¬ f = g) : List.lookup f ((g, w) :: r) = List.lookup f r := by
  have e : (f == g) = false := by simpa using h
  simp [List.lookup, e]
/-- a built-in class as a value -/
theorem eBl0 {X : Cx} {σ : L2.St} {H : Hp} {Q : VK} {x : Str} {v : V} {u : Value} {pos : Pos} (hm : X.mg x = none) (hv : bootBuiltins x = some u) (r : RelV v u) (q : Q v H) (hg : Gl X x := by rfl) (hn : x ≠ "__name__" := by decide) (hd : (x == ("__debug__" : Str)) = false := by decide) : wE X (.Name x pos) σ H Q := uE (pe_bltn hg hm hv r hn hd) q
/-- a class of the text, as isinstance names it -/
structure NamC (K : PySem.W.Frag) (mg : Str → Option Value) (x : Str) (C : Addr) : Prop where
  gC : mg x = some (.ref C)
  hd : PySem.W.hasDictIn K C = true
  ty : PySem.W.typeIn K (.ref C) = some (.type "type")
theorem ErrC.nam {K : PySem.W.Frag} {mg : Str → Option Value} {x : Str} {C : Addr} (T : ErrC K mg x C) : NamC K mg x C := ⟨T.gC, T.ex.hd, T.ox.tyC⟩
theorem kitC {K : PySem.W.Frag} {mg : Str → Option Value} {x : Str} {D C : Addr} {b : Bool} (T : NamC K mg x C) (s : PySem.W.subIn K (.ref D) (.ref C) = some b) (n : D = C → b = true) : PySem.W.kitOne K (.ref D) (.ref C) = some b := by
  unfold PySem.W.kitOne
  by_cases e : D = C
  · rw [if_pos (by rw [e]; simp), n e]
  · have ne : ¬ ((Value.ref D == Value.ref C) = true) := fun z => e (Value.ref.inj (beq_iff_eq.mp z))
    rw [if_neg ne]
    obtain ⟨cd, hc, _⟩ := PySem.W.any_some T.hd
    unfold PySem.W.kitCls
    simp only [hc, T.ty, Option.isSome_some, Bool.true_and, beq_self_eq_true, if_true]
    exact s
/-! ### what the top has left -/
section
open PySem.W
variable {K : PySem.W.Frag} {h : Heap} {mg : Str → Option Value} {x qual : Str} {f C CB : Addr} {st : Stmt} {ps : List Str}
theorem defAt_mk {od an : Option Addr} {sl : Array (Option Value)} {oc kV dc pm cd ct : Value} (X : K.In h) (G : h.Ns mainGlobals mg) (b : ∀ (kV doc pm : Value) (an : Option Addr) (cdv ct : Value) (us : List Value), us.length = ps.length → bindArgs (fnOf x x (L2.defArgs st) (L2.defBody st) (L2.defScope st) .none kV doc pm an cdv ct) ⟨us, []⟩ = pure (ps.zip us))
    (a : nsIn K mainGlobals x = some (some (.ref f))) (l : K.lookup f = some ⟨oc, od, .func (fnOf x x (L2.defArgs st) (L2.defBody st) (L2.defScope st) .none kV dc pm an cd ct), sl⟩) (c : codeIn K cd x = true) (k : keepIn K (.ref f) = true) : DefAt K mg x st ps := by
  have F := L2.fun_mk (st := st) l c k
  exact ⟨f, _, F, mg_of X G a, F.binds b, _, _, _, l⟩
theorem initAt_mk {od an : Option Addr} {sl : Array (Option Value)} {oc kV dc pm cd ct : Value} (X : K.In h) (G : h.Ns mainGlobals mg) (b : ∀ (kV doc pm : Value) (an : Option Addr) (cdv ct : Value) (us : List Value), us.length = ps.length → bindArgs (fnOf "__init__" qual (L2.defArgs st) (L2.defBody st) (L2.defScope st) .none kV doc pm an cdv ct) ⟨us, []⟩ = pure (ps.zip us))
    (aC : nsIn K mainGlobals x = some (some (.ref C))) (mk : makesIn K C = true) (kc : keepIn K (.ref C) = true) (a : findIn K (.ref C) "__init__" = some (some (.ref f))) (i : isFn K (.ref f) = true)
    (l : K.lookup f = some ⟨oc, od, .func (fnOf "__init__" qual (L2.defArgs st) (L2.defBody st) (L2.defScope st) .none kV dc pm an cd ct), sl⟩) (c : codeIn K cd qual = true) (k : keepIn K (.ref f) = true) : InitAt K mg x qual C st ps := by
  have F := L2.fun_mk (st := st) l c k
  exact ⟨f, _, ⟨mk, a, i, kc⟩, F, mg_of X G aC, F.binds b, _, _, _, l⟩
theorem methAt_mk {m : Str} {od an : Option Addr} {sl : Array (Option Value)} {oc kV dc pm cd ct : Value} (T : Cls K C) (b : ∀ (kV doc pm : Value) (an : Option Addr) (cdv ct : Value) (us : List Value), us.length = ps.length → bindArgs (fnOf m qual (L2.defArgs st) (L2.defBody st) (L2.defScope st) .none kV doc pm an cdv ct) ⟨us, []⟩ = pure (ps.zip us))
    (a : findIn K (.ref C) m = some (some (.ref f))) (i : isFn K (.ref f) = true) (l : K.lookup f = some ⟨oc, od, .func (fnOf m qual (L2.defArgs st) (L2.defBody st) (L2.defScope st) .none kV dc pm an cd ct), sl⟩) (c : codeIn K cd qual = true) (k : keepIn K (.ref f) = true) : MethAt K C m qual st ps := by
  have F := L2.fun_mk (st := st) l c k
  exact ⟨f, _, T, ⟨a, i, k⟩, F, F.binds b, _, _, _, l⟩
theorem errC_mk {nm q : Str} {N : Addr} {bs bm : List Value} {sn : List Str} {sub : List Value} {ab : Bool} {col : Option Bool} {dd : Option Addr} {m0 m1 m2 m3 m5 : Option Value} (X : K.In h) (G : h.Ns mainGlobals mg)
    (aC : nsIn K mainGlobals x = some (some (.ref C))) (xL : K.lookup C = some (excClassObj nm q C N bs bm true sn sub ab col dd m0 m1 m2 m3 m5 "ValueError.__new__")) (rb : HandSPX.refsVE bm = true)
    (sa : findIn K (.ref C) "__setattr__" = some (some (.builtin "object.__setattr__"))) (ga : findIn K (.ref C) "__getattribute__" = some (some (.builtin "BaseException.__getattribute__"))) (gg : findIn K (.ref C) "__getattr__" = some none)
    (eC : subIn K (.ref C) (.type "BaseException") = some true) (tC : typeIn K (.ref C) = some (.type "type")) (kC : keepIn K (.ref C) = true) (hC : hasDictIn K C = true)
    (ha : findIn K (.ref C) "__class__" = some (some (.builtin "object.__class__"))) (hn : specialIn K (.builtin "object.__class__") "__get__" = some (some (.builtin "getset_descriptor.__get__"))) (ht : takesIn K (.builtin "object.__class__") = some true) (hm : mroIn K C (.type "object") = some true) :
    ErrC K mg x C := ⟨mg_of X G aC, ⟨⟨nm, q, N, bs, bm, sn, sub, ab, col, dd, m0, m1, m2, m3, m5, xL, rb⟩, sa, eC, tC, kC⟩, ⟨ga, gg, eC, hC⟩, ⟨ga, gg, eC, hC, ha, hn, ht, hm⟩⟩
theorem errI_mk {od an : Option Addr} {sl : Array (Option Value)} {oc kV dc pm cd ct : Value} (T : ErrC K mg x C) (b : ∀ (kV doc pm : Value) (an : Option Addr) (cdv ct : Value) (us : List Value), us.length = ps.length → bindArgs (fnOf "__init__" qual (L2.defArgs st) (L2.defBody st) (L2.defScope st) .none kV doc pm an cdv ct) ⟨us, []⟩ = pure (ps.zip us))
    (a : findIn K (.ref C) "__init__" = some (some (.ref f))) (t : typeIn K (.ref f) = some (.type "function"))
    (l : K.lookup f = some ⟨oc, od, .func (fnOf "__init__" qual (L2.defArgs st) (L2.defBody st) (L2.defScope st) .none kV dc pm an cd ct), sl⟩) (c : codeIn K cd qual = true) (k : keepIn K (.ref f) = true) : ErrI K mg x qual C st ps := by
  have F := L2.fun_mk (st := st) l c k
  exact ⟨T, f, _, a, t, F, F.binds b⟩
end
end BR

namespace BR
open PySem PySem.Spec PyProof.Rows L2
/-! ### displays over what is known; sources of draws -/
section
variable {X : Cx} {σ : L2.St} {H : Hp} {Q : VK} {es : List Expr} {pos : Pos}
theorem eTupD (R : Rp) (S : Reg) (ds : List D) {k} (h : wA X es σ H fun xs H1 => Live S H1 ∧ IsA R S H1 xs ds ∧ ∀ v H2, Same H1 H2 → Is R S H2 v (.tup ds) → Q v H2) (hl : ds.length ≤ 1000 := by first | decide | simp) : wE X (.Tuple es k pos) σ H Q :=
  eTup <| h.mono fun vs H1 ⟨l, a, q⟩ => ⟨Nat.le_of_lt (small1000 (by rw [a.len]; exact hl)), fun t ht => q _ _ (same_new ht) (Is.newT l ht a)⟩
theorem eLstD (R : Rp) (S : Reg) (ds : List D) (h : wA X es σ H fun xs H1 => Live S H1 ∧ IsA R S H1 xs ds ∧ ∀ v H2, Same H1 H2 → Is R S H2 v (.lst ds) → Q v H2) (hl : ds.length ≤ 1000 := by first | decide | simp) : wE X (.List es pos) σ H Q :=
  eLst <| h.mono fun vs H1 ⟨l, a, q⟩ => ⟨Nat.le_of_lt (small1000 (by rw [a.len]; exact hl)), fun t ht => q _ _ (same_new ht) (Is.newL l ht a)⟩
end
def SrcAt (H : Hp) (s : Addr) : Prop := ∃ (a : Int) (b : Fin 4294967296) (c : Int), H s = some (.lst [.int a, .int (b.val : Nat), .int c])
abbrev Src (s : Addr) : Reg := fun a => a = s
structure Dr (s : Addr) (H H' : Hp) : Prop where
  kp : Kp (Src s) H H'
  src : SrcAt H' s
section
variable {s : Addr} {H H' H2 : Hp} {R : Rp}
theorem Dr.refl (h : SrcAt H s) : Dr s H H := ⟨Kp.refl _ _, h⟩
theorem Dr.trans (a : Dr s H H') (b : Dr s H' H2) : Dr s H H2 := ⟨a.kp.trans b.kp, b.src⟩
theorem SrcAt.up (h : SrcAt H s) (k : Same H H') : SrcAt H' s := by
  obtain ⟨a, b, c, e⟩ := h
  exact ⟨a, b, c, k _ _ e⟩
theorem SrcAt.live (h : SrcAt H s) : Live (Src s) H := fun a e z => by
  obtain ⟨_, _, _, q⟩ := h
  rw [show a = s from e] at z
  rw [z] at q
  cases q
theorem Dr.same (h : SrcAt H s) (k : Same H H') : Dr s H H' := ⟨Kp.of k, h.up k⟩
theorem Dr.then (a : Dr s H H') (k : Same H' H2) : Dr s H H2 := a.trans (Dr.same a.src k)
theorem Dr.live (a : Dr s H H') : Live (Src s) H' := a.src.live
theorem Is.dr {v : V} {d : D} (h : Is R (Src s) H v d) (k : Dr s H H') : Is R (Src s) H' v d := h.go k.kp
theorem IsA.dr {v : List V} {d : List D} (h : IsA R (Src s) H v d) (k : Dr s H H') : IsA R (Src s) H' v d := h.go k.kp
theorem Dr.upd (h : SrcAt H s) (a : Int) (b : Fin 4294967296) (c : Int) : Dr s H (upd H s (.lst [.int a, .int (b.val : Nat), .int c])) := ⟨fun x o n e => by rw [upd_ne n]; exact e, a, b, c, upd_same⟩
end
def spSource : Sp := fun vs H Q _ => ∃ n : Int, vs = [.int n] ∧ ∀ s H', Same H H' → H s = none → SrcAt H' s → Q (.ref s) H'
def spDraw : Sp := fun vs H Q _ => ∃ s n, vs = [.ref s, .int n] ∧ SrcAt H s ∧ 0 < n ∧ n.natAbs.log2 < 9000 ∧ ∀ r H', Dr s H H' → 0 ≤ r → r < n → Q (.int r) H'
def spPick (R : Rp) : Sp := fun vs H Q _ => ∃ (s : Addr) (l : V) (ds : List D), vs = [.ref s, l] ∧ SrcAt H s ∧ Is R (Src s) H l (.lst ds) ∧ 0 < ds.length ∧ ds.length ≤ 1000 ∧ ∀ (i : Nat) (d : D) x H', Dr s H H' → ds[i]? = some d → Is R (Src s) H' x d → Q x H'
end BR
namespace BR
open PySem PySem.Spec PyProof.Rows L2
section
variable {R : Rp} {S T : Reg} {H H' : Hp}
mutual
theorem Is.reg (k : ∀ a, S a → T a) : ∀ {v : V} {d : D}, Is R T H v d → Is R S H v d
  | _, _, .non => .non
  | _, _, .bl b => .bl b
  | _, _, .int i => .int i
  | _, _, .str x => .str x
  | _, _, .tup n e h => .tup (fun z => n (k _ z)) e (IsA.reg k h)
  | _, _, .tupK e h => .tupK e (IsA.reg k h)
  | _, _, .lst n e h => .lst (fun z => n (k _ z)) e (IsA.reg k h)
  | _, _, .obj n e h => .obj (fun z => n (k _ z)) e (IsF.reg k h)
theorem IsA.reg (k : ∀ a, S a → T a) : ∀ {v : List V} {d : List D}, IsA R T H v d → IsA R S H v d
  | _, _, .nil => .nil
  | _, _, .cons a b => .cons (Is.reg k a) (IsA.reg k b)
theorem IsF.reg (k : ∀ a, S a → T a) : ∀ {v : List (Str × V)} {d : List (Str × D)}, IsF R T H v d → IsF R S H v d
  | _, _, .nil => .nil
  | _, _, .cons a b => .cons (Is.reg k a) (IsF.reg k b)
end
mutual
/-- a new region's objects were not there -/
theorem Is.regN (k : ∀ a, T a → S a ∨ H a = none) : ∀ {v : V} {d : D}, Is R S H v d → Is R T H v d
  | _, _, .non => .non
  | _, _, .bl b => .bl b
  | _, _, .int i => .int i
  | _, _, .str x => .str x
  | _, _, .tup n e h => .tup (fun z => (k _ z).elim n (fun y => by rw [y] at e; cases e)) e (IsA.regN k h)
  | _, _, .tupK e h => .tupK e (IsA.regN k h)
  | _, _, .lst n e h => .lst (fun z => (k _ z).elim n (fun y => by rw [y] at e; cases e)) e (IsA.regN k h)
  | _, _, .obj n e h => .obj (fun z => (k _ z).elim n (fun y => by rw [y] at e; cases e)) e (IsF.regN k h)
theorem IsA.regN (k : ∀ a, T a → S a ∨ H a = none) : ∀ {v : List V} {d : List D}, IsA R S H v d → IsA R T H v d
  | _, _, .nil => .nil
  | _, _, .cons a b => .cons (Is.regN k a) (IsA.regN k b)
theorem IsF.regN (k : ∀ a, T a → S a ∨ H a = none) : ∀ {v : List (Str × V)} {d : List (Str × D)}, IsF R S H v d → IsF R T H v d
  | _, _, .nil => .nil
  | _, _, .cons a b => .cons (Is.regN k a) (IsF.regN k b)
end
/-- list(xs), tuple(xs) -/
def rListO (K : PySem.W.Frag) : List V → Hp → VK → Prop := fun xs H Q => ∃ p ys, xs = [.ref p] ∧ (SqL K H p ys ∨ SqT K H p ys) ∧ ∀ l, H l = none → Q (.ref l) (upd H l (.lst ys))
theorem listOf {d : D} {ds : List D} {v : V} {Q : VK} (h : Is R S H v d) (hi : d.items = some ds) (l : Live S H) (q : ∀ v' H', Same H H' → Is R S H' v' (.lst ds) → Q v' H') : rListO R.K [v] H Q := by
  cases d with
  | tup x =>
    cases hi
    obtain ⟨a, xs, rfl, hs, ha⟩ := h.tupE
    exact ⟨a, xs, rfl, .inr hs, fun p hp => q _ _ (same_new hp) (Is.newL l hp ha)⟩
  | lst x =>
    cases hi
    obtain ⟨a, xs, rfl, _, hs, ha⟩ := h.lstE
    exact ⟨a, xs, rfl, .inl (SqL.of hs), fun p hp => q _ _ (same_new hp) (Is.newL l hp ha)⟩
  | _ => cases hi
def rTupO (K : PySem.W.Frag) : List V → Hp → VK → Prop := fun xs H Q => ∃ p ys, xs = [.ref p] ∧ ((SqL K H p ys ∧ ∀ l, H l = none → Q (.ref l) (upd H l (.tup ys))) ∨ (SqT K H p ys ∧ Q (.ref p) H))
theorem tupOf {d : D} {ds : List D} {v : V} {Q : VK} (h : Is R S H v d) (hi : d.items = some ds) (l : Live S H) (q : ∀ v' H', Same H H' → Is R S H' v' (.tup ds) → Q v' H') : rTupO R.K [v] H Q := by
  cases d with
  | tup x =>
    cases hi
    obtain ⟨a, xs, e, hs, ha⟩ := id h.tupE
    subst e
    exact ⟨a, xs, rfl, .inr ⟨hs, q _ _ (Same.refl _) h⟩⟩
  | lst x =>
    cases hi
    obtain ⟨a, xs, rfl, _, hs, ha⟩ := h.lstE
    exact ⟨a, xs, rfl, .inl ⟨SqL.of hs, fun p hp => q _ _ (same_new hp) (Is.newT l hp ha)⟩⟩
  | _ => cases hi
end
section
variable {X : Cx} {σ : L2.St} {H : Hp}
end
end BR
namespace BR
open PySem PySem.Spec PyProof.Rows L2
/-! ### a comprehension over what is known -/
/-- what a comprehension's list, being filled, leaves of the heap before it -/
structure Fills (Fin : Hp → Prop) (Gr : Hp → Hp → Prop) (T : Reg) (L : Addr) (H1 : Hp) : Prop where
  start : Fin (upd H1 L (.lst []))
  grow : ∀ {H H'}, Fin H → Gr H H' → Fin H'
  app : ∀ {H xs}, Fin H → Fin (upd H L (.lst xs))
  kp : ∀ {H H'}, Fin H → Gr H H' → Kp T H H'
  at_ : ∀ {H H' o}, Fin H → Gr H H' → H L = some o → H' L = some o
  inT : T L
section
variable {X : Cx} {σ : L2.St} {R : Rp} {T : Reg} {Fin : Hp → Prop} {Gr : Hp → Hp → Prop} {L : Addr} {H1 : Hp} {J : It} {n : Nat} {G : Hp → Prop} {Y : Nat → Hp → V → Hp → Prop} {sc : Scope} {elt tg : Expr} {own : List (Str × Nat)} {Q : Hp → Prop}
theorem lcG (wk : Walk J n G Y) (es : List D) (hn : es.length = n) (h9 : n ≤ 1000) (F : Fills Fin Gr T L H1) (hG : ∀ H, Fin H → G H)
    (st : ∀ i e x H H', es[i]? = some e → Fin H → Y i H x H' → (H' L ≠ none → kG X sc tg x (wipe σ (own.map (·.2))) H' fun σ2 H2 => wipe σ2 (own.map (·.2)) = wipe σ (own.map (·.2)) ∧ H2 = H' ∧ kE X sc elt σ2 H2 fun y H4 => Gr H' H4 ∧ Is R T H4 y e) ∧ Gr H H')
    (hd : ∀ H xs, Fin H → H L = some (.lst xs) → IsA R T H xs es → Q H) :
    ∃ n G Y, Walk J n G Y ∧ ∃ Pv : Nat → Hp → Prop, Pv 0 (upd H1 L (.lst [])) ∧ (∀ i H, i ≤ n → Pv i H → G H) ∧
      (∀ i x H H', i < n → Pv i H → Y i H x H' → kG X sc tg x (wipe σ (own.map (·.2))) H' fun σ2 H2 => wipe σ2 (own.map (·.2)) = wipe σ (own.map (·.2)) ∧
        kT X sc [] σ2 H2 fun k H3 => if k = true then kE X sc elt σ2 H3 fun y H4 => ∃ acc, H4 L = some (.lst acc) ∧ acc.length < sizeLine ∧ Pv (i + 1) (upd H4 L (.lst (acc ++ [y]))) else Pv (i + 1) H3) ∧
      ∀ H, Pv n H → Q H := by
  refine ⟨n, G, Y, wk, fun i H => Fin H ∧ ∃ acc, H L = some (.lst acc) ∧ IsA R T H acc (es.take i), ⟨F.start, [], upd_same, .nil⟩, fun i H _ p => hG H p.1, ?_, ?_⟩
  · rintro i x H H' hi ⟨hF, acc, hL, ia⟩ y
    have he : es[i]? = some es[i] := List.getElem?_eq_getElem (by omega)
    obtain ⟨go, gr⟩ := st i _ x H H' he hF y
    have hF' := F.grow hF gr
    have hL' := F.at_ hF gr hL
    have g := go (by rw [hL']; exact fun z => by cases z)
    intro s0 H0 C cl fp
    refine ⟨fun pins s u I r => thn ((g s0 H0 C cl fp).r pins s u I r) fun _ s' ⟨σ', H2, I', e1, e2, k⟩ => ⟨σ', H2, I', e1, ?_⟩⟩
    subst e2
    refine kTnil (iteT ?_)
    intro s0 H0 C cl fp
    refine (k s0 H0 C cl fp).mono fun v H4 ⟨gr4, iv⟩ => ⟨acc, F.at_ hF' gr4 hL', ?_, F.app (F.grow hF' gr4), acc ++ [v], upd_same, ?_⟩
    · rw [ia.len, List.length_take]
      exact small1000 (by omega)
    · have kp := (F.kp hF gr).trans (F.kp hF' gr4)
      have kl : Kp T H4 (upd H4 L (.lst (acc ++ [v]))) := fun a o n e => by
        rw [upd_ne (fun z => n (by rw [z]; exact F.inT))]
        exact e
      have et : es.take (i + 1) = es.take i ++ [es[i]] := by rw [List.take_append_getElem]
      rw [et]
      exact ((ia.go kp).go kl).app (.cons (iv.go kl) .nil)
  · rintro H ⟨hF, acc, hL, ia⟩
    rw [List.take_of_length_le (by omega)] at ia
    exact hd H acc hF hL ia
end
/-- where nothing but new objects comes -/
theorem fills_same {H1 : Hp} {L : Addr} {S : Reg} (hL : H1 L = none) : Fills (fun H => Same H1 H) Same (fun a => S a ∨ a = L) L H1 where
  start := same_new hL
  grow := fun a b => a.trans b
  app := fun a b o e => by rw [upd_ne (ne_of_none e hL)]; exact a _ _ e
  kp := fun _ b => Kp.of b
  at_ := fun _ b e => b _ _ e
  inT := .inr rfl
theorem live_or {S : Reg} {H : Hp} {L : Addr} (l : Live S H) (h : H L ≠ none) : Live (fun a => S a ∨ a = L) H := fun a z => z.elim (l a) (fun e => by rw [e]; exact h)
/-- the filled list itself -/
theorem Is.filled {R : Rp} {S : Reg} {H1 H : Hp} {L : Addr} {xs : List V} {es : List D} (l : Live S H1) (hL : H1 L = none) (e : H L = some (.lst xs)) (a : IsA R (fun a => S a ∨ a = L) H xs es) : Is R S H (.ref L) (.lst es) := .lst (l.new hL) e (a.reg fun _ z => .inl z)
end BR
namespace BR
open PySem PySem.Spec PyProof.Rows L2
/-- xs + ys where the lists are only read (the script) -/
def rCatR (K : PySem.W.Frag) : R2 := fun x y H Q => ∃ l b xs zs, x = .ref l ∧ y = .ref b ∧ SqL K H l xs ∧ SqL K H b zs ∧ xs.length + zs.length ≤ sizeLine ∧ ∀ p, H p = none → Q (.ref p) (upd H p (.lst (xs ++ zs)))
theorem op_catR {X : Cx} : OpR X (binaryOp .Add) (rCatR X.K) := by
  intro pins s σ H x y v u Q I rx ry h
  obtain ⟨l, b, xs, zs, rfl, rfl, hl, hb, hz, q⟩ := h
  cases rx
  cases ry
  obtain ⟨is, r1, ⟨⟨c1, d1, t1, e1⟩, n1, o1, k1, _, m1⟩, _⟩ := I.list hl
  obtain ⟨js, r2, ⟨⟨c2, d2, t2, e2⟩, n2, o2, k2, _, m2⟩, _⟩ := I.list hb
  simp only at k1 m1 k2 m2
  subst k1 m1 k2 m2
  have l1 := r1.length
  have l2 := r2.length
  have e : is.toArray ++ js.toArray = (is ++ js).toArray := by simp
  refine concat_meets ⟨_, o1, rfl⟩ ⟨_, o2, rfl⟩ noFill_list_add seq_list_add PySem.F.slot_list_add PySem.F.entry_list_add (PySem.F.args_list_add_2 _ _) (list_addW l b is.toArray js.toArray n1 n2 d1 d2 e1 e2 (by simp; omega)) ⟨o1, o2, ?_⟩
  rw [e]
  exact ⟨.ref _, _, I.lnew (t' := s.toks) (r1.append r2) (by rw [List.length_append]; omega), rfl, q _ I.fresh⟩
theorem cut_take (xs : List V) (n : Nat) : cutV xs none (some (n : Int)) = xs.take n := by
  unfold cutV
  rw [HT.sIx_none, HT.sIx_nat, List.drop_zero, Nat.sub_zero]
  by_cases h : n ≤ xs.length
  · rw [Nat.min_eq_left h]
  · rw [Nat.min_eq_right (by omega), List.take_of_length_le (Nat.le_refl _), List.take_of_length_le (by omega)]
end BR
namespace BR
open PySem PySem.Spec PyProof.Rows L2
theorem call_listO {X : Cx} : CallR X (.type "list") (rListO X.K) := call_list_of
theorem call_tupO {X : Cx} : CallR X (.type "tuple") (rTupO X.K) := call_tuple_of
def rLenO (K : PySem.W.Frag) : List V → Hp → VK → Prop := fun xs H Q => ∃ p ys, xs = [.ref p] ∧ (SqL K H p ys ∨ SqT K H p ys) ∧ Q (.int ys.length) H
theorem call_lenO {X : Cx} : CallR X (.builtin "len") (rLenO X.K) := call_len_seq
theorem lenOf {R : Rp} {S : Reg} {H : Hp} {v : V} {d : D} {ds : List D} {Q : VK} (h : Is R S H v d) (hi : d.items = some ds) (q : Q (.int (ds.length : Int)) H) : rLenO R.K [v] H Q := by
  cases d with
  | tup x =>
    cases hi
    obtain ⟨a, xs, rfl, hs, ha⟩ := h.tupE
    exact ⟨a, xs, rfl, .inr hs, by rw [ha.len]; exact q⟩
  | lst x =>
    cases hi
    obtain ⟨a, xs, rfl, _, hs, ha⟩ := h.lstE
    exact ⟨a, xs, rfl, .inl (SqL.of hs), by rw [ha.len]; exact q⟩
  | _ => cases hi
end BR

namespace BR
open PySem PySem.Spec PyProof.Rows L2

theorem log2_small {i : Int} {n : Nat} (h : i.natAbs < 2 ^ n) (h0 : 0 < i.natAbs) : i.natAbs.log2 < n := (Nat.log2_lt (by omega)).mpr h
def spGcd : Sp := fun vs H Q _ => ∃ a b : Int, vs = [.int a, .int b] ∧ 0 < b ∧ Q (.int (Int.gcd a b : Int)) H
/-- a fraction as it is passed: a list or a tuple -/
def IsP (R : Rp) (S : Reg) (H : Hp) (v : V) (p q : Int) : Prop := Is R S H v (.tup [.int p, .int q]) ∨ Is R S H v (.lst [.int p, .int q])
theorem IsP.up {R : Rp} {S : Reg} {H H' : Hp} {v : V} {p q : Int} (h : IsP R S H v p q) (s : Same H H') : IsP R S H' v p q := by
  rcases h with h | h
  · exact .inl (h.up s)
  · exact .inr (h.up s)
theorem ixP {R : Rp} {S : Reg} {H : Hp} {v : V} {p q : Int} {Q : VK} {j : Int} {i : Nat} (h : IsP R S H v p q) (e : [p, q][i]? = some j) (k : Q (.int j) H) : rIx R.K v (.int (i : Nat)) H Q := by
  have ix : ([D.int p, D.int q] : List D)[i]? = some (.int j) := by
    have : ([D.int p, D.int q] : List D) = [p, q].map D.int := rfl
    rw [this, List.getElem?_map, e]
    rfl
  rcases h with h | h
  · exact ixD h rfl ix fun x hx => by cases hx; exact k
  · exact ixD h rfl ix fun x hx => by cases hx; exact k
theorem gP {R : Rp} {S : Reg} {X : Cx} {H : Hp} {σ : L2.St} {v : V} {p q : Int} {a b : Expr} {k : Nat} {pos : Pos} {Q : L2.St → Hp → Prop} (h : IsP R S H v p q) (g : wGs X [a, b] [.int p, .int q] σ H Q) (hK : X.K = R.K := by rfl) (hc : X.calm = true := by rfl)
    (hl : 2 = (assignEach [a, b] X.env).length := by rfl) (hst : (assignEach [a, b] X.env).findIdx? (·.1) = none := by rfl) : wG X (.Tuple [a, b] k pos) v σ H Q := by
  rcases h with h | h
  · obtain ⟨z, xs, rfl, hs, ha⟩ := h.tupE
    have e : xs = [V.int p, V.int q] := IsA.of_ints (is := [p, q]) ha
    subst e
    exact gT rfl (by rw [hK]; exact hs) g hl hc hst
  · obtain ⟨z, xs, rfl, _, hs, ha⟩ := h.lstE
    have e : xs = [V.int p, V.int q] := IsA.of_ints (is := [p, q]) ha
    subst e
    exact gL rfl (SqL.of hs) g hl hc hst
def spLow (R : Rp) : Sp := fun vs H Q _ => ∃ S v p q n, vs = [v] ∧ Live S H ∧ IsP R S H v p q ∧ 0 < q ∧ p.natAbs < 2 ^ n ∧ q.natAbs < 2 ^ n ∧ n ≤ 9000 ∧
  ∀ v' H', Same H H' → Is R S H' v' (frac (mkQ p q)) → Sz n (mkQ p q) → Q v' H'
def spErr2 (f g : Str) (C : Addr) : Sp := fun vs H Q _ => ∃ a v w, vs = [.ref a, v, w] ∧ H a = some (exo a C none) ∧ ∀ dx, H dx = none → dx ≠ a → Q .non (upd (upd (upd H dx (exd dx [(f, v)])) a (exo a C (some dx))) dx (exd dx [(g, w), (f, v)]))
/-- an error of the class at C has come, with its two fields -/
def Gone (f g : Str) (C : Addr) (H : Hp) (v w : V) (E : XK) : Prop := ∀ d H', Same H H' → H d = none → H' d = some (.xd [(g, w), (f, v)]) → E (.ref C) (some d) H'
def dueF (p q : Int) : Option (Str × Int) := if q < 1 then some ("bottom", q) else if ¬ (-1000000 ≤ p ∧ p ≤ 1000000) then some ("number", p) else if ¬ (-1000000 ≤ q ∧ q ≤ 1000000) then some ("number", q) else none
def spChk (R : Rp) (C : Addr) : Sp := fun vs H Q E => ∃ S v p q, vs = [v] ∧ Live S H ∧ IsP R S H v p q ∧ (∀ t n, dueF p q = some (t, n) → Gone "what" "count" C H (.str t) (.int n) E) ∧ (dueF p q = none → ∀ H', Same H H' → Q .non H')

def gateD (m b : Rat) : D := .obj "Gate" [("factor", frac m), ("amount", frac b)]
def dueG (p q a b : Int) : Option (Str × Int) := (dueF p q).or ((dueF a b).or (if p < 1 then some ("factor", p) else none))
def spGate (R : Rp) (CE : Addr) : Sp := fun vs H Q E => ∃ S H0 n dx x y p q a b, vs = [.ref n, x, y] ∧ Same H0 H ∧ H0 n = none ∧ H n = some (.ins (R.CA "Gate") dx []) ∧ Live S H0 ∧ IsP R S H0 x p q ∧ IsP R S H0 y a b ∧
  (∀ t k, dueG p q a b = some (t, k) → Gone "what" "count" CE H0 (.str t) (.int k) E) ∧
  (dueG p q a b = none → ∀ H', Same H0 H' → Is R S H' (.ref n) (gateD (mkQ p q) (mkQ a b)) → Sz 20 (mkQ p q) → Sz 20 (mkQ a b) → 0 < mkQ p q → Q .non H')
theorem dueF_none {p q : Int} (h : dueF p q = none) : 1 ≤ q ∧ -1000000 ≤ p ∧ p ≤ 1000000 ∧ q ≤ 1000000 := by
  unfold dueF at h
  split at h
  · cases h
  · split at h
    · cases h
    · split at h
      · cases h
      · omega
theorem mkQ_pos {p q : Int} (h : 0 < p) (k : 0 < q) : 0 < mkQ p q := by
  rw [Rat.lt_iff, mkQ_num k]
  have g := gcd_pos (p := p) k
  have d : (Int.gcd p q : Int) ∣ p := Int.gcd_dvd_left p q
  have : 0 < p / (Int.gcd p q : Int) := Int.ediv_pos_of_pos_of_dvd h (by omega) d
  simpa using this
theorem Gone.same {f g : Str} {C : Addr} {H H' : Hp} {v w : V} {E : XK} (h : Gone f g C H v w E) (s : Same H H') : Gone f g C H' v w E := fun d H2 s2 hd he => h d H2 (s.trans s2) (s.free hd) he
section
/-- what is left of the heap when the error has been made -/
theorem gone_of {H : Hp} {C a d : Addr} {f g : Str} {v u : V} (ha : H a = none) (hd : upd H a (exo a C none) d = none) (hne : d ≠ a) :
    let H2 := upd (upd (upd (upd H a (exo a C none)) d (exd d [(f, v)])) a (exo a C (some d))) d (exd d [(g, u), (f, v)])
    H2 a = some (exo a C (some d)) ∧ H2 d = some (exd d [(g, u), (f, v)]) ∧ H d = none ∧ Same H (upd (del H2 a) d (.xd [(g, u), (f, v)])) := by
  rw [upd_ne hne] at hd
  refine ⟨by rw [upd_ne hne.symm, upd_same], upd_same, hd, fun b o e => ?_⟩
  have n1 := ne_of_none e ha
  have n2 := ne_of_none e hd
  rw [upd_ne n2, del_ne n1, upd_ne n2, upd_ne n1, upd_ne n2, upd_ne n1]
  exact e
/-- raise C(f, g) where the error's wish is known -/
theorem raise2 {X : Cx} {σ : L2.St} {H : Hp} {x : Str} {C : Addr} {f g : Str} {ps : List Str} {j : Nat} {W : WX} {D : Ends} {e1 e2 : Expr} {p pos p2 : Pos} (G : ErrG X.prog X.w X.K X.mg X.base 1 x C ps (spErr2 f g C)) (hr : Room j X.A) (tk : Takes X W)
    (h : wA X [e1, e2] σ H fun vs H1 => ∃ v u, vs = [v, u] ∧ Gone f g C H1 v u (fun c d H' => W c d σ H')) (hk : 2 ≤ j := by decide)
    (hg : Gl X x := by rfl) (hdb : (x == ("__debug__" : Str)) = false := by decide) (he : starEach (e1 :: [e2]) X.env = (false, eval e1 X.env) :: starEach [e2] X.env := by rfl) (hpl : (backTo pos (starEach [e2] X.env)).any (·.1) = false := by rfl) (hc : X.calm = true := by rfl) :
    wS X (.Raise (some (.Call (.Name x p) [e1, e2] [] pos)) none p2) D σ H :=
  sRaiseI G hr tk (h.mono fun vs H1 ⟨v, u, ev, q⟩ => ⟨by rw [ev]; show 2 ≤ 1000; decide, fun a ha => ⟨a, v, u, by rw [ev], upd_same, fun dx hd hne => by
    obtain ⟨z1, z2, z3, z4⟩ := gone_of (f := f) (g := g) (v := v) (u := u) ha hd hne
    exact ⟨rfl, dx, _, z1, z2, z3, q dx _ z4 z3 upd_same⟩⟩⟩) hk hg hdb he hpl hc
end
/-! ### a fraction by its value and its size -/
/-- v is a fraction, a list or a tuple, of the value r; its numbers lie below 2 ^ n -/
structure Fr (R : Rp) (S : Reg) (H : Hp) (v : V) (n : Nat) (r : Rat) : Prop where
  ex : ∃ a b : Int, IsP R S H v a b ∧ 0 < b ∧ a.natAbs < 2 ^ n ∧ b.natAbs < 2 ^ n ∧ mkQ a b = r ∧ 0 < n
theorem Fr.up {R : Rp} {S : Reg} {H H' : Hp} {v : V} {n : Nat} {r : Rat} (h : Fr R S H v n r) (s : Same H H') : Fr R S H' v n r := by
  obtain ⟨a, b, p, q⟩ := h.ex
  exact ⟨a, b, p.up s, q⟩
theorem IsP.go {R : Rp} {S : Reg} {H H' : Hp} {v : V} {p q : Int} (h : IsP R S H v p q) (s : Kp S H H') : IsP R S H' v p q := by
  rcases h with h | h
  · exact .inl (h.go s)
  · exact .inr (h.go s)
theorem Fr.go {R : Rp} {S : Reg} {H H' : Hp} {v : V} {n : Nat} {r : Rat} (h : Fr R S H v n r) (s : Kp S H H') : Fr R S H' v n r := by
  obtain ⟨a, b, p, q⟩ := h.ex
  exact ⟨a, b, p.go s, q⟩
theorem Fr.of {R : Rp} {S : Reg} {H : Hp} {v : V} {n : Nat} {r : Rat} (h : Is R S H v (frac r)) (z : Sz n r) (h0 : 0 < n := by omega) : Fr R S H v n r := by
  refine ⟨_, _, .inl h, den_pos r, z.num, ?_, mkQ_self r, h0⟩
  have := z.den
  omega
abbrev C0 : Rat → Rat → Prop := fun _ _ => True
/-- two ints into a fraction -/
def spLow2 (R : Rp) : Sp := fun vs H Q _ => ∃ S a b n, vs = [.int a, .int b] ∧ Live S H ∧ 0 < b ∧ a.natAbs < 2 ^ n ∧ b.natAbs < 2 ^ n ∧ n ≤ 9000 ∧ ∀ v' H', Same H H' → Is R S H' v' (frac (mkQ a b)) → Sz n (mkQ a b) → Q v' H'
theorem mulW {i j : Int} {a b : Nat} (ha : i.natAbs < 2 ^ a) (hb : j.natAbs < 2 ^ b) (h0 : 0 < a) (h1 : 0 < b) (h : a + b ≤ 9000) : CMulW i j := wide_mul ha hb h0 h1 (by omega)
theorem mkQ_div {a b c d : Int} (h : 0 < b) (k : 0 < d) (hc : 0 < c) : mkQ (a * d) (b * c) = mkQ a b / mkQ c d := by
  have e : mkQ a b / mkQ c d = mkQ a b * mkQ d c := by
    rw [Rat.div_def]
    congr 1
    unfold mkQ
    rw [Rat.inv_divInt]
  rw [e, ← mkQ_mul]
theorem mkQ_zero {a b : Int} (h : 0 < b) : mkQ a b = 0 ↔ a = 0 := by
  have e : (0 : Rat) = mkQ 0 1 := by decide +kernel
  rw [e, mkQ_inj h (by decide)]
  omega
/-! ### gates and lines as objects -/
def faD (c : Str) (m b : Rat) : D := .obj c [("factor", frac m), ("amount", frac b)]
/-- the fields of the class are plain -/
structure FAok (R : Rp) (c : Str) : Prop where
  cl : Cls R.K (R.CA c)
  n1 : NoAttr R.K (R.CA c) "factor"
  n2 : NoAttr R.K (R.CA c) "amount"
theorem fldD {R : Rp} {S : Reg} {H : Hp} {x : V} {c : Str} {ds : List (Str × D)} {f : Str} {d : D} {Q : VK} (h : Is R S H x (.obj c ds)) (hc : Cls R.K (R.CA c)) (hn : NoAttr R.K (R.CA c) f) (hd : ds.lookup f = some d) (q : ∀ v, Is R S H v d → Q v H) :
    rFld R.K f x H Q := by
  cases h with
  | obj n e hf =>
    obtain ⟨v, l, i⟩ := hf.look hd
    exact ⟨_, _, _, _, v, rfl, e, hc, hn, l, q v i⟩
theorem fldF {R : Rp} {S : Reg} {H : Hp} {x : V} {c : Str} {m b : Rat} {Q : VK} (h : Is R S H x (faD c m b)) (hc : FAok R c) (q : ∀ v, Is R S H v (frac m) → Q v H) :
    rFld R.K "factor" x H Q := fldD h hc.cl hc.n1 lk0 q
theorem fldM {R : Rp} {S : Reg} {H : Hp} {x : V} {c : Str} {m b : Rat} {Q : VK} (h : Is R S H x (faD c m b)) (hc : FAok R c) (q : ∀ v, Is R S H v (frac b) → Q v H) :
    rFld R.K "amount" x H Q := fldD (f := ("amount" : Str)) h hc.cl hc.n2 ((lk1 (g := ("factor" : Str)) (f := ("amount" : Str)) (by decide +kernel)).trans lk0) q
def spLine (R : Rp) : Sp := fun vs H Q _ => ∃ S H0 n dx x y i j r t, vs = [.ref n, x, y] ∧ Same H0 H ∧ H0 n = none ∧ H n = some (.ins (R.CA "Line") dx []) ∧ Live S H0 ∧ Fr R S H0 x i r ∧ Fr R S H0 y j t ∧ i ≤ 9000 ∧ j ≤ 9000 ∧
  ∀ H', Same H0 H' → Is R S H' (.ref n) (faD "Line" r t) → Sz i r → Sz j t → Q .non H'
theorem sz_one : Sz 1 (1 : Rat) := ⟨by decide, by decide⟩
theorem sz_zero : Sz 1 (0 : Rat) := ⟨by decide, by decide⟩
section
variable {X : Cx} {σ : L2.St} {H : Hp} {Q : VK} {R : Rp} {j : Nat} {W : WX} {e : Expr} {es : List Expr} {p1 pos : Pos} {CE : Addr}
theorem same_made {n d C : Addr} (hn : H n = none) (hd : H d = none) : Same H (upd (upd H d (.own n)) n (.ins C d [])) := fun b o e => by
  rw [upd_ne (ne_of_none e hn), upd_ne (ne_of_none e hd)]
  exact e
/-- Gate(..) of good numbers -/
theorem eGate (G : MakeG X.prog X.w X.K X.mg X.base 4 "Gate" (R.CA "Gate") ["self", "factor", "amount"] (spGate R CE)) (hr : Room j X.A) (tk : Takes X W)
    (h : wA X (e :: es) σ H fun vs H1 => ∃ S x y p q a b, vs = [x, y] ∧ Live S H1 ∧ IsP R S H1 x p q ∧ IsP R S H1 y a b ∧ dueG p q a b = none ∧ ∀ v H', Same H1 H' → Is R S H' v (faD "Gate" (mkQ p q) (mkQ a b)) → Sz 20 (mkQ p q) → Sz 20 (mkQ a b) → 0 < mkQ p q → Q v H') (hk : 5 ≤ j := by decide)
    (hg : Gl X "Gate" := by rfl) (he : starEach (e :: es) X.env = (false, eval e X.env) :: starEach es X.env := by rfl) (hpl : (backTo pos (starEach es X.env)).any (·.1) = false := by rfl) : wE X (.Call (.Name "Gate" p1) (e :: es) [] pos) σ H Q :=
  eMake G hr tk (h.mono fun vs H1 ⟨S, x, y, p, q, a, b, ev, l, hx, hy, due, k⟩ => fun n d hn hd hne => ⟨S, H1, n, d, x, y, p, q, a, b, by rw [ev], same_made hn hd, hn, upd_same, l, hx, hy, (fun t z ez => by rw [due] at ez; cases ez), fun _ H' s i z1 z2 z3 => ⟨rfl, k _ _ s i z1 z2 z3⟩⟩) hk hg (by decide) he hpl
theorem eLine (G : MakeG X.prog X.w X.K X.mg X.base 3 "Line" (R.CA "Line") ["self", "factor", "amount"] (spLine R)) (hr : Room j X.A) (tk : Takes X W)
    (h : wA X (e :: es) σ H fun vs H1 => ∃ S x y n m r t, vs = [x, y] ∧ Live S H1 ∧ Fr R S H1 x n r ∧ Fr R S H1 y m t ∧ n ≤ 9000 ∧ m ≤ 9000 ∧ ∀ v H', Same H1 H' → Is R S H' v (faD "Line" r t) → Sz n r → Sz m t → Q v H') (hk : 4 ≤ j := by decide)
    (hg : Gl X "Line" := by rfl) (he : starEach (e :: es) X.env = (false, eval e X.env) :: starEach es X.env := by rfl) (hpl : (backTo pos (starEach es X.env)).any (·.1) = false := by rfl) : wE X (.Call (.Name "Line" p1) (e :: es) [] pos) σ H Q :=
  eMake G hr tk (h.mono fun vs H1 ⟨S, x, y, n', m', r, t, ev, l, hx, hy, n9, m9, k⟩ => fun n d hn hd hne => ⟨S, H1, n, d, x, y, n', m', r, t, by rw [ev], same_made hn hd, hn, upd_same, l, hx, hy, n9, m9, fun H' s i z1 z2 => ⟨rfl, k _ _ s i z1 z2⟩⟩) hk hg (by decide) he hpl
end
theorem dueG_ok {p q a b : Int} (p1 : 1 ≤ p) (p2 : p ≤ 1000000) (q1 : 1 ≤ q) (q2 : q ≤ 1000000) (a1 : -1000000 ≤ a) (a2 : a ≤ 1000000) (b1 : 1 ≤ b) (b2 : b ≤ 1000000) : dueG p q a b = none := by
  unfold dueG dueF
  rw [if_neg (by omega), if_neg (by omega), if_neg (by omega), if_neg (by omega), if_neg (by omega), if_neg (by omega), if_neg (by omega)]
  rfl
/-! ### the turns of a law over the script's cells -/
section
variable {X : Cx} {σ : L2.St} {H : Hp} {D : Ends}
end
end BR

namespace BR
open PySem PySem.Spec PyProof.Rows L2
/-! ### lists and tuples walked, sets of ints, orders -/
section
variable {X : Cx} {σ : L2.St} {H : Hp} {R : Rp} {tg e : Expr} {T : It → Hp → Prop}
/-- the iterator, just made behind all that is there -/
theorem it_new {pins : List (Addr × Obj)} {s : Shared} {J : It} {tn : Nat → Heap → Prop} {ob : Obj} (I : Inv X pins σ H s) (t : Turn X.prog X.w X.K tg J [s.heap.objs.size] s.heap.objs.size tn)
    (z : tn 0 (s.heap.push ob)) (q : T J H) : PIE X pins σ tg T (.ref s.heap.objs.size) { s with heap := s.heap.push ob } := by
  refine ⟨_, _, _, J, H, rfl, ?_, t, z, ?_, q⟩
  · exact I.kept (t' := s.toks) fun _ _ k => Heap.get?_push_of_some _ k
  · intro b hb
    cases List.mem_singleton.mp hb
    exact I.fpOk (Nat.le_refl _) (I.hok.fresh (Nat.le_refl _))
theorem it_any {pins : List (Addr × Obj)} {s : Shared} {a : Addr} {xs : List V} (I : Inv X pins σ H s) (h : (SqL X.K H a xs ∧ T (Itl X.K a) H) ∨ (SqT X.K H a xs ∧ T (Itt X.K a) H)) :
    wpAny (model X.prog X.w) X.A (pyIter (.ref a)) (PIE X pins σ tg T) X.xe s := by
  rcases h with ⟨hs, q⟩ | ⟨hs, q⟩
  · obtain ⟨_, _, hp, _⟩ := I.list hs
    exact wpAny_pyIter_list hp.isList (it_new I (turn_list a _) ⟨_, Heap.get?_push_size _ rfl, rfl, rfl⟩ q)
  · obtain ⟨_, _, hp, _⟩ := I.tuple hs
    exact wpAny_pyIter_tuple hp (it_new I (turn_tuple a _) ⟨_, Heap.get?_push_size _ rfl, rfl, rfl⟩ q)
/-- what is walked is a list or a tuple; all but S is kept -/
theorem iW (hK : X.K = R.K) (h : wE X e σ H fun x H1 => ∃ S d ds, Is R S H1 x d ∧ d.items = some ds ∧ ∀ J xs, IsA R S H1 xs ds → Walk J xs.length (fun H' => Kp S H1 H') (YAt xs) → T J H1) : wI X tg e σ H T := by
  refine ⟨fun pins s I => thn (h.r pins s I) fun u s1 ⟨x, H1, I1, rx, S, d, ds, hi, hd, q⟩ => ?_⟩
  have fin : ∀ {a : Addr} {xs : List V}, (∀ H', Kp S H1 H' → SqT X.K H' a xs) → IsA R S H1 xs ds → wpAny (model X.prog X.w) X.A (pyIter (.ref a)) (PIE X pins σ tg T) X.xe s1 := fun up ha =>
    it_any I1 (.inr ⟨up _ (Kp.refl _ _), q _ _ ha ⟨fun i H' hi k => walk_tup.goes i H' hi (up H' k), fun H' k => walk_tup.stops H' (up H' k), fun i H' x H2 hi k y => walk_tup.yields i H' x H2 hi (up H' k) y⟩⟩)
  cases d with
  | tup l =>
    cases hd
    cases hi with
    | tup n e ha =>
      cases rx
      exact fin (fun H' k => SqT.of (k _ _ n e)) ha
    | tupK e ha =>
      cases rx
      exact fin (fun H' k => by rw [hK]; exact e.sq) ha
  | lst l =>
    cases hd
    obtain ⟨a, xs, rfl, n, hs, ha⟩ := id hi.lstE
    cases rx
    have up : ∀ H', Kp S H1 H' → SqL X.K H' a xs := fun H' k => SqL.of (k _ _ n hs)
    exact it_any I1 (.inl ⟨SqL.of hs, q _ _ ha ⟨fun i H' hi k => walk_list.goes i H' hi (up H' k), fun H' k => walk_list.stops H' (up H' k), fun i H' x H2 hi k y => walk_list.yields i H' x H2 hi (up H' k) y⟩⟩)
  | _ => cases hd
end
/-- len of a set of ints -/
def rLenS (w : World) : List V → Hp → VK → Prop := fun xs H Q => ∃ a S n, xs = [.ref a] ∧ H a = some (SetO w a S n) ∧ Q (.int (n : Nat)) H
theorem call_lenS {X : Cx} : CallR X (.builtin "len") (rLenS X.w) := by
  intro pins s σ H xs us Q I r h
  obtain ⟨a, S, n, rfl, ha, q⟩ := h
  obtain ⟨u, rfl, ru⟩ := vals1 r
  cases ru
  obtain ⟨o, es, ep, t, h1, h2, h3, _, _, _, hz, hf, hn, _⟩ := setO_get I ha
  refine PySem.call_len_set h1 h2 h3 hf ?_ ⟨.int (n : Nat), H, I.tok _, ⟨s.toks + 1, by rw [hn]⟩, q⟩
  have : scanBound ≤ 2 ^ 62 := by decide
  omega
end BR
namespace BR
open PySem PySem.Spec PyProof.Rows L2
/-- an order of n gates -/
def ordB (n : Nat) (os : List Int) : Bool := decide (os.length = n ∧ (∀ i ∈ os, 0 ≤ i ∧ i < (n : Int)) ∧ os.Nodup)
theorem ordB_iff {n : Nat} {os : List Int} : ordB n os = true ↔ os.length = n ∧ (∀ i ∈ os, 0 ≤ i ∧ i < (n : Int)) ∧ os.Nodup := by
  unfold ordB
  simp
def spIsNum : Sp := fun vs H Q _ => ∃ i, vs = [.int i] ∧ Q (.bl true) H
def spIsOrd (R : Rp) : Sp := fun vs H Q _ => ∃ S v d os n, vs = [v, .int (n : Nat)] ∧ Live S H ∧ Is R S H v d ∧ d.items = some (os.map D.int) ∧ n ≤ 1000 ∧ ∀ H', Same H H' → Q (.bl (ordB n os)) H'
def spChkO (R : Rp) : Sp := fun vs H Q _ => ∃ S v d ds u e os, vs = [v, u] ∧ Live S H ∧ Is R S H v d ∧ d.items = some ds ∧ Is R S H u e ∧ e.items = some (os.map D.int) ∧ ds.length ≤ 1000 ∧ ordB ds.length os = true ∧ ∀ H', Same H H' → Q .non H'
section
variable {X : Cx} {σ : L2.St} {H : Hp} {e o : Expr} {es : List Expr} {D : Ends} {p1 p2 pos : Pos}
/-- s.add(k) as a statement -/
theorem sAdd (h : wE X o σ H fun x H1 => (∃ a S n, x = V.ref a ∧ H1 a = some (SetO X.w a S n)) ∧ wA X (e :: es) σ H1 fun xs H2 => rSAdd X.w x xs H2 fun _ H3 => D.nx σ H3)
    (hs : swapsWith (.Call (.Attribute o "add" p1) (e :: es) [] p2) none pos.line X.env = pure false := by rfl)
    (hbase : attributeBase o "add" X.env (eval o X.env) = eval o X.env := by rfl)
    (hfew : ((backTo p2 (starEach (e :: es) X.env)).all (fun x => !x.1) && (backToKw p2 (keywordEach [] X.env)).all (fun x => x.1.isSome) && decide ((e :: es).length + ([] : List Keyword).length + (if ([] : List Keyword).isEmpty then 0 else 1) < 30)) = true := by rfl) (hline : (p1.endLine == p2.line) = true := by rfl) (hst : starEach (e :: es) X.env = (false, eval e X.env) :: starEach es X.env := by rfl) (hplain : (backTo p2 (starEach es X.env)).any (·.1) = false := by rfl) :
    wS X (.Expr (.Call (.Attribute o "add" p1) (e :: es) [] p2) pos) D σ H :=
  sExpr (uE (pe_sadd (pE o) (pA (e :: es)) hbase hfew hline hst hplain) h) hs
end
end BR
namespace BR
open PySem PySem.Spec PyProof.Rows L2
theorem same_of_kp {H H' : Hp} {p : Addr} {o : HO} (hp : H p = none) (k : Kp (fun a => a = p) (upd H p o) H') : Same H H' := fun b u e => by
  have n := ne_of_none e hp
  exact k b u n (by rw [upd_ne n]; exact e)
section
variable {X : Cx} {σ : L2.St} {H : Hp} {Q : VK} {pos p1 : Pos}
theorem eCTy0 {r : List V → Hp → VK → Prop} {x : Str} {T : String} (hc : CallR X (.type T) r) (hm : X.mg x = none) (h : r [] H Q) (hg : Gl X x := by rfl) (hv : bootBuiltins x = some (.type T) := by decide +kernel)
    (hn : x ≠ "__name__" := by decide) (hdb : (x == ("__debug__" : Str)) = false := by decide) : wE X (.Call (.Name x p1) [] [] pos) σ H Q := uE (pe_callTy0 hc hg hm hv hn hdb) h
end
end BR
namespace BR
open PySem PySem.Spec PyProof.Rows L2
/-! ### lists of gates, orders, whole passages -/
abbrev G2 := Rat × Rat
def gD (g : G2) : D := faD "Gate" g.1 g.2
structure GatesAt (R : Rp) (S : Reg) (H : Hp) (v : V) (gs : List G2) (n : Nat) : Prop where
  ex : ∃ d, Is R S H v d ∧ d.items = some (gs.map gD)
  lo : 1 ≤ gs.length
  hi : gs.length ≤ 8
  sz : ∀ g ∈ gs, Sz n g.1 ∧ Sz n g.2
  pos : ∀ g ∈ gs, 0 < g.1
  n0 : 0 < n
  n9 : n ≤ 400
structure OrdAt (R : Rp) (S : Reg) (H : Hp) (v : V) (n : Nat) (os : List Int) : Prop where
  ex : ∃ d, Is R S H v d ∧ d.items = some (os.map D.int)
  ok : ordB n os = true
section
variable {R : Rp} {S : Reg} {H H' : Hp} {v : V} {gs : List G2} {n : Nat} {os : List Int}
theorem GatesAt.go (h : GatesAt R S H v gs n) (k : Kp S H H') : GatesAt R S H' v gs n := { h with ex := h.ex.imp fun _ z => ⟨z.1.go k, z.2⟩ }
theorem GatesAt.up (h : GatesAt R S H v gs n) (k : Same H H') : GatesAt R S H' v gs n := h.go (Kp.of k)
theorem OrdAt.go (h : OrdAt R S H v n os) (k : Kp S H H') : OrdAt R S H' v n os := { h with ex := h.ex.imp fun _ z => ⟨z.1.go k, z.2⟩ }
theorem OrdAt.up (h : OrdAt R S H v n os) (k : Same H H') : OrdAt R S H' v n os := h.go (Kp.of k)
theorem OrdAt.len (h : OrdAt R S H v n os) : os.length = n := (ordB_iff.mp h.ok).1
/-- the index at a place, and its gate -/
theorem OrdAt.at_ (h : OrdAt R S H v gs.length os) {i : Nat} (hi : i < os.length) : ∃ k : Nat, os[i] = (k : Int) ∧ ∃ g, gs[k]? = some g ∧ g ∈ gs := by
  obtain ⟨h1, h2⟩ := (ordB_iff.mp h.ok).2.1 _ (List.getElem_mem hi)
  refine ⟨os[i].toNat, by omega, gs[os[i].toNat]'(by omega), List.getElem?_eq_getElem _, List.getElem_mem _⟩
end
def thr (l g : G2) : G2 := (g.1 * l.1, g.1 * l.2 + g.2)
def gAt (gs : List G2) (i : Int) : G2 := (gs[i.toNat]?).getD (1, 0)
def lineQ (gs : List G2) (os : List Int) : G2 := os.foldl (fun l i => thr l (gAt gs i)) (1, 0)
theorem lineQ_snoc (gs : List G2) (os : List Int) (i : Int) : lineQ gs (os ++ [i]) = thr (lineQ gs os) (gAt gs i) := by
  unfold lineQ
  rw [List.foldl_append]
  rfl
theorem gAt_nat {gs : List G2} {k : Nat} {g : G2} (h : gs[k]? = some g) : gAt gs (k : Int) = g := by
  unfold gAt
  rw [Int.toNat_natCast, h]
  rfl
/-- an int of a walked list -/
theorem at_int {os : List Int} {i : Nat} {x : V} (hi : i < os.length) (h : (os.map V.int)[i]? = some x) : x = V.int os[i] := by
  rw [List.getElem?_map, List.getElem?_eq_getElem hi] at h
  exact (Option.some.inj h).symm
end BR
namespace BR
open PySem PySem.Spec PyProof.Rows L2
section
variable {X : Cx} {σ : L2.St} {H : Hp} {e o : Expr} {es : List Expr} {D : Ends} {p1 p2 p3 pos tpos : Pos} {tg : Expr} {T : It → Hp → Prop} {R : Rp} {Q : VK}
/-- l.append(e) as a statement -/
theorem sApp (h : wE X o σ H fun x H1 => tyV X.K "list" x H1 ∧ wA X (e :: es) σ H1 fun xs H2 => rAppend x xs H2 fun _ H3 => D.nx σ H3)
    (hs : swapsWith (.Call (.Attribute o "append" p1) (e :: es) [] p2) none pos.line X.env = pure false := by rfl)
    (hbase : attributeBase o "append" X.env (eval o X.env) = eval o X.env := by rfl)
    (hfew : ((backTo p2 (starEach (e :: es) X.env)).all (fun x => !x.1) && (backToKw p2 (keywordEach [] X.env)).all (fun x => x.1.isSome) && decide ((e :: es).length + ([] : List Keyword).length + (if ([] : List Keyword).isEmpty then 0 else 1) < 30)) = true := by rfl) (hline : (p1.endLine == p2.line) = true := by rfl)
    (hst : starEach (e :: es) X.env = (false, eval e X.env) :: starEach es X.env := by rfl) (hplain : (backTo p2 (starEach es X.env)).any (·.1) = false := by rfl) :
    wS X (.Expr (.Call (.Attribute o "append" p1) (e :: es) [] p2) pos) D σ H :=
  sExpr (uE (pe_bm PySem.F.plainAttrs_list PySem.F.slot_list_append PySem.F.type_list_append mt_append (pE o) (pA (e :: es)) hbase hfew hline hst hplain) h) hs
theorem ty_list {K : PySem.W.Frag} {a : Addr} {xs : List V} (h : H a = some (.lst xs)) : tyV K "list" (.ref a) H := .inl ⟨rfl, xs, SqL.of h⟩
end
end BR
namespace BR
open PySem PySem.Spec PyProof.Rows L2
/-! ### arrows, turns, paths -/
def arrQ (g : G2) : G2 := (1 - g.1, g.2)
def vD (p : G2) : D := .tup [frac p.1, frac p.2]
def crossQ (p q : G2) : Rat := p.1 * q.2 - p.2 * q.1
theorem ix2 {R : Rp} {S : Reg} {H : Hp} {v : V} {p : G2} {Q : VK} (h : Is R S H v (vD p)) : (∀ q : (∀ x, Is R S H x (frac p.1) → Q x H), rIx R.K v (.int 0) H Q) ∧ (∀ q : (∀ x, Is R S H x (frac p.2) → Q x H), rIx R.K v (.int 1) H Q) :=
  ⟨fun q => ixD (i := 0) h rfl rfl q, fun q => ixD (i := 1) h rfl rfl q⟩
theorem GatesAt.regN {R : Rp} {S T : Reg} {H : Hp} {v : V} {gs : List G2} {n : Nat} (h : GatesAt R S H v gs n) (k : ∀ a, T a → S a ∨ H a = none) : GatesAt R T H v gs n := { h with ex := h.ex.imp fun _ z => ⟨z.1.regN k, z.2⟩ }
theorem OrdAt.regN {R : Rp} {S T : Reg} {H : Hp} {v : V} {n : Nat} {os : List Int} (h : OrdAt R S H v n os) (k : ∀ a, T a → S a ∨ H a = none) : OrdAt R T H v n os := { h with ex := h.ex.imp fun _ z => ⟨z.1.regN k, z.2⟩ }
end BR
namespace BR
open PySem PySem.Spec PyProof.Rows L2
theorem kp_in {S : Reg} {H : Hp} {p : Addr} {o : HO} (h : S p) : Kp S H (upd H p o) := fun a u n e => by
  rw [upd_ne (fun z => n (by rw [z]; exact h))]
  exact e
end BR
namespace BR
open PySem PySem.Spec PyProof.Rows L2
/-! ### facts of gates -/
structure F4 where
  p : Int
  q : Int
  a : Int
  b : Int
structure F4.Ok (f : F4) : Prop where
  p1 : 1 ≤ f.p
  p2 : f.p ≤ 1000000
  q1 : 1 ≤ f.q
  q2 : f.q ≤ 1000000
  a1 : -1000000 ≤ f.a
  a2 : f.a ≤ 1000000
  b1 : 1 ≤ f.b
  b2 : f.b ≤ 1000000
def fD (f : F4) : D := .tup [.tup [.int f.p, .int f.q], .tup [.int f.a, .int f.b]]
def f2 (f : F4) : G2 := (mkQ f.p f.q, mkQ f.a f.b)
structure FactsAt (R : Rp) (S : Reg) (H : Hp) (v : V) (fs : List F4) : Prop where
  ex : ∃ d, Is R S H v d ∧ d.items = some (fs.map fD)
  lo : 1 ≤ fs.length
  hi : fs.length ≤ 8
  ok : ∀ f ∈ fs, f.Ok
def spMade (R : Rp) : Sp := fun vs H Q _ => ∃ S v fs, vs = [v] ∧ Live S H ∧ FactsAt R S H v fs ∧ ∀ v' H', Same H H' → Is R S H' v' (.lst ((fs.map f2).map gD)) → GatesAt R S H' v' (fs.map f2) 20 → Q v' H'
theorem FactsAt.go {R : Rp} {S : Reg} {H H' : Hp} {v : V} {fs : List F4} (h : FactsAt R S H v fs) (k : Kp S H H') : FactsAt R S H' v fs := { h with ex := h.ex.imp fun _ z => ⟨z.1.go k, z.2⟩ }
theorem FactsAt.up {R : Rp} {S : Reg} {H H' : Hp} {v : V} {fs : List F4} (h : FactsAt R S H v fs) (k : Same H H') : FactsAt R S H' v fs := h.go (Kp.of k)
theorem F4.Ok.due {f : F4} (h : f.Ok) : dueG f.p f.q f.a f.b = none := dueG_ok h.p1 h.p2 h.q1 h.q2 h.a1 h.a2 h.b1 h.b2
theorem gates_of {R : Rp} {S : Reg} {H : Hp} {v : V} {fs : List F4} (i : Is R S H v (.lst ((fs.map f2).map gD))) (lo : 1 ≤ fs.length) (hi : fs.length ≤ 8) (ok : ∀ f ∈ fs, f.Ok) : GatesAt R S H v (fs.map f2) 20 where
  ex := ⟨_, i, rfl⟩
  lo := by rw [List.length_map]; exact lo
  hi := by rw [List.length_map]; exact hi
  sz := fun g hg => by
    obtain ⟨f, hf, rfl⟩ := List.mem_map.mp hg
    have o := ok f hf
    have e : (2 : Nat) ^ 20 = 1048576 := by decide
    have h1 := o.p1
    have h2 := o.p2
    have h3 := o.q1
    have h4 := o.q2
    have h5 := o.a1
    have h6 := o.a2
    have h7 := o.b1
    have h8 := o.b2
    exact ⟨mkQ_sz (by omega) (by omega) (by omega), mkQ_sz (by omega) (by omega) (by omega)⟩
  pos := fun g hg => by
    obtain ⟨f, hf, rfl⟩ := List.mem_map.mp hg
    have o := ok f hf
    have h1 := o.p1
    have h3 := o.q1
    exact mkQ_pos (by omega) (by omega)
  n0 := by decide
  n9 := by decide
end BR
namespace BR
open PySem PySem.Spec PyProof.Rows L2
/-! ### signs -/
/-- passing gates from a number on -/
def thrX (gs : List G2) (os : List Int) (x : Rat) : Rat := os.foldl (fun x i => (gAt gs i).1 * x + (gAt gs i).2) x
theorem thrX_snoc (gs : List G2) (os : List Int) (i : Int) (x : Rat) : thrX gs (os ++ [i]) x = (gAt gs i).1 * thrX gs os x + (gAt gs i).2 := by
  unfold thrX
  rw [List.foldl_append]
  rfl
end BR
namespace BR
open PySem PySem.Spec PyProof.Rows L2
/-! ### defs whose last parameters have defaults that no call writes -/
section
variable {X : Cx} {σ : L2.St} {H : Hp} {Q : VK} {k j : Nat} {x : Str} {ps : List Str} {dvs : List V} {sp : Sp} {W : WX} {p1 pos : Pos} {e : Expr} {es : List Expr}
end
section
variable {P : Program} {w : World} {K : PySem.W.Frag} {mg : Str → Option Value} {base : Heap} {k : Nat} {x qual : Str} {st : Stmt} {N ps : List Str} {sp : Sp} {dvs : List V}
open PySem.W in
end
end BR

namespace BR
open PySem PySem.Spec PyProof.Rows L2
/-! ### shuffles -/
section
variable {X : Cx} {σ : L2.St} {H : Hp} {e o : Expr} {es : List Expr} {p1 p2 : Pos} {Q : VK}
end
end BR
namespace BR
open PySem PySem.Spec PyProof.Rows L2
/-! ### bounded fractions -/
structure Bd (A B : Nat) (r : Rat) : Prop where
  num : r.num.natAbs ≤ A
  den : r.den ≤ B
theorem Bd.mk' {A B : Nat} {p q : Int} (h : 0 < q) (hp : p.natAbs ≤ A) (hq : q.natAbs ≤ B) : Bd A B (mkQ p q) := by
  have g := gcd_pos (p := p) h
  constructor
  · rw [mkQ_num h]
    exact Nat.le_trans (ediv_abs g) hp
  · have e := mkQ_den (p := p) h
    have l : q / (Int.gcd p q : Int) ≤ q := Int.ediv_le_self _ (by omega)
    omega
theorem Bd.mul {A B C E : Nat} {r t : Rat} (h : Bd A B r) (k : Bd C E t) : Bd (A * C) (B * E) (r * t) := by
  have e : r * t = mkQ (r.num * t.num) (r.den * t.den) := by rw [mkQ_mul, mkQ_self, mkQ_self]
  rw [e]
  refine Bd.mk' (Int.mul_pos (den_pos r) (den_pos t)) ?_ ?_
  · rw [Int.natAbs_mul]
    exact Nat.mul_le_mul h.num k.num
  · rw [Int.natAbs_mul]
    exact Nat.mul_le_mul h.den k.den
theorem Bd.add {A B C E : Nat} {r t : Rat} (h : Bd A B r) (k : Bd C E t) : Bd (A * E + C * B) (B * E) (r + t) := by
  have e : r + t = mkQ (r.num * t.den + t.num * r.den) (r.den * t.den) := by rw [mkQ_add (den_pos r) (den_pos t), mkQ_self, mkQ_self]
  rw [e]
  refine Bd.mk' (Int.mul_pos (den_pos r) (den_pos t)) ?_ ?_
  · refine Nat.le_trans (Int.natAbs_add_le _ _) (Nat.add_le_add ?_ ?_)
    · rw [Int.natAbs_mul]
      exact Nat.mul_le_mul h.num k.den
    · rw [Int.natAbs_mul]
      exact Nat.mul_le_mul k.num h.den
  · rw [Int.natAbs_mul]
    exact Nat.mul_le_mul h.den k.den
theorem Bd.neg {A B : Nat} {r : Rat} (h : Bd A B r) : Bd A B (-r) := ⟨by simpa using h.num, by simpa using h.den⟩
theorem Bd.sz {A B n : Nat} {r : Rat} (h : Bd A B r) (a : A < 2 ^ n) (b : B < 2 ^ n) : Sz n r := ⟨Nat.lt_of_le_of_lt h.num a, Nat.lt_of_le_of_lt h.den b⟩
structure F4.Sm (f : F4) : Prop where
  p1 : 1 ≤ f.p
  p2 : f.p ≤ 5
  q1 : 1 ≤ f.q
  q2 : f.q ≤ 4
  a1 : -9 ≤ f.a
  a2 : f.a ≤ 9
  b1 : 1 ≤ f.b
  b2 : f.b ≤ 4
theorem F4.Sm.ok {f : F4} (h : f.Sm) : f.Ok := ⟨h.p1, by have := h.p2; omega, h.q1, by have := h.q2; omega, by have := h.a1; omega, by have := h.a2; omega, h.b1, by have := h.b2; omega⟩
end BR
namespace BR
open PySem PySem.Spec PyProof.Rows L2
/-! ### orders from shuffled indexes -/
abbrev idsI (n : Nat) : List Int := (List.range n).map fun (k : Nat) => (k : Int)
end BR

namespace BR
open PySem PySem.Spec PyProof.Rows L2
/-! ### list(range(n)); comprehensions whose turns draw -/
section
variable {X : Cx} {σ : L2.St} {H : Hp} {a : Expr} {p p2 pos pos2 : Pos} {Q : VK}
end
section
variable {X : Cx} {σ : L2.St} {R : Rp} {T : Reg} {Fin : Hp → Prop} {Gr : Hp → Hp → Prop} {L : Addr} {H1 : Hp} {J : It} {n : Nat} {G : Hp → Prop} {Y : Nat → Hp → V → Hp → Prop} {sc : Scope} {elt tg : Expr} {own : List (Str × Nat)} {Q : Hp → Prop}
end
end BR

namespace BR
open PySem PySem.Spec PyProof.Rows L2
/-! ### pairs of fractions that are gates; the second family's helpers -/
structure POk (g : G2) : Prop where
  pos : 0 < g.1
  f : Bd 1000000 1000000 g.1
  a : Bd 1000000 1000000 g.2
def F4.of (g : G2) : F4 := ⟨g.1.num, g.1.den, g.2.num, g.2.den⟩
theorem POk.ok {g : G2} (h : POk g) : (F4.of g).Ok := by
  have h1 := h.f.num
  have h2 := h.f.den
  have h3 := h.a.num
  have h4 := h.a.den
  have h5 : 0 < g.1.num := by
    have := h.pos
    rw [Rat.lt_iff] at this
    simpa using this
  have h6 := den_pos g.1
  have h7 := den_pos g.2
  exact ⟨by show 1 ≤ g.1.num; omega, by show g.1.num ≤ 1000000; omega, by show (1 : Int) ≤ (g.1.den : Int); omega, by show (g.1.den : Int) ≤ 1000000; omega, by show -1000000 ≤ g.2.num; omega, by show g.2.num ≤ 1000000; omega, by show (1 : Int) ≤ (g.2.den : Int); omega, by show (g.2.den : Int) ≤ 1000000; omega⟩
theorem POk.sz {g : G2} (h : POk g) : Sz 20 g.1 ∧ Sz 20 g.2 := ⟨h.f.sz (by decide) (by decide), h.a.sz (by decide) (by decide)⟩
structure PairsAt (R : Rp) (S : Reg) (H : Hp) (v : V) (gs : List G2) : Prop where
  ex : Is R S H v (.lst (gs.map vD))
  lo : 1 ≤ gs.length
  hi : gs.length ≤ 8
  ok : ∀ g ∈ gs, POk g
theorem PairsAt.go {R : Rp} {S : Reg} {H H' : Hp} {v : V} {gs : List G2} (h : PairsAt R S H v gs) (k : Kp S H H') : PairsAt R S H' v gs := { h with ex := h.ex.go k }
theorem PairsAt.up {R : Rp} {S : Reg} {H H' : Hp} {v : V} {gs : List G2} (h : PairsAt R S H v gs) (k : Same H H') : PairsAt R S H' v gs := h.go (Kp.of k)
theorem IsA.set {R : Rp} {S : Reg} {H : Hp} {v : V} {d : D} : ∀ {vs : List V} {ds : List D} {i : Nat}, IsA R S H vs ds → Is R S H v d → IsA R S H (vs.set i v) (ds.set i d)
  | _, _, _, .nil, _ => .nil
  | _, _, 0, .cons _ b, h => .cons h b
  | _, _, i + 1, .cons a b, h => .cons a (IsA.set (i := i) b h)
section
variable {X : Cx} {σ : L2.St} {H : Hp} {D : Ends} {st : Stmt} {sts : List Stmt}
end
end BR

namespace BR
open PySem PySem.Spec PyProof.Rows L2
/-! ### enumerate of a tuple -/
end BR

namespace BR
open PySem PySem.Spec PyProof.Rows L2
structure OkN (k : Nat) (d : D) : Prop where
  plain : d.plain = true
  lay : PyData.canLay0 d.py = true
  dep : PyData.depth d.py ≤ k
structure OkNs (k : Nat) (ds : List D) : Prop where
  plain : D.plains ds = true
  lay : PyData.canLayAll0 (D.pys ds) = true
  dep : PyData.depthAll (D.pys ds) ≤ k
theorem OkNs.of {k : Nat} : ∀ {ds : List D}, (∀ d ∈ ds, OkN k d) → OkNs k ds
  | [], _ => ⟨rfl, by simp [D.pys, PyData.canLayAll0], by simp [D.pys, PyData.depthAll]⟩
  | d :: ds, h => by
    have a := h d (List.mem_cons_self ..)
    have b := OkNs.of (ds := ds) fun e he => h e (List.mem_cons_of_mem _ he)
    refine ⟨?_, ?_, ?_⟩
    · show (D.plain d && D.plains ds) = true
      rw [a.plain, b.plain]; rfl
    · simp [D.pys, PyData.canLayAll0, a.lay, b.lay]
    · have h1 := a.dep
      have h2 := b.dep
      simp only [D.pys, PyData.depthAll]
      omega
theorem OkN.lst {k : Nat} {ds : List D} (h : ∀ d ∈ ds, OkN k d) : OkN (k + 1) (.lst ds) := by
  have a := OkNs.of h
  refine ⟨a.plain, ?_, ?_⟩
  · simp [D.py, PyData.canLay0, a.lay]
  · have h1 := a.dep
    simp only [D.py, PyData.depth]
    omega
theorem OkN.tup {k : Nat} {ds : List D} (h : ∀ d ∈ ds, OkN k d) : OkN (k + 1) (.tup ds) := by
  have a := OkNs.of h
  refine ⟨a.plain, ?_, ?_⟩
  · simp [D.py, PyData.canLay0, a.lay]
  · have h1 := a.dep
    simp only [D.py, PyData.depth]
    omega
theorem OkN.int {k : Nat} (i : Int) : OkN (k + 1) (.int i) := ⟨rfl, by simp [D.py, PyData.canLay0], by simp only [D.py, PyData.depth]; omega⟩
theorem OkN.okEq {k : Nat} {d : D} (h : OkN k d) (hk : k ≤ 15) : d.okEq = true := by
  have h1 := h.plain
  have h2 := h.lay
  have h3 := h.dep
  simp only [D.okEq, h1, SeqAt.shaped, h2, Bool.true_and, decide_eq_true_iff]
  omega
theorem OkN.frac (r : Rat) : OkN 2 (frac r) := OkN.tup (k := 1) fun d hd => by
  simp at hd
  rcases hd with rfl | rfl
  · exact OkN.int _
  · exact OkN.int _
theorem OkN.vD (p : G2) : OkN 3 (vD p) := OkN.tup (k := 2) fun d hd => by
  simp at hd
  rcases hd with rfl | rfl
  · exact OkN.frac _
  · exact OkN.frac _
mutual
theorem eqv_pl : ∀ {d : D}, d.plain = true → PyData.eqv d.py d.py = true
  | .non, _ => by simp [D.py, PyData.eqv]
  | .bl b, _ => by simp [D.py, PyData.eqv]
  | .int i, _ => by simp [D.py, PyData.eqv]
  | .str x, _ => by simp [D.py, PyData.eqv]
  | .tup l, h => by simp only [D.py, PyData.eqv]; exact eqv_pls (by simpa [D.plain] using h)
  | .lst l, h => by simp only [D.py, PyData.eqv]; exact eqv_pls (by simpa [D.plain] using h)
  | .obj _ _, h => by simp [D.plain] at h
theorem eqv_pls : ∀ {ds : List D}, D.plains ds = true → PyData.eqvAll (D.pys ds) (D.pys ds) = true
  | [], _ => by simp [D.pys, PyData.eqvAll]
  | d :: ds, h => by
    simp [D.plains] at h
    simp [D.pys, PyData.eqvAll, eqv_pl h.1, eqv_pls h.2]
end
theorem OkN.self {k : Nat} {d : D} (h : OkN k d) : D.eqv d d = true := eqv_pl h.plain
theorem cut_drop (xs : List V) (k : Nat) : cutV xs (some (k : Int)) none = xs.drop k := by
  unfold cutV
  rw [HT.sIx_none, HT.sIx_nat]
  by_cases h : k ≤ xs.length
  · rw [Nat.min_eq_left h, List.take_of_length_le (by rw [List.length_drop]; exact Nat.le_refl _)]
  · rw [Nat.min_eq_right (by omega), List.drop_eq_nil_of_le (Nat.le_refl _), List.drop_eq_nil_of_le (by omega), List.take_nil]
section
variable {X : Cx} {σ : L2.St} {H : Hp} {o : Expr} {D : Ends} {p1 p2 pos : Pos}
/-- l.clear() as a statement -/
theorem sClr (h : wE X o σ H fun x H1 => tyV X.K "list" x H1 ∧ rClear x [] H1 fun _ H3 => D.nx σ H3)
    (hs : swapsWith (.Call (.Attribute o "clear" p1) [] [] p2) none pos.line X.env = pure false := by rfl)
    (hbase : attributeBase o "clear" X.env (eval o X.env) = eval o X.env := by rfl) (hline : (p1.endLine == p2.line) = true := by rfl) :
    wS X (.Expr (.Call (.Attribute o "clear" p1) [] [] p2) pos) D σ H :=
  sExpr (uE (pe_bm0 PySem.F.plainAttrs_list PySem.F.slot_list_clear PySem.F.type_list_clear mt_clear (pE o) hbase hline) h) hs
end
end BR

namespace BR
open PySem PySem.Spec PyProof.Rows L2
/-! ### == and != of own instances, whatever they answer -/
section
variable {X : Cx} {σ : L2.St} {H : Hp} {k : Nat} {C : Addr} {ps : List Str} {sp : Sp} {W : WX}
theorem own_run {f : Addr} {fd : FuncData} {A : Around} {pins : List (Addr × Obj)} {s : Shared} {us : List Value} {vs : List V} {Q : VK} (F : FnOk X.prog X.w X.K X.mg X.base (L2.CX X.prog X.w) k f fd ps sp) (sb : Sub X k A) (hb : Binds X.K fd ps []) (tk : Takes X W)
    (I : Inv X pins σ H s) (r : Vals vs us) (q : sp vs H Q fun c d H' => W c d σ H') : wpAny (model X.prog X.w) A (call (.ref f) us) (EP X pins σ Q) X.xe s := by
  have e0 : Env0 X.prog X.w X.K X.mg X.base A X.stack s H := by
    have e := I.env0
    exact ⟨by rw [sb.fr]; exact e.frames, e.mod, e.bs, e.bsz, e.funs, e.frf, e.hok, e.bare⟩
  have hl : us.length = ps.length := by rw [← r.length]; exact F.len _ _ _ _ q
  have b := hb s us I.kIn (by rw [List.append_nil]; exact hl)
  rw [List.append_nil] at b
  refine wpAny_call (codeAny_mono (F.run A X.stack s H ⟨us, []⟩ us vs Q _ sb.room e0 b r q) fun z s' y => ?_)
  cases z with
  | error er => exact passAt tk σ pins _ s er s' I y
  | ok fl =>
    cases fl with
    | ret u => exact I.after y
    | next => exact False.elim y
    | brk => exact False.elim y
    | cont => exact False.elim y
/-- the type of what stands on the right is no subclass of C -/
def NotSub (K : PySem.W.Frag) (C : Addr) (H : Hp) (y : V) : Prop :=
  (∃ a C' dx fs, y = .ref a ∧ H a = some (.ins C' dx fs) ∧ PySem.W.notFirst K C (.ref C') = true) ∨ (∃ a xs, y = .ref a ∧ (SqT K H a xs) ∧ PySem.W.notFirst K C (.type "tuple") = true) ∨ (∃ a xs, y = .ref a ∧ SqL K H a xs ∧ PySem.W.notFirst K C (.type "list") = true) ∨ (y = .non ∧ PySem.W.notFirst K C (.type "NoneType") = true)
theorem notSub_looks {M : Model} {pins : List (Addr × Obj)} {s : Shared} {y : V} {u : Value} (I : Inv X pins σ H s) (r : RelV y u) (h : NotSub X.K C H y) : ∃ tb, PySem.W.Looks M s.heap (typeOf u) tb ∧ PySem.W.notFirst X.K C tb = true := by
  rcases h with ⟨a, C', dx, fs, rfl, ha, h⟩ | ⟨a, xs, rfl, hq, h⟩ | ⟨a, xs, rfl, hq, h⟩ | ⟨rfl, h⟩
  · cases r
    obtain ⟨mA, J, _⟩ := ins_get I.hok ha
    obtain ⟨od, J, _⟩ := J.look
    exact ⟨_, J.type, h⟩
  · cases r
    obtain ⟨its, rv, ⟨o, e, c, _⟩, _⟩ := I.tuple hq
    exact ⟨_, c ▸ (PySem.W.Looks.ld e).andThen .now, h⟩
  · cases r
    obtain ⟨its, rv, p, _⟩ := I.list hq
    obtain ⟨o, e, c, _⟩ := p.isList
    exact ⟨_, c ▸ (PySem.W.Looks.ld e).andThen .now, h⟩
  · cases r
    exact ⟨_, PySem.W.Looks.of_pure rfl, h⟩
def rOwn (K : PySem.W.Frag) (C : Addr) (sp : Sp) (g : Bool → Bool) : R2 := fun x y H Q => ∃ a dx fs, x = .ref a ∧ H a = some (.ins C dx fs) ∧ NotSub K C H y ∧ sp [x, y] H (fun v H' => ∃ b, v = .bl b ∧ Q (.bl (g b)) H') fun _ _ _ => False
theorem op_eqO (G : MethG X.prog X.w X.K X.mg X.base k C "__eq__" ps sp) (hr : Room k X.A) (tk : Takes X W0) : OpR X (compareOp .Eq) (rOwn X.K C sp id) := by
  intro pins s σ H x y v u Q I rx ry h
  obtain ⟨a, dx, fs, rfl, ha, hn, q⟩ := h
  cases rx
  obtain ⟨f, fd, hc, hm, F, ⟨hb, _⟩⟩ := G.ex
  obtain ⟨mA, J, _⟩ := ins_get I.hok ha
  obtain ⟨od, J, _⟩ := J.look
  obtain ⟨tb, L, nf⟩ := notSub_looks I ry hn
  obtain ⟨m, hF⟩ := I.fr
  show wpAny _ _ (richCompare .Eq (.ref a) u) _ _ _
  refine PySem.W.cmp_K (op := .Eq) (tb := tb) hr.units0 hF I.ok.mod.kin J L nf hm.at_ hm.fn ?_
  refine wpAny_mono (own_run F ⟨hr, rfl⟩ hb tk I (vs := [V.ref a, y]) (us := [Value.ref a, u]) (.cons rfl (.cons ry .nil)) q) (fun v s' z => ?_) fun _ _ e => e
  obtain ⟨v', H', I', rv, b, rfl, q'⟩ := z
  cases rv
  exact ⟨.bl b, H', I', rfl, q'⟩
end
section
variable {prog : Program} {w : World} {A : Around} {E : Value → Shared → Prop} {K : PySem.W.Frag} {a C f : Addr} {oa : Obj} {od : Option Obj} {u : Value}
theorem neBody {s : Shared} {Q : Fin → Shared → Prop} (X : K.In s.heap) (I : PySem.W.InstAt s.heap a oa C od) (hs : PySem.W.findIn K (.ref C) "__eq__" = some (some (.ref f))) (hf : PySem.W.isFn K (.ref f) = true) (hu : A.units < cLine)
    (hc : wpAny (model prog w) A (call (.ref f) [.ref a, u]) (fun v s' => ∃ b, v = .bool b ∧ Q (.done (.ret (.bool (!b)))) s') E s) : wpAny (model prog w) A (Builtin.«object.__ne__» ⟨[.ref a, u], []⟩) Q E s := by
  unfold Builtin.«object.__ne__»
  repeat (first
    | with_reducible refine wpAny_cRoomFor hu ?_
    | (refine wpAny_bind (m := callSpecialIfBound? (.ref a) (Str.ofString "__eq__") [u]) (PySem.W.ifBound_K X I hs hf (wpAny_mono hc (fun r s' hr => by
          obtain ⟨b, rfl, hq⟩ := hr
          repeat (first | exact hq | exact wpAny_pure hq | exact wpAny_truthy_bool hq | (refine wpAny_bind (m := truthy (.bool _)) (wpAny_truthy_bool ?_)) | wp_step)) fun _ _ e => e)))
    | wp_step)
theorem ifBound_ne {M : Model} {s : Shared} {Q : Option Value → Shared → Prop} (X : K.In s.heap) (I : PySem.W.InstAt s.heap a oa C od) (hs : PySem.W.findIn K (.ref C) "__ne__" = some (some (.builtin "object.__ne__")))
    (h : wpAny M A (call (.builtin "object.__ne__") [.ref a, u]) (fun v => Q (some v)) E s) : wpAny M A (callSpecialIfBound? (.ref a) "__ne__" [u]) Q E s := by
  simp only [callSpecialIfBound?, bindSpecialIfBound?]
  refine wpAny_holding (wpAny_bind (wpAny_bind (wpAny_bind (I.type.here ((PySem.W.looks_findIn X hs).here ?_)))))
  refine wpAny_bind (wpAny_askSetting (wpAny_ite ?_))
  have z : wpAny M A (call (.builtin "object.__ne__") ([.ref a] ++ [u]) >>= fun v => pure (some v)) Q E s := wpAny_bind (wpAny_mono h (fun v s' y => wpAny_pure y) fun _ _ y => y)
  split
  · exact wpAny_bind (wpAny_of_eq (F.cmp_object.ne.bind _) (wpAny_pure (by exact z)))
  · exact wpAny_tryCatch (wpAny_bind (wpAny_of_eq (F.cmp_object.ne.bind _) (wpAny_pure (by exact z))))
theorem neOwn {s : Shared} {tb : Value} {Q : Value → Shared → Prop} (hu : A.units + 1 < cLine) (X : K.In s.heap) (I : PySem.W.InstAt s.heap a oa C od) (L : PySem.W.Looks (model prog w) s.heap (typeOf u) tb) (nf : PySem.W.notFirst K C tb = true)
    (hm : PySem.W.mroIn K C (.type "object") = some true) (hn : PySem.W.findIn K (.ref C) "__ne__" = some (some (.builtin "object.__ne__"))) (hs : PySem.W.findIn K (.ref C) "__eq__" = some (some (.ref f))) (hf : PySem.W.isFn K (.ref f) = true)
    (hc : wpAny (model prog w) A.in1 (call (.ref f) [.ref a, u]) (fun v s' => ∃ b, v = .bool b ∧ Q (.bool (!b)) s') E s) : wpAny (model prog w) A (richCompare .NotEq (.ref a) u) Q E s := by
  have one : wpAny (model prog w) A (tryCompare (.ref a) "__ne__" u) (fun r s' => ∃ b, r = some (.bool b) ∧ Q (.bool b) s') E s := by
    unfold tryCompare
    refine wpAny_bind (ifBound_ne X I hn ?_)
    refine wpAny_call (codeAny_call_builtin F.cmp_object.ne.plain F.cmpEntry_ne (PySem.W.check_slot F.cmpKind_ne F.cmpSplit_ne (I.type.andThen (PySem.W.looks_mroIn X hm)) (F.cmpArgs_ne _ _) (neBody X I hs hf hu (wpAny_mono hc (fun v s' y => ?_) fun _ _ y => y))))
    obtain ⟨b, rfl, q⟩ := y
    exact ⟨b, rfl, wpAny_pure ⟨!b, rfl, q⟩⟩
  simp only [richCompare, cmpInfo_NotEq, oneThing_ref]
  refine wpAny_holding (wpAny_bind (wpAny_cRoomFor (Nat.lt_of_succ_lt hu) ?_))
  refine wpAny_bind (I.type.here (wpAny_bind (L.here ?_)))
  split
  · next q =>
    have e : PySem.W.subIn K tb (.ref C) = some false := by
      rcases Bool.or_eq_true_iff.mp nf with e | e
      · rw [beq_iff_eq.mp e] at q
        simp at q
      · exact beq_iff_eq.mp e
    refine wpAny_bind ((PySem.W.looks_subIn X e).here ?_)
    simp only [Bool.false_eq_true, if_false]
    refine wpAny_bind (wpAny_mono one (fun r s' z => ?_) fun _ _ e => e)
    obtain ⟨v, rfl, hq⟩ := z
    exact wpAny_pure hq
  · refine wpAny_bind (wpAny_pure ?_)
    simp only [Bool.false_eq_true, if_false]
    refine wpAny_bind (wpAny_mono one (fun r s' z => ?_) fun _ _ e => e)
    obtain ⟨v, rfl, hq⟩ := z
    exact wpAny_pure hq
end
structure NeOk (K : PySem.W.Frag) (C : Addr) : Prop where
  ne : PySem.W.findIn K (.ref C) "__ne__" = some (some (.builtin "object.__ne__"))
  mro : PySem.W.mroIn K C (.type "object") = some true
section
variable {X : Cx} {k : Nat} {C : Addr} {ps : List Str} {sp : Sp}
theorem op_neO (G : MethG X.prog X.w X.K X.mg X.base k C "__eq__" ps sp) (N : NeOk X.K C) (hr : Room (k + 1) X.A) (tk : Takes X W0) : OpR X (compareOp .NotEq) (rOwn X.K C sp not) := by
  intro pins s σ H x y v u Q I rx ry h
  obtain ⟨a, dx, fs, rfl, ha, hn, q⟩ := h
  cases rx
  obtain ⟨f, fd, hc, hm, F, ⟨hb, _⟩⟩ := G.ex
  obtain ⟨mA, J, _⟩ := ins_get I.hok ha
  obtain ⟨od, J, _⟩ := J.look
  obtain ⟨tb, L, nf⟩ := notSub_looks I ry hn
  show wpAny _ _ (richCompare .NotEq (.ref a) u) _ _ _
  refine neOwn (tb := tb) ?_ I.kIn J L nf N.mro N.ne hm.at_ hm.fn ?_
  · exact (hr.in1).units0
  refine wpAny_mono (own_run F ⟨hr.in1, rfl⟩ hb tk I (vs := [V.ref a, y]) (us := [Value.ref a, u]) (.cons rfl (.cons ry .nil)) q) (fun v s' z => ?_) fun _ _ e => e
  obtain ⟨v', H', I', rv, b, rfl, q'⟩ := z
  cases rv
  exact ⟨b, rfl, .bl (!b), H', I', rfl, q'⟩
end
/-! ### own classes whose == asks the class and two fractions -/
structure EqC (R : Rp) (mg : Str → Option Value) (c : Str) : Prop where
  nam : NamC R.K mg c (R.CA c)
  fa : FAok R c
  cl : PySem.W.findIn R.K (.ref (R.CA c)) "__class__" = some (some (.builtin "object.__class__"))
  mo : PySem.W.mroIn R.K (R.CA c) (.type "object") = some true
  sg : PySem.W.specialIn R.K (.builtin "object.__class__") "__get__" = some (some (.builtin "getset_descriptor.__get__"))
  tk : PySem.W.takesIn R.K (.builtin "object.__class__") = some true
theorem EqC.tyX {R : Rp} {mg : Str → Option Value} {c : Str} {H : Hp} {a dx : Addr} {fs : List (Str × V)} (h : EqC R mg c) (e : H a = some (.ins (R.CA c) dx fs)) : TyX R.K H (.ref a) (.ref (R.CA c)) :=
  .base (.ins e h.fa.cl h.cl h.sg h.tk h.mo)
/-- c' against c: the same, or none a subclass of the other -/
def EqTo (R : Rp) (c c' : Str) : Prop := c' = c ∨ (c' ≠ c ∧ R.CA c' ≠ R.CA c ∧ PySem.W.subIn R.K (.ref (R.CA c')) (.ref (R.CA c)) = some false)
theorem EqTo.kit {R : Rp} {mg : Str → Option Value} {c c' : Str} (h : EqTo R c c') (T : EqC R mg c) : PySem.W.kitOne R.K (.ref (R.CA c')) (.ref (R.CA c)) = some (decide (c' = c)) := by
  rcases h with rfl | ⟨n, m, s⟩
  · rw [decide_eq_true rfl]
    unfold PySem.W.kitOne
    rw [if_pos (by simp)]
  · rw [decide_eq_false n]
    exact kitC T.nam s fun z => absurd z m
theorem EqTo.nf {R : Rp} {c c' : Str} (h : EqTo R c c') : PySem.W.notFirst R.K (R.CA c) (.ref (R.CA c')) = true := by
  unfold PySem.W.notFirst
  rcases h with rfl | ⟨n, m, s⟩
  · simp
  · rw [s]
    simp
def spEqF (R : Rp) (mg : Str → Option Value) (c : Str) : Sp := fun vs H Q _ => ∃ (S S' : Reg) (x y : V) (r b : Rat) (c' : Str) (r' b' : Rat), vs = [x, y] ∧ Is R S H x (faD c r b) ∧ EqC R mg c' ∧ EqTo R c c' ∧ Is R S' H y (faD c' r' b') ∧ Q (.bl (decide (c' = c ∧ r = r' ∧ b = b'))) H
theorem faD_ins {R : Rp} {S : Reg} {H : Hp} {v : V} {c : Str} {r b : Rat} (h : Is R S H v (faD c r b)) : ∃ a dx fs, v = .ref a ∧ H a = some (.ins (R.CA c) dx fs) := by
  cases h with
  | obj n e _ => exact ⟨_, _, _, rfl, e⟩
theorem ownQ {R : Rp} {mg : Str → Option Value} {S S' : Reg} {H : Hp} {x y : V} {c c' : Str} {r b r' b' : Rat} {g : Bool → Bool} {Q : VK} (h : Is R S H x (faD c r b)) (C' : EqC R mg c') (t : EqTo R c c') (h' : Is R S' H y (faD c' r' b')) (q : Q (.bl (g (decide (c' = c ∧ r = r' ∧ b = b')))) H) : rOwn R.K (R.CA c) (spEqF R mg c) g x y H Q := by
  obtain ⟨a, dx, fs, rfl, e⟩ := faD_ins h
  obtain ⟨a', dx', fs', rfl, e'⟩ := faD_ins h'
  exact ⟨a, dx, fs, rfl, e, .inl ⟨a', _, dx', fs', rfl, e', t.nf⟩, S, S', _, _, r, b, c', r', b', rfl, h, C', t, h', _, rfl, q⟩
section
variable {X : Cx} {σ : L2.St} {H : Hp} {Q : VK} {pos : Pos}
end
end BR

namespace BR
open PySem PySem.Spec PyProof.Rows L2
/-! ### max of pairs of ints that end alike; comprehensions with a test -/
section
variable {X : Cx} {σ : L2.St} {H : Hp}
end
section
variable {X : Cx} {σ : L2.St} {R : Rp} {T : Reg} {Fin : Hp → Prop} {Gr : Hp → Hp → Prop} {L : Addr} {H1 : Hp} {J : It} {n : Nat} {G : Hp → Prop} {Y : Nat → Hp → V → Hp → Prop} {sc : Scope} {elt tg : Expr} {ifs : List Expr} {own : List (Str × Nat)} {Q : Hp → Prop}
end
/-! ### sets of gates as numbers, best amounts by sets -/
def bitsOf (n s : Nat) : List Nat := (List.range n).filter fun i => s.testBit i
theorem mem_bits {n s i : Nat} : i ∈ bitsOf n s ↔ i < n ∧ s.testBit i = true := by
  unfold bitsOf
  rw [List.mem_filter, List.mem_range]
abbrev TBt := Int × Int
def passI (g : G2) (t : TBt) : TBt := (g.1.num * g.2.den * t.1 + g.2.num * g.1.den * t.2, g.1.den * g.2.den * t.2)
theorem bits_zero (n : Nat) : bitsOf n 0 = [] := by
  unfold bitsOf
  rw [List.filter_eq_nil_iff]
  intro a _
  simp
def topOf : List TBt → TBt
  | [] => (0, 1)
  | r :: rs => ((rs.map Prod.fst).foldl max r.1, r.2)
def tbF (gs : List G2) : Nat → Nat → TBt
  | 0, _ => (0, 1)
  | f + 1, s => topOf ((bitsOf gs.length s).map fun (i : Nat) => passI (gAt gs (i : Int)) (tbF gs f (s - 2 ^ i)))
def tbQ (gs : List G2) (s : Nat) : TBt := tbF gs s s
/-- what the gate i behind the best order of the rest gives -/
def lastQ (gs : List G2) (s i : Nat) : TBt := passI (gAt gs (i : Int)) (tbQ gs (s - 2 ^ i))
theorem tbF_fuel (gs : List G2) : ∀ (s f : Nat), s ≤ f → tbF gs f s = tbQ gs s := by
  intro s
  induction s using Nat.strongRecOn with
  | ind s ih =>
    intro f hf
    unfold tbQ
    cases s with
    | zero =>
      cases f with
      | zero => rfl
      | succ f =>
        show topOf ((bitsOf gs.length 0).map _) = _
        rw [bits_zero]
        rfl
    | succ s =>
      cases f with
      | zero => omega
      | succ f =>
        show topOf _ = topOf _
        congr 1
        refine List.map_congr_left fun i hi => ?_
        have h1 := Nat.ge_two_pow_of_testBit (mem_bits.mp hi).2
        have h2 : 0 < 2 ^ i := Nat.two_pow_pos i
        rw [ih (s + 1 - 2 ^ i) (by omega) f (by omega), ih (s + 1 - 2 ^ i) (by omega) s (by omega)]
theorem tbQ_eq (gs : List G2) {s : Nat} (h : 0 < s) : tbQ gs s = topOf ((bitsOf gs.length s).map (lastQ gs s)) := by
  obtain ⟨k, rfl⟩ : ∃ k, s = k + 1 := ⟨s - 1, by omega⟩
  show topOf _ = topOf _
  congr 1
  refine List.map_congr_left fun i hi => ?_
  have h1 := Nat.ge_two_pow_of_testBit (mem_bits.mp hi).2
  have h2 : 0 < 2 ^ i := Nat.two_pow_pos i
  rw [tbF_fuel gs (k + 1 - 2 ^ i) k (by omega)]
  rfl
/-- every set but the empty one has a gate -/
theorem bits_some : ∀ n ≤ 8, ∀ s < 2 ^ n, 0 < s → bitsOf n s ≠ [] := by decide +kernel
theorem bits_perm : ∀ n ≤ 8, ∀ s < 2 ^ n, ∀ i < n, s.testBit i = true → (bitsOf n s).isPerm (i :: bitsOf n (s - 2 ^ i)) = true := by decide +kernel
def dI (g : G2) : Int := g.1.den * g.2.den
def botQ (gs : List G2) (s : Nat) : Int := ((bitsOf gs.length s).map fun (i : Nat) => dI (gAt gs (i : Int))).foldr (· * ·) 1
theorem prodI_perm : ∀ {l m : List Int}, l.Perm m → l.foldr (· * ·) 1 = m.foldr (· * ·) 1
  | _, _, .nil => rfl
  | _, _, .cons a p => by
    show a * _ = a * _
    rw [prodI_perm p]
  | _, _, .swap a b l => by
    show b * (a * _) = a * (b * _)
    rw [← Int.mul_assoc, Int.mul_comm b a, Int.mul_assoc]
  | _, _, .trans p q => (prodI_perm p).trans (prodI_perm q)
theorem botQ_bit {gs : List G2} (h8 : gs.length ≤ 8) {s i : Nat} (hs : s < 2 ^ gs.length) (hi : i ∈ bitsOf gs.length s) : botQ gs s = dI (gAt gs (i : Int)) * botQ gs (s - 2 ^ i) := by
  obtain ⟨h1, h2⟩ := mem_bits.mp hi
  have p := List.isPerm_iff.mp (bits_perm _ h8 s hs i h1 h2)
  exact prodI_perm (p.map fun (i : Nat) => dI (gAt gs (i : Int)))
theorem lt_sub {n s i : Nat} (hs : s < 2 ^ n) : s - 2 ^ i < 2 ^ n := Nat.lt_of_le_of_lt (Nat.sub_le _ _) hs
theorem tbQ_bot {gs : List G2} (h8 : gs.length ≤ 8) : ∀ s, s < 2 ^ gs.length → (tbQ gs s).2 = botQ gs s := by
  intro s
  induction s using Nat.strongRecOn with
  | ind s ih =>
    intro hs
    by_cases h0 : s = 0
    · subst h0
      unfold botQ
      rw [bits_zero]
      rfl
    · rw [tbQ_eq gs (by omega)]
      cases e : bitsOf gs.length s with
      | nil => exact absurd e (bits_some _ h8 s hs (by omega))
      | cons i r =>
        have hi : i ∈ bitsOf gs.length s := by rw [e]; exact List.mem_cons_self ..
        have h1 := Nat.ge_two_pow_of_testBit (mem_bits.mp hi).2
        have h2 : 0 < 2 ^ i := Nat.two_pow_pos i
        show (lastQ gs s i).2 = _
        rw [botQ_bit h8 hs hi, ← ih (s - 2 ^ i) (by omega) (lt_sub hs)]
        rfl
theorem lastQ_bot {gs : List G2} (h8 : gs.length ≤ 8) {s i : Nat} (hs : s < 2 ^ gs.length) (hi : i ∈ bitsOf gs.length s) : (lastQ gs s i).2 = botQ gs s := by
  rw [botQ_bit h8 hs hi, ← tbQ_bot h8 _ (lt_sub hs)]
  rfl
/-- the bits of tops and bottoms -/
abbrev tz (n m : Nat) : Nat := 1 + m * (2 * n + 1)
structure Tz (k : Nat) (t : TBt) : Prop where
  tt : t.1.natAbs < 2 ^ k
  bb : t.2.natAbs < 2 ^ k
theorem passI_sz {g : G2} {t : TBt} {n k : Nat} (z : Sz n g.1 ∧ Sz n g.2) (h : Tz k t) : (g.1.num * g.2.den).natAbs < 2 ^ (n + n) ∧ (g.2.num * g.1.den).natAbs < 2 ^ (n + n) ∧ (g.1.den * g.2.den : Int).natAbs < 2 ^ (n + n) ∧ (g.1.num * g.2.den * t.1).natAbs < 2 ^ (n + n + k) ∧ (g.2.num * g.1.den * t.2).natAbs < 2 ^ (n + n + k) ∧ Tz (2 * n + k + 1) (passI g t) := by
  have a1 := abs_mul z.1.num (show ((g.2.den : Int)).natAbs < 2 ^ n from z.2.den)
  have a2 := abs_mul z.2.num (show ((g.1.den : Int)).natAbs < 2 ^ n from z.1.den)
  have a3 := abs_mul (show ((g.1.den : Int)).natAbs < 2 ^ n from z.1.den) (show ((g.2.den : Int)).natAbs < 2 ^ n from z.2.den)
  have a4 := abs_mul a1 h.tt
  have a5 := abs_mul a2 h.bb
  have a6 := abs_mul a3 h.bb
  refine ⟨a1, a2, a3, a4, a5, ⟨?_, ?_⟩⟩
  · have := abs_add a4 a5
    rw [show 2 * n + k + 1 = n + n + k + 1 by omega]
    exact this
  · rw [show 2 * n + k + 1 = n + n + k + 1 by omega]
    exact Nat.lt_of_lt_of_le a6 (pow_le2 (Nat.le_succ _))
theorem foldl_max_mem : ∀ (l : List Int) (a : Int), l.foldl max a = a ∨ l.foldl max a ∈ l
  | [], a => .inl rfl
  | b :: l, a => by
    show l.foldl max (max a b) = a ∨ l.foldl max (max a b) ∈ b :: l
    rcases foldl_max_mem l (max a b) with h | h
    · rw [h]
      by_cases c : a ≤ b
      · right
        rw [Int.max_eq_right c]
        exact List.mem_cons_self ..
      · left
        exact Int.max_eq_left (by omega)
    · exact .inr (List.mem_cons_of_mem _ h)
def lastsQ (gs : List G2) (s : Nat) : List Nat := (bitsOf gs.length s).filter fun i => decide ((lastQ gs s i).1 = (tbQ gs s).1)
def stepD (g : G2) : D := .tup [.int (g.1.num * g.2.den), .int (g.2.num * g.1.den), .int (g.1.den * g.2.den)]
structure ItsAt (R : Rp) (S : Reg) (H : Hp) (v : V) (c : Str) (gs : List G2) (n : Nat) : Prop where
  ex : ∃ d, Is R S H v d ∧ d.items = some (gs.map fun g => faD c g.1 g.2)
  lo : 1 ≤ gs.length
  hi : gs.length ≤ 8
  sz : ∀ g ∈ gs, Sz n g.1 ∧ Sz n g.2
  n0 : 0 < n
  n9 : n ≤ 400
  fa : FAok R c
theorem GatesAt.its {R : Rp} {S : Reg} {H : Hp} {v : V} {gs : List G2} {n : Nat} (h : GatesAt R S H v gs n) (f : FAok R "Gate") : ItsAt R S H v "Gate" gs n := ⟨h.ex, h.lo, h.hi, h.sz, h.n0, h.n9, f⟩
def spStepOf (R : Rp) : Sp := fun vs H Q _ => ∃ (S : Reg) (v : V) (c : Str) (g : G2) (n : Nat), vs = [v] ∧ Live S H ∧ FAok R c ∧ Is R S H v (faD c g.1 g.2) ∧ (Sz n g.1 ∧ Sz n g.2) ∧ 0 < n ∧ n ≤ 4000 ∧ ∀ v' H', Same H H' → Is R S H' v' (stepD g) → Q v' H'
theorem filterMap_ix {α β : Type} (l : List α) (f : α → Option β) : (List.range l.length).filterMap (fun j => (l[j]?).bind f) = l.filterMap f := by
  have e : (List.range l.length).map (fun j => l[j]?) = l.map some := by
    refine List.ext_getElem (by simp) fun i h1 h2 => ?_
    simp at h1
    simp [List.getElem?_eq_getElem h1]
  have e2 : (List.range l.length).filterMap (fun j => (l[j]?).bind f) = ((List.range l.length).map (fun j => l[j]?)).filterMap (fun o => o.bind f) := by
    rw [List.filterMap_map]
    rfl
  rw [e2, e, List.filterMap_map]
  rfl
end BR

namespace BR
open PySem PySem.Spec PyProof.Rows L2
/-! ### how many orders are best, by sets; the values as fractions -/
def cntF (gs : List G2) : Nat → Nat → Int
  | 0, _ => 1
  | f + 1, s => if s = 0 then 1 else ((lastsQ gs s).map fun (i : Nat) => cntF gs f (s - 2 ^ i)).sum
def cntQ (gs : List G2) (s : Nat) : Int := cntF gs s s
theorem lasts_bits {gs : List G2} {s i : Nat} (h : i ∈ lastsQ gs s) : i ∈ bitsOf gs.length s := (List.mem_filter.mp h).1
theorem cntF_fuel (gs : List G2) : ∀ (s f : Nat), s ≤ f → cntF gs f s = cntQ gs s := by
  intro s
  induction s using Nat.strongRecOn with
  | ind s ih =>
    intro f hf
    unfold cntQ
    cases s with
    | zero =>
      cases f with
      | zero => rfl
      | succ f => rfl
    | succ s =>
      cases f with
      | zero => omega
      | succ f =>
        show (if s + 1 = 0 then (1 : Int) else _) = (if s + 1 = 0 then (1 : Int) else _)
        rw [if_neg (by omega), if_neg (by omega)]
        congr 1
        refine List.map_congr_left fun i hi => ?_
        have h1 := Nat.ge_two_pow_of_testBit (mem_bits.mp (lasts_bits hi)).2
        have h2 : 0 < 2 ^ i := Nat.two_pow_pos i
        rw [ih (s + 1 - 2 ^ i) (by omega) f (by omega), ih (s + 1 - 2 ^ i) (by omega) s (by omega)]
theorem cntQ_eq (gs : List G2) {s : Nat} (h : 0 < s) : cntQ gs s = ((lastsQ gs s).map fun (i : Nat) => cntQ gs (s - 2 ^ i)).sum := by
  obtain ⟨k, rfl⟩ : ∃ k, s = k + 1 := ⟨s - 1, by omega⟩
  have e0 : cntQ gs (k + 1) = ((lastsQ gs (k + 1)).map fun (i : Nat) => cntF gs k (k + 1 - 2 ^ i)).sum := by
    show (if k + 1 = 0 then (1 : Int) else ((lastsQ gs (k + 1)).map fun (i : Nat) => cntF gs k (k + 1 - 2 ^ i)).sum) = _
    rw [if_neg (by omega)]
  have e : ((lastsQ gs (k + 1)).map fun (i : Nat) => cntF gs k (k + 1 - 2 ^ i)) = ((lastsQ gs (k + 1)).map fun (i : Nat) => cntQ gs (k + 1 - 2 ^ i)) := by
    refine List.map_congr_left fun i hi => ?_
    have h1 := Nat.ge_two_pow_of_testBit (mem_bits.mp (lasts_bits hi)).2
    have h2 : 0 < 2 ^ i := Nat.two_pow_pos i
    rw [cntF_fuel gs (k + 1 - 2 ^ i) k (by omega)]
  rw [e0, e]
/-- the greatest amount of a set, as a fraction -/
def topQ (gs : List G2) (s : Nat) : Rat := mkQ (tbQ gs s).1 (tbQ gs s).2
def valQ (gs : List G2) (s i : Nat) : Rat := (gAt gs (i : Int)).1 * topQ gs (s - 2 ^ i) + (gAt gs (i : Int)).2
theorem dI_pos (g : G2) : 0 < dI g := Int.mul_pos (den_pos _) (den_pos _)
theorem botQ_pos (gs : List G2) (s : Nat) : 0 < botQ gs s := by
  unfold botQ
  generalize bitsOf gs.length s = l
  induction l with
  | nil => exact Int.one_pos
  | cons i l ih => exact Int.mul_pos (dI_pos _) ih
theorem pass_val (g : G2) {t : TBt} (h : 0 < t.2) : mkQ (passI g t).1 (passI g t).2 = g.1 * mkQ t.1 t.2 + g.2 := by
  have e1 : (passI g t).1 = (g.1.num * t.1) * g.2.den + g.2.num * (g.1.den * t.2) := by
    show g.1.num * g.2.den * t.1 + g.2.num * g.1.den * t.2 = _
    grind
  have e2 : (passI g t).2 = (g.1.den * t.2) * g.2.den := by
    show g.1.den * g.2.den * t.2 = _
    grind
  rw [e1, e2, mkQ_add (Int.mul_pos (den_pos _) h) (den_pos _), mkQ_mul, mkQ_self, mkQ_self]
theorem last_val {gs : List G2} (h8 : gs.length ≤ 8) {s i : Nat} (hs : s < 2 ^ gs.length) : mkQ (lastQ gs s i).1 (lastQ gs s i).2 = valQ gs s i := by
  have h : 0 < (tbQ gs (s - 2 ^ i)).2 := by
    rw [tbQ_bot h8 _ (lt_sub hs)]
    exact botQ_pos gs _
  exact pass_val _ h
theorem mkQ_same {a b B : Int} (h : 0 < B) : mkQ a B = mkQ b B ↔ a = b := by
  rw [mkQ_inj h h]
  exact Int.mul_eq_mul_right_iff (by omega)
theorem mkQ_plus {a c B : Int} (h : 0 < B) : mkQ (a + c) B = mkQ a B + mkQ c B := by
  rw [← mkQ_add h h, mkQ_inj h (Int.mul_pos h h)]
  grind
theorem mkQ_up {a b B : Int} (h : 0 < B) (l : a < b) : mkQ a B < mkQ b B := by
  have e := mkQ_plus (a := a) (c := b - a) h
  rw [show a + (b - a) = b by omega] at e
  have p := mkQ_pos (p := b - a) (q := B) (by omega) h
  rw [e]
  grind
theorem mkQ_lt {a b B : Int} (h : 0 < B) : mkQ a B < mkQ b B ↔ a < b := by
  constructor
  · intro l
    by_cases c : a < b
    · exact c
    · by_cases e : a = b
      · rw [e] at l
        exact absurd l (Rat.lt_irrefl)
      · have := mkQ_up (a := b) (b := a) h (by omega)
        grind
  · exact mkQ_up h
/-! the law's own table: a running greatest and its count -/
abbrev RC := Option (Rat × Int)
def runS (o : RC) (a : Rat) (c : Int) : RC := match o with
  | none => some (a, c)
  | some (t, k) => if t < a then some (a, c) else if t = a then some (t, k + c) else some (t, k)
def runL (gs : List G2) (s : Nat) (l : List Nat) : RC := l.foldl (fun o i => runS o (valQ gs s i) (cntQ gs (s - 2 ^ i))) none
theorem runL_snoc (gs : List G2) (s : Nat) (l : List Nat) (i : Nat) : runL gs s (l ++ [i]) = runS (runL gs s l) (valQ gs s i) (cntQ gs (s - 2 ^ i)) := by
  unfold runL
  rw [List.foldl_append]
  rfl
/-- what the running pair tells of a list that ends -/
structure RunOk (gs : List G2) (s : Nat) (l : List Nat) (t : Rat) (k : Int) : Prop where
  le : ∀ i ∈ l, ¬ t < valQ gs s i
  mem : ∃ i ∈ l, valQ gs s i = t
  cnt : k = ((l.filter fun i => decide (valQ gs s i = t)).map fun i => cntQ gs (s - 2 ^ i)).sum
theorem run_ok (gs : List G2) (s : Nat) : ∀ (n : Nat) (l : List Nat), l.length = n → l ≠ [] → ∃ t k, runL gs s l = some (t, k) ∧ RunOk gs s l t k := by
  intro n
  induction n with
  | zero => exact fun l h h2 => absurd (List.eq_nil_of_length_eq_zero h) h2
  | succ n ihn =>
    intro l' hl' hne
    obtain ⟨l, i, rfl⟩ : ∃ l i, l' = l ++ [i] := (List.eq_nil_or_concat l').elim (fun z => absurd z hne) fun ⟨l, i, e⟩ => ⟨l, i, by rw [e, List.concat_eq_append]⟩
    have ih : l ≠ [] → ∃ t k, runL gs s l = some (t, k) ∧ RunOk gs s l t k := ihn l (by rw [List.length_append] at hl'; simpa using hl')
    rw [runL_snoc]
    by_cases hl : l = []
    · subst hl
      exact ⟨_, _, rfl, ⟨fun j hj => by
        have : j = i := by simpa using hj
        rw [this]
        exact Rat.lt_irrefl, ⟨i, by simp, rfl⟩, by simp⟩⟩
    · obtain ⟨t, k, e, ok⟩ := ih hl
      rw [e]
      show ∃ t' k', (if t < valQ gs s i then some (valQ gs s i, cntQ gs (s - 2 ^ i)) else if t = valQ gs s i then some (t, k + cntQ gs (s - 2 ^ i)) else some (t, k)) = some (t', k') ∧ RunOk gs s (l ++ [i]) t' k'
      by_cases c1 : t < valQ gs s i
      · rw [if_pos c1]
        refine ⟨_, _, rfl, fun j hj => ?_, ⟨i, by simp, rfl⟩, ?_⟩
        · rcases List.mem_append.mp hj with z | z
          · have := ok.le j z
            grind
          · rw [List.mem_singleton.mp z]
            exact Rat.lt_irrefl
        · have e0 : l.filter (fun j => decide (valQ gs s j = valQ gs s i)) = [] := by
            rw [List.filter_eq_nil_iff]
            intro j hj
            have := ok.le j hj
            simp
            intro z
            rw [z] at this
            exact this c1
          rw [List.filter_append, e0]
          simp
      · rw [if_neg c1]
        by_cases c2 : t = valQ gs s i
        · rw [if_pos c2]
          refine ⟨_, _, rfl, fun j hj => ?_, ?_, ?_⟩
          · rcases List.mem_append.mp hj with z | z
            · exact ok.le j z
            · rw [List.mem_singleton.mp z]
              exact c1
          · obtain ⟨j, h1, h2⟩ := ok.mem
            exact ⟨j, List.mem_append_left _ h1, h2⟩
          · rw [List.filter_append, List.map_append, List.sum_append, ← ok.cnt]
            simp [c2]
        · rw [if_neg c2]
          refine ⟨_, _, rfl, fun j hj => ?_, ?_, ?_⟩
          · rcases List.mem_append.mp hj with z | z
            · exact ok.le j z
            · rw [List.mem_singleton.mp z]
              exact c1
          · obtain ⟨j, h1, h2⟩ := ok.mem
            exact ⟨j, List.mem_append_left _ h1, h2⟩
          · rw [List.filter_append, List.map_append, List.sum_append, ← ok.cnt]
            have : ¬ valQ gs s i = t := fun z => c2 z.symm
            simp [this]
theorem foldl_max_ge : ∀ (l : List Int) (a : Int), a ≤ l.foldl max a ∧ ∀ b ∈ l, b ≤ l.foldl max a
  | [], a => ⟨Int.le_refl _, fun b hb => by cases hb⟩
  | c :: l, a => by
    obtain ⟨h1, h2⟩ := foldl_max_ge l (max a c)
    have m1 : a ≤ max a c := Int.le_max_left a c
    have m2 : c ≤ max a c := Int.le_max_right a c
    refine ⟨Int.le_trans m1 h1, fun b hb => ?_⟩
    rcases List.mem_cons.mp hb with rfl | hb
    · exact Int.le_trans m2 h1
    · exact h2 b hb
/-- the law's pair of a set is the program's -/
theorem run_end {gs : List G2} (h8 : gs.length ≤ 8) {s : Nat} (hs : s < 2 ^ gs.length) (h0 : 0 < s) : runL gs s (bitsOf gs.length s) = some (topQ gs s, cntQ gs s) := by
  obtain ⟨t, k, e, ok⟩ := run_ok gs s _ _ rfl (bits_some _ h8 s hs h0)
  have B0 := botQ_pos gs s
  have vE : ∀ i ∈ bitsOf gs.length s, valQ gs s i = mkQ (lastQ gs s i).1 (botQ gs s) := fun i hi => by rw [← last_val h8 hs, lastQ_bot h8 hs hi]
  have tE : topQ gs s = mkQ (tbQ gs s).1 (botQ gs s) := by
    unfold topQ
    rw [tbQ_bot h8 s hs]
  have top : ∀ i ∈ bitsOf gs.length s, (lastQ gs s i).1 ≤ (tbQ gs s).1 := fun i hi => by
    rw [tbQ_eq gs h0]
    cases eb : bitsOf gs.length s with
    | nil => rw [eb] at hi; cases hi
    | cons i0 r =>
      rw [eb] at hi
      show _ ≤ ((r.map (lastQ gs s)).map Prod.fst).foldl max (lastQ gs s i0).1
      obtain ⟨g1, g2⟩ := foldl_max_ge ((r.map (lastQ gs s)).map Prod.fst) (lastQ gs s i0).1
      rcases List.mem_cons.mp hi with rfl | hi
      · exact g1
      · exact g2 _ (List.mem_map.mpr ⟨_, List.mem_map.mpr ⟨i, hi, rfl⟩, rfl⟩)
  have topm : ∃ i ∈ bitsOf gs.length s, (lastQ gs s i).1 = (tbQ gs s).1 := by
    rw [tbQ_eq gs h0]
    cases eb : bitsOf gs.length s with
    | nil => exact absurd eb (bits_some _ h8 s hs h0)
    | cons i0 r =>
      show ∃ i ∈ i0 :: r, (lastQ gs s i).1 = ((r.map (lastQ gs s)).map Prod.fst).foldl max (lastQ gs s i0).1
      rcases foldl_max_mem ((r.map (lastQ gs s)).map Prod.fst) (lastQ gs s i0).1 with h | h
      · exact ⟨i0, List.mem_cons_self .., h.symm⟩
      · obtain ⟨x, hx, ex⟩ := List.mem_map.mp h
        obtain ⟨j, hj, ej⟩ := List.mem_map.mp hx
        exact ⟨j, List.mem_cons_of_mem _ hj, by rw [← ex, ← ej]⟩
  have et : t = topQ gs s := by
    obtain ⟨i, hi, ei⟩ := ok.mem
    obtain ⟨j, hj, ej⟩ := topm
    have h1 := ok.le j hj
    rw [vE j hj, ej, ← tE] at h1
    rw [← ei, vE i hi, tE] at h1 ⊢
    rw [mkQ_lt B0] at h1
    have h2 := top i hi
    have : (lastQ gs s i).1 = (tbQ gs s).1 := by omega
    rw [this]
  subst et
  rw [e, cntQ_eq gs h0, ok.cnt]
  congr 3
  unfold lastsQ
  congr 1
  refine List.filter_congr fun i hi => ?_
  rw [vE i hi, tE]
  by_cases c : (lastQ gs s i).1 = (tbQ gs s).1
  · rw [decide_eq_true c, decide_eq_true ((mkQ_same B0).mpr c)]
  · rw [decide_eq_false c, decide_eq_false (fun z => c ((mkQ_same B0).mp z))]
def tbD (gs : List G2) (s : Nat) : D := .tup [frac (topQ gs s), .int (cntQ gs s)]
def spBelow (R : Rp) : Sp := fun vs H Q _ => ∃ (S : Reg) (v u : V) (n : Nat) (r t : Rat), vs = [v, u] ∧ Is R S H v (frac r) ∧ Is R S H u (frac t) ∧ Sz n r ∧ Sz n t ∧ 0 < n ∧ n ≤ 4000 ∧ Q (.bl (decide (r < t))) H
theorem below_iff (r t : Rat) : (r.num * (t.den : Int) < t.num * (r.den : Int)) ↔ r < t := by
  rw [Rat.lt_iff]
theorem topQ_zero (gs : List G2) : topQ gs 0 = 0 := by
  show mkQ 0 1 = 0
  rw [mkQ_zero (by decide)]
section
variable {X : Cx} {σ : L2.St} {H : Hp} {Q : VK} {k v o i : Expr} {pos : Pos}
end
/-- the two running values, as they stand in the names -/
def RunAt (R : Rp) (S : Reg) (H : Hp) (vt vc : V) : RC → Prop
  | none => vt = .non ∧ vc = .int 0
  | some (t, k) => Is R S H vt (frac t) ∧ vc = .int k ∧ Sz 400 t
theorem RunAt.up {R : Rp} {S : Reg} {H H' : Hp} {vt vc : V} {o : RC} (h : RunAt R S H vt vc o) (s : Same H H') : RunAt R S H' vt vc o := by
  cases o with
  | none => exact h
  | some x => exact ⟨h.1.up s, h.2⟩
/-- the dict of the sets told so far -/
structure TabAt (R : Rp) (S : Reg) (H : Hp) (p : Addr) (gs : List G2) (m : Nat) : Prop where
  ex : ∃ kvs : List (Key × V), H p = some (.dK kvs) ∧ kvs.length ≤ m ∧ ∀ t, t < m → ∃ x, valV kvs (Sum.inl ((t : Nat) : Int)) = some x ∧ Is R S H x (tbD gs t)
theorem TabAt.up {R : Rp} {S : Reg} {H H' : Hp} {p : Addr} {gs : List G2} {m : Nat} (h : TabAt R S H p gs m) (s : Same H H') : TabAt R S H' p gs m := by
  obtain ⟨kvs, h1, h2, h3⟩ := h.ex
  exact ⟨kvs, s _ _ h1, h2, fun t ht => let ⟨x, e, i⟩ := h3 t ht; ⟨x, e, i.up s⟩⟩
end BR

/-! the mathematics of best orders: the greatest amount of a set is that of its orders, and the traced order has it -/
namespace BR
open PySem PySem.Spec PyProof.Rows L2
theorem topQ_max {gs : List G2} (h8 : gs.length ≤ 8) {s : Nat} (hs : s < 2 ^ gs.length) (h0 : 0 < s) :
    (∀ i ∈ bitsOf gs.length s, valQ gs s i ≤ topQ gs s) ∧ (∃ i ∈ bitsOf gs.length s, valQ gs s i = topQ gs s) ∧ ∀ i ∈ bitsOf gs.length s, (i ∈ lastsQ gs s ↔ valQ gs s i = topQ gs s) := by
  obtain ⟨t, k, e, ok⟩ := run_ok gs s _ _ rfl (bits_some _ h8 s hs h0)
  rw [run_end h8 hs h0] at e
  injection e with e
  injection e with e1 e2
  subst e1
  have B0 := botQ_pos gs s
  have vE : ∀ i ∈ bitsOf gs.length s, valQ gs s i = mkQ (lastQ gs s i).1 (botQ gs s) := fun i hi => by rw [← last_val h8 hs, lastQ_bot h8 hs hi]
  have tE : topQ gs s = mkQ (tbQ gs s).1 (botQ gs s) := by
    unfold topQ
    rw [tbQ_bot h8 s hs]
  refine ⟨fun i hi => Rat.not_lt.mp (ok.le i hi), ok.mem, fun i hi => ?_⟩
  rw [vE i hi, tE, mkQ_same B0]
  unfold lastsQ
  rw [List.mem_filter]
  simp [hi]
theorem lasts_ne {gs : List G2} (h8 : gs.length ≤ 8) {s : Nat} (hs : s < 2 ^ gs.length) (h0 : 0 < s) : lastsQ gs s ≠ [] := fun z => by
  obtain ⟨_, ⟨i, hi, e⟩, m⟩ := topQ_max h8 hs h0
  have := (m i hi).mpr e
  rw [z] at this
  cases this
theorem bits_take {n : Nat} (h8 : n ≤ 8) {s i : Nat} (hs : s < 2 ^ n) (hi : i ∈ bitsOf n s) : (bitsOf n s).Perm (i :: bitsOf n (s - 2 ^ i)) := by
  obtain ⟨h1, h2⟩ := List.mem_filter.mp hi
  exact List.isPerm_iff.mp (bits_perm _ h8 s hs i (List.mem_range.mp h1) h2)
/-- the order of a list of indexes, its amount -/
def amtQ (gs : List G2) (l : List Nat) : Rat := (lineQ gs (l.map fun (i : Nat) => (i : Int))).2
theorem amtQ_snoc (gs : List G2) (l : List Nat) (i : Nat) : amtQ gs (l ++ [i]) = (gAt gs (i : Int)).1 * amtQ gs l + (gAt gs (i : Int)).2 := by
  unfold amtQ
  rw [List.map_append]
  show (lineQ gs (_ ++ [(i : Int)])).2 = _
  rw [lineQ_snoc]
  rfl
/-- the smallest of some lists -/
def minN : List (List Nat) → List Nat
  | [] => []
  | x :: xs => xs.foldl (fun a y => if y < a then y else a) x
theorem foldl_minN_mem : ∀ (l : List (List Nat)) (a : List Nat), l.foldl (fun a y => if y < a then y else a) a = a ∨ l.foldl (fun a y => if y < a then y else a) a ∈ l
  | [], a => .inl rfl
  | b :: l, a => by
    show l.foldl _ (if b < a then b else a) = a ∨ l.foldl _ (if b < a then b else a) ∈ b :: l
    rcases foldl_minN_mem l (if b < a then b else a) with h | h
    · rw [h]
      by_cases c : b < a
      · rw [if_pos c]
        exact .inr (List.mem_cons_self ..)
      · rw [if_neg c]
        exact .inl rfl
    · exact .inr (List.mem_cons_of_mem _ h)
theorem minN_mem {l : List (List Nat)} (h : l ≠ []) : minN l ∈ l := by
  cases l with
  | nil => exact absurd rfl h
  | cons a l =>
    rcases foldl_minN_mem l a with e | e
    · show l.foldl _ a ∈ _
      rw [e]
      exact List.mem_cons_self ..
    · exact List.mem_cons_of_mem _ e
def bestF (gs : List G2) : Nat → Nat → List Nat
  | 0, _ => []
  | f + 1, s => if s = 0 then [] else minN ((lastsQ gs s).map fun i => bestF gs f (s - 2 ^ i) ++ [i])
/-- the smallest of the best orders of a set -/
def bestQ (gs : List G2) (s : Nat) : List Nat := bestF gs s s
theorem bestF_fuel (gs : List G2) : ∀ (s f : Nat), s ≤ f → bestF gs f s = bestQ gs s := by
  intro s
  induction s using Nat.strongRecOn with
  | ind s ih =>
    intro f hf
    rcases Nat.eq_zero_or_pos s with z | z
    · subst z
      have e : ∀ g, bestF gs g 0 = [] := fun g => by cases g <;> rfl
      rw [e]
      exact (e 0).symm
    · obtain ⟨f, rfl⟩ : ∃ g, f = g + 1 := ⟨f - 1, by omega⟩
      obtain ⟨s', rfl⟩ : ∃ g, s = g + 1 := ⟨s - 1, by omega⟩
      show (if s' + 1 = 0 then [] else minN _) = (if s' + 1 = 0 then [] else minN _)
      rw [if_neg (by omega), if_neg (by omega)]
      congr 1
      refine List.map_congr_left fun i hi => ?_
      have h2 : 0 < 2 ^ i := Nat.two_pow_pos i
      rw [ih (s' + 1 - 2 ^ i) (by omega) f (by omega), ih (s' + 1 - 2 ^ i) (by omega) s' (by omega)]
theorem bestQ_eq (gs : List G2) {s : Nat} (h0 : 0 < s) : bestQ gs s = minN ((lastsQ gs s).map fun i => bestQ gs (s - 2 ^ i) ++ [i]) := by
  obtain ⟨s', rfl⟩ : ∃ g, s = g + 1 := ⟨s - 1, by omega⟩
  show (if s' + 1 = 0 then [] else minN _) = _
  rw [if_neg (by omega)]
  congr 1
  refine List.map_congr_left fun i hi => ?_
  have h2 : 0 < 2 ^ i := Nat.two_pow_pos i
  rw [bestF_fuel gs (s' + 1 - 2 ^ i) s' (by omega)]
/-- one step of it -/
theorem bestQ_step {gs : List G2} (h8 : gs.length ≤ 8) {s : Nat} (hs : s < 2 ^ gs.length) (h0 : 0 < s) : ∃ i ∈ lastsQ gs s, bestQ gs s = bestQ gs (s - 2 ^ i) ++ [i] := by
  have m := minN_mem (l := (lastsQ gs s).map fun i => bestQ gs (s - 2 ^ i) ++ [i]) (by
    rw [ne_eq, List.map_eq_nil_iff]
    exact lasts_ne h8 hs h0)
  rw [← bestQ_eq gs h0] at m
  obtain ⟨i, hi, e⟩ := List.mem_map.mp m
  exact ⟨i, hi, e.symm⟩
theorem bestQ_ok {gs : List G2} (h8 : gs.length ≤ 8) : ∀ (s : Nat), s < 2 ^ gs.length → (bestQ gs s).Perm (bitsOf gs.length s) ∧ amtQ gs (bestQ gs s) = topQ gs s := by
  intro s
  induction s using Nat.strongRecOn with
  | ind s ih =>
    intro hs
    rcases Nat.eq_zero_or_pos s with z | z
    · subst z
      rw [bits_zero, topQ_zero]
      exact ⟨List.Perm.refl _, rfl⟩
    · obtain ⟨i, hm, e⟩ := bestQ_step h8 hs z
      have hb := lasts_bits hm
      have p2 : 0 < 2 ^ i := Nat.two_pow_pos i
      obtain ⟨a1, a2⟩ := ih (s - 2 ^ i) (by omega) (lt_sub hs)
      refine ⟨?_, ?_⟩
      · rw [e]
        exact (List.perm_append_singleton _ _).trans ((List.Perm.cons _ a1).trans (bits_take h8 hs hb).symm)
      · rw [e, amtQ_snoc, a2]
        exact ((topQ_max h8 hs z).2.2 _ hb).mp hm
theorem bestQ_perm {gs : List G2} (h8 : gs.length ≤ 8) {s : Nat} (hs : s < 2 ^ gs.length) : (bestQ gs s).Perm (bitsOf gs.length s) := (bestQ_ok h8 s hs).1
theorem bits_full : ∀ n ≤ 8, bitsOf n (2 ^ n - 1) = List.range n := by decide +kernel
end BR

/-! what an exchange of neighbouring blocks adds to the amount -/
namespace BR
open PySem PySem.Spec PyProof.Rows L2
end BR

/-! name -= e; a reversed list that is new; the promises of best_order and its like -/
namespace BR
open PySem PySem.Spec PyProof.Rows L2
section
variable {X : Cx} {σ : L2.St} {H : Hp} {D : Ends} {pos p1 p2 p3 : Pos}
end
end BR
namespace BR
open PySem PySem.Spec PyProof.Rows L2
/-- the gate with the opposite amount -/
def ngQ (g : G2) : G2 := (g.1, -g.2)
theorem sz_neg {n : Nat} {r : Rat} (h : Sz n r) : Sz n (-r) := ⟨by show (-r.num).natAbs < 2 ^ n; rw [Int.natAbs_neg]; exact h.num, h.den⟩
end BR
namespace BR
open PySem PySem.Spec PyProof.Rows L2
/-! ### min of lists of indexes -/
abbrev qL (l : List Nat) : PyData := .list ((l.map fun (i : Nat) => (i : Int)).map PyData.int)
end BR

/-! an order without a gain is best -/
namespace BR
open PySem PySem.Spec PyProof.Rows L2
/-! ### crosses -/
end BR

/-! an order without a gain is best: blocks, rotations, the step by the last gate -/
namespace BR
open PySem PySem.Spec PyProof.Rows L2
section
variable {gs : List G2} (pos : ∀ g ∈ gs, 0 < g.1)
include pos
end
/-- r's gate stands before s's -/
abbrev crI (gs : List G2) (r s : Int) : Rat := crossQ (arrQ (gAt gs r)) (arrQ (gAt gs s))
/-- behind i once around: less than half a turn, then more, sorted there -/
def Srt (gs : List G2) (i : Int) (U : List Int) : Prop := ∃ U1 U2, U = U1 ++ U2 ∧ (∀ r ∈ U1, 0 ≤ crI gs i r) ∧ (∀ r ∈ U2, 0 ≤ crI gs r i) ∧ U2.Pairwise fun r s => 0 ≤ crI gs r s
theorem Srt.sub {gs : List G2} {i : Int} {U U' : List Int} (h : Srt gs i U) (s : U'.Sublist U) : Srt gs i U' := by
  obtain ⟨U1, U2, rfl, h1, h2, h3⟩ := h
  obtain ⟨V1, V2, rfl, s1, s2⟩ := List.sublist_append_iff.mp s
  exact ⟨V1, V2, rfl, fun r hr => h1 r (s1.subset hr), fun r hr => h2 r (s2.subset hr), h3.sublist s2⟩
def Rot (l m : List Int) : Prop := ∃ a b, l = a ++ b ∧ m = b ++ a
theorem Rot.refl (l : List Int) : Rot l l := ⟨[], l, rfl, (List.append_nil l).symm⟩
theorem Rot.symm {l m : List Int} (h : Rot l m) : Rot m l := let ⟨a, b, e1, e2⟩ := h; ⟨b, a, e2, e1⟩
theorem Rot.trans {l m k : List Int} (h : Rot l m) (g : Rot m k) : Rot l k := by
  obtain ⟨a, b, rfl, rfl⟩ := h
  obtain ⟨c, d, e, rfl⟩ := g
  rcases List.append_eq_append_iff.mp e with ⟨z, rfl, rfl⟩ | ⟨z, rfl, rfl⟩
  · exact ⟨z, d ++ b, by rw [List.append_assoc], by rw [List.append_assoc]⟩
  · exact ⟨a ++ c, z, by rw [List.append_assoc], by rw [List.append_assoc]⟩
end BR

/-! an order without a gain is best: its gates are sorted once around -/
namespace BR
open PySem PySem.Spec PyProof.Rows L2
end BR

/-! comprehensions of three clauses -/
namespace BR
open PySem PySem.Spec PyProof.Rows L2
section
variable {elt t0 i0 t1 i1 t2 i2 : Expr} {ifs0 ifs1 ifs2 : List Expr} {scope : Scope} {pos : Pos} {it acc : Value} {env : Env}
end
section
variable {prog : Program} {w : World} {A : Around} {R : Result → Shared → Prop} {s : Shared} {elt t0 i0 t1 i1 : Expr} {ifs0 ifs1 : List Expr} {gens : List Comprehension} {scope : Scope} {pos : Pos} {it acc : Value} {env : Env} {d : Nat}
end
section
variable {prog : Program} {w : World} {A : Around} {R : Result → Shared → Prop} {s : Shared} {elt t0 i0 t1 i1 t2 i2 : Expr} {ifs0 ifs1 ifs2 : List Expr} {scope : Scope} {pos : Pos} {it acc : Value} {env : Env}
end
section
variable {X : Cx} {t0 : Shared} {h0 : Hp} {ce : Env} {fp : List Addr} {D : Addr} {elt tg0 iter0 tg1 iter1 tg2 iter2 : Expr} {scope : Scope} {pos : Pos} {g1 g2 : TG} {wi1 wi2 : TI} {te : TE} {vs1 vs2 : List Nat} {pins : List (Addr × Obj)} {σ8 : L2.St} {H9 : Hp} {s9 : Shared} {Nx : Hp → Prop} {Fin : Shared → Prop}
end
section
variable {X : Cx}
end
end BR
namespace BR
open PySem PySem.Spec PyProof.Rows L2
def kI (X : Cx) (sc : Scope) (tg it : Expr) : TI := fun σ H R => ∀ s0 H0 C cl fp, wI (X.blk s0 H0 sc (compEnvC sc cl C X.env) fp) tg it σ H R
section
variable {X : Cx} {σ : L2.St} {H : Hp} {Q : VK} {pos : Pos}
end
/-! ### the pairs of neighbouring blocks, in their order -/
end BR

/-! sizes of lines and paths; what gain answers -/
namespace BR
open PySem PySem.Spec PyProof.Rows L2
theorem Sz.mul {n m : Nat} {r t : Rat} (h : Sz n r) (k : Sz m t) : Sz (n + m) (r * t) := by
  have e : r * t = mkQ (r.num * t.num) (r.den * t.den) := by rw [mkQ_mul, mkQ_self, mkQ_self]
  rw [e]
  exact mkQ_sz (Int.mul_pos (den_pos r) (den_pos t)) (abs_mul h.num k.num) (abs_mul (show ((r.den : Int)).natAbs < 2 ^ n from h.den) (show ((t.den : Int)).natAbs < 2 ^ m from k.den))
theorem Sz.add {n m : Nat} {r t : Rat} (h : Sz n r) (k : Sz m t) : Sz (n + m + 1) (r + t) := by
  have e : r + t = mkQ (r.num * t.den + t.num * r.den) (r.den * t.den) := by rw [mkQ_add (den_pos r) (den_pos t), mkQ_self, mkQ_self]
  rw [e]
  have a1 := abs_mul h.num (show ((t.den : Int)).natAbs < 2 ^ m from k.den)
  have a2 := abs_mul k.num (show ((r.den : Int)).natAbs < 2 ^ n from h.den)
  rw [Nat.add_comm m n] at a2
  have a3 := abs_mul (show ((r.den : Int)).natAbs < 2 ^ n from h.den) (show ((t.den : Int)).natAbs < 2 ^ m from k.den)
  exact mkQ_sz (Int.mul_pos (den_pos r) (den_pos t)) (abs_add a1 a2) (Nat.lt_of_lt_of_le a3 (pow_le2 (Nat.le_succ _)))
theorem Sz.sub {n m : Nat} {r t : Rat} (h : Sz n r) (k : Sz m t) : Sz (n + m + 1) (r - t) := by
  rw [Rat.sub_eq_add_neg]
  exact h.add (sz_neg k)
/-! ### gains -/
def exDI (b m e : Int) (r : Rat) : D := .obj "Exchange" [("begin", .int b), ("middle", .int m), ("end", .int e), ("worth", frac r)]
def spExch (R : Rp) : Sp := fun vs H Q _ => ∃ S H0 n dx x i r, ∃ b m e : Int, vs = [.ref n, .int b, .int m, .int e, x] ∧ Same H0 H ∧ H0 n = none ∧ H n = some (.ins (R.CA "Exchange") dx []) ∧ Live S H0 ∧ Fr R S H0 x i r ∧ i ≤ 9000 ∧
  ∀ H', Same H0 H' → Is R S H' (.ref n) (exDI b m e r) → Sz i r → Q .non H'
structure ExOk (R : Rp) : Prop where
  cl : Cls R.K (R.CA "Exchange")
  n1 : NoAttr R.K (R.CA "Exchange") "begin"
  n2 : NoAttr R.K (R.CA "Exchange") "middle"
  n3 : NoAttr R.K (R.CA "Exchange") "end"
  n4 : NoAttr R.K (R.CA "Exchange") "worth"
theorem putF_ne {f g : Str} {v y : V} {r : List (Str × V)} (h : ¬ g = f) : putF f y ((g, v) :: r) = (g, v) :: putF f y r := by
  show (if g = f then _ else _) = _
  rw [if_neg h]
theorem putF_nil {f : Str} {y : V} : putF f y [] = [(f, y)] := rfl
end BR

/-! best and worst orders as the law's table tells them -/
namespace BR
open PySem PySem.Spec PyProof.Rows L2
theorem nodup_perm : ∀ (l m : List Int), l.Nodup → (∀ a ∈ l, a ∈ m) → m.length ≤ l.length → l.Perm m
  | [], m, _, _, h => by
    rw [List.eq_nil_of_length_eq_zero (Nat.le_zero.mp h)]
  | a :: l, m, hn, hs, h => by
    obtain ⟨m1, m2, rfl⟩ := List.append_of_mem (hs a (List.mem_cons_self ..))
    obtain ⟨h1, h2⟩ := List.nodup_cons.mp hn
    have p := nodup_perm l (m1 ++ m2) h2 (fun b hb => by
      have := hs b (List.mem_cons_of_mem _ hb)
      rcases List.mem_append.mp this with q | q
      · exact List.mem_append_left _ q
      · rcases List.mem_cons.mp q with q | q
        · rw [q] at hb
          exact absurd hb h1
        · exact List.mem_append_right _ q) (by rw [List.length_append] at h ⊢; simp at h; omega)
    exact (List.Perm.cons a p).trans List.perm_middle.symm
/-- an order's own list of indexes -/
theorem ord_nat {n : Nat} {os : List Int} (h : ordB n os = true) : os.Perm (idsI n) := by
  obtain ⟨h1, h2, h3⟩ := ordB_iff.mp h
  refine nodup_perm os (idsI n) h3 (fun i hi => ?_) (by rw [List.length_map, List.length_range, h1]; exact Nat.le_refl _)
  obtain ⟨a, b⟩ := h2 i hi
  exact List.mem_map.mpr ⟨i.toNat, List.mem_range.mpr (by omega), by omega⟩
end BR
namespace BR
open PySem PySem.Spec PyProof.Rows L2
theorem OkN.ints (l : List Int) : OkN 2 (.lst (l.map D.int)) := OkN.lst (k := 1) fun d hd => by
  obtain ⟨i, _, rfl⟩ := List.mem_map.mp hd
  exact OkN.int _
end BR
namespace BR
open PySem PySem.Spec PyProof.Rows L2
theorem tup_tyx {R : Rp} {S : Reg} {H : Hp} {v : V} {ds : List D} (h : Is R S H v (.tup ds)) : TyX R.K H v (.type "tuple") := by
  cases h with
  | tup n e _ => exact .base (.tup e)
  | tupK e _ =>
    obtain ⟨o, its, n, l, c, _⟩ := e
    exact .kTuple l c
theorem lst_tyx {R : Rp} {S : Reg} {H : Hp} {v : V} {ds : List D} (h : Is R S H v (.lst ds)) : TyX R.K H v (.type "list") := by
  obtain ⟨a, xs, rfl, _, e, _⟩ := h.lstE
  exact .base (.lst e)
end BR

namespace BR
open PySem PySem.Spec PyProof.Rows L2
/-! ### own classes compared with own ones; two rules for one comparison; longer ands -/
section
variable {X : Cx} {σ : L2.St} {H : Hp} {Q : VK} {a b c d e : Expr} {pos : Pos}
theorem eAnd5 (h : wE X a σ H fun x H1 => ∃ k, x = .bl k ∧ if k = true then (wE X b σ H1 fun x H2 => ∃ k, x = .bl k ∧ if k = true then (wE X c σ H2 fun x H3 => ∃ k, x = .bl k ∧ if k = true then (wE X d σ H3 fun x H4 => ∃ k, x = .bl k ∧ if k = true then wE X e σ H4 Q else Q (.bl false) H4) else Q (.bl false) H3) else Q (.bl false) H2) else Q (.bl false) H1) : wE X (.BoolOp .And [a, b, c, d, e] pos) σ H Q :=
  uE (pe_and (pE a) (pe_and (pE b) (pe_and (pE c) (pe_and (pE d) (pe_one (pE e)))))) h
end
/-- an own class as isinstance and == want it -/
structure ClC (R : Rp) (mg : Str → Option Value) (c : Str) : Prop where
  nam : NamC R.K mg c (R.CA c)
  cls : Cls R.K (R.CA c)
  cl : PySem.W.findIn R.K (.ref (R.CA c)) "__class__" = some (some (.builtin "object.__class__"))
  mo : PySem.W.mroIn R.K (R.CA c) (.type "object") = some true
  sg : PySem.W.specialIn R.K (.builtin "object.__class__") "__get__" = some (some (.builtin "getset_descriptor.__get__"))
  tk : PySem.W.takesIn R.K (.builtin "object.__class__") = some true
theorem ClC.tyX {R : Rp} {mg : Str → Option Value} {c : Str} {H : Hp} {a dx : Addr} {fs : List (Str × V)} (h : ClC R mg c) (e : H a = some (.ins (R.CA c) dx fs)) : TyX R.K H (.ref a) (.ref (R.CA c)) := .base (.ins e h.cls h.cl h.sg h.tk h.mo)
theorem kit_self {K : PySem.W.Frag} (C : Addr) : PySem.W.kitOne K (.ref C) (.ref C) = some true := by
  unfold PySem.W.kitOne
  rw [if_pos (by simp)]
theorem obj_ins {R : Rp} {S : Reg} {H : Hp} {v : V} {c : Str} {l : List (Str × D)} (h : Is R S H v (.obj c l)) : ∃ a dx fs, v = .ref a ∧ H a = some (.ins (R.CA c) dx fs) := by
  cases h with
  | obj n e _ => exact ⟨_, _, _, rfl, e⟩
theorem okEq_int (i : Int) : (D.int i).okEq = true := (OkN.int (k := 0) i).okEq (by decide)
theorem eqv_int (a b : Int) : D.eqv (.int a) (.int b) = decide (a = b) := by
  simp [D.eqv, D.py, PyData.eqv]
  rfl
theorem lk2 {α : Type} {f g g' : Str} {v w u : α} {r : List (Str × α)} (h : ¬ f = g) (h' : ¬ f = g') : List.lookup f ((g, w) :: (g', u) :: (f, v) :: r) = some v := by rw [lk1 h, lk1 h', lk0]
theorem lk3 {α : Type} {f g g' g'' : Str} {v w u t : α} {r : List (Str × α)} (h : ¬ f = g) (h' : ¬ f = g') (h'' : ¬ f = g'') : List.lookup f ((g, w) :: (g', u) :: (g'', t) :: (f, v) :: r) = some v := by rw [lk1 h, lk1 h', lk1 h'', lk0]
section
variable {R : Rp} {S : Reg} {H : Hp} {x : V} {b m e : Int} {r : Rat} {Q : VK}
theorem fldXb (h : Is R S H x (exDI b m e r)) (c : ExOk R) (q : Q (.int b) H) : rFld R.K "begin" x H Q := fldD h c.cl c.n1 lk0 fun v i => by cases i; exact q
theorem fldXm (h : Is R S H x (exDI b m e r)) (c : ExOk R) (q : Q (.int m) H) : rFld R.K "middle" x H Q := fldD (f := ("middle" : Str)) h c.cl c.n2 ((lk1 (g := ("begin" : Str)) (f := ("middle" : Str)) (by decide +kernel)).trans lk0) fun v i => by cases i; exact q
theorem fldXe (h : Is R S H x (exDI b m e r)) (c : ExOk R) (q : Q (.int e) H) : rFld R.K "end" x H Q := fldD (f := ("end" : Str)) h c.cl c.n3 (lk2 (g := ("begin" : Str)) (g' := ("middle" : Str)) (f := ("end" : Str)) (by decide +kernel) (by decide +kernel)) fun v i => by cases i; exact q
theorem fldXw (h : Is R S H x (exDI b m e r)) (c : ExOk R) (q : ∀ v, Is R S H v (frac r) → Q v H) : rFld R.K "worth" x H Q := fldD (f := ("worth" : Str)) h c.cl c.n4 (lk3 (g := ("begin" : Str)) (g' := ("middle" : Str)) (g'' := ("end" : Str)) (f := ("worth" : Str)) (by decide +kernel) (by decide +kernel) (by decide +kernel)) q
end
/-! ### the first gain as the law seeks it -/
end BR
namespace BR
open PySem PySem.Spec PyProof.Rows L2
end BR

namespace BR
open PySem PySem.Spec PyProof.Rows L2
/-! ### three stores at once; zip of two lists -/
section
variable {X : Cx} {σ : L2.St} {H : Hp} {D : Ends} {a b c : Expr} {pos : Pos}
end
/-! ### the orders of a climb -/
/-! a number for each order -/
abbrev iD (l : List Int) : D := .lst (l.map D.int)
end BR
namespace BR
open PySem PySem.Spec PyProof.Rows L2
theorem OkN.lists {α : Type} (f : α → List Int) (l : List α) : OkN 3 (.lst (l.map fun a => iD (f a))) := OkN.lst (k := 2) fun d hd => by
  obtain ⟨i, _, rfl⟩ := List.mem_map.mp hd
  exact OkN.ints _
end BR

namespace BR
open PySem PySem.Spec PyProof.Rows L2
/-! ### all orders of a set, and how many of them are best -/
/-! ### the orders as the laws list them -/
abbrev toI (l : List Nat) : List Int := l.map fun (i : Nat) => (i : Int)
end BR

namespace BR
open PySem PySem.Spec PyProof.Rows L2
/-! ### gates for numbers measured otherwise, inverse gates, tight bounds -/
def ivQ (g : G2) : G2 := (g.1⁻¹, -g.2 * g.1⁻¹)
/-! the same exchange -/
theorem inv_pos {m : Rat} (h : 0 < m) : 0 < m⁻¹ := by
  have e := Rat.inv_mul_cancel m (by grind)
  by_cases c : 0 < m⁻¹
  · exact c
  · have := Rat.mul_le_mul_of_nonneg_right (Rat.not_lt.mp c) (Rat.le_of_lt h)
    rw [e, Rat.zero_mul] at this
    exact absurd this (by decide)
/-! tight bounds -/
structure POkT (g : G2) : Prop extends POk g where
  f4 : Bd 4 4 g.1
  a100 : Bd 100 100 g.2
theorem Bd.mono {A B C E : Nat} {r : Rat} (h : Bd A B r) (a : A ≤ C) (b : B ≤ E) : Bd C E r := ⟨Nat.le_trans h.num a, Nat.le_trans h.den b⟩
theorem POkT.of {g : G2} (p : 0 < g.1) (f : Bd 4 4 g.1) (a : Bd 100 100 g.2) : POkT g := { pos := p, f := f.mono (by decide) (by decide), a := a.mono (by decide) (by decide), f4 := f, a100 := a }
theorem bd_inv {r : Rat} (h : 0 < r) {A B : Nat} (k : Bd A B r) : Bd B A r⁻¹ := by
  have hn : 0 < r.num := by
    rw [Rat.lt_iff] at h
    simpa using h
  have := mkQ_div (a := 1) (b := 1) (c := r.num) (d := (r.den : Int)) (by decide) (den_pos r) hn
  rw [mkQ_self, Int.one_mul, Int.one_mul, show mkQ 1 1 = 1 from rfl, Rat.div_def, Rat.one_mul] at this
  rw [← this]
  have h1 := k.num
  have h2 := k.den
  exact Bd.mk' hn (by omega) (by omega)
theorem POkT.iv {g : G2} (h : POkT g) : POk (ivQ g) := by
  have i := bd_inv h.pos h.f4
  exact ⟨inv_pos h.pos, i.mono (by decide) (by decide), (h.a100.neg.mul i).mono (by decide) (by decide)⟩
end BR

namespace BR
open PySem PySem.Spec PyProof.Rows L2
/-! ### orders as rows of gates: gates joined, added, exchanged -/
theorem one_pos {gs : List G2} (pos : ∀ g ∈ gs, 0 < g.1) : ∀ g ∈ gs ++ [((1 : Rat), (0 : Rat))], 0 < g.1 := fun x hx => by
  rcases List.mem_append.mp hx with z | z
  · exact pos x z
  · rw [List.mem_singleton.mp z]
    decide
end BR
namespace BR
open PySem PySem.Spec PyProof.Rows L2
theorem IsA.take {R : Rp} {S : Reg} {H : Hp} : ∀ {vs : List V} {ds : List D} (n : Nat), IsA R S H vs ds → IsA R S H (vs.take n) (ds.take n)
  | _, _, 0, _ => by rw [List.take_zero, List.take_zero]; exact .nil
  | _, _, n + 1, .nil => .nil
  | _, _, n + 1, .cons a b => .cons a (IsA.take n b)
end BR

namespace BR
open PySem PySem.Spec PyProof.Rows L2
/-! ### lambdas without parameters; tables of code objects -/
abbrev ExtN := LamX.ExtN
abbrev Tabs := LamX.Tabs
abbrev TabB := LamX.TabB
section
variable {R : Rp} {S T : Reg} {H H' : Hp}
mutual
/-- values outlast the making of a lambda: no table is part of a value -/
theorem Is.ext (k : ∀ a o, H a = some o → (∀ ps, o ≠ .tbl ps) → ¬ S a → ¬ T a ∧ H' a = some o) : ∀ {v : V} {d : D}, Is R S H v d → Is R T H' v d
  | _, _, .non => .non
  | _, _, .bl b => .bl b
  | _, _, .int i => .int i
  | _, _, .str x => .str x
  | _, _, .tup n e h => .tup (k _ _ e (fun _ z => by cases z) n).1 (k _ _ e (fun _ z => by cases z) n).2 (IsA.ext k h)
  | _, _, .tupK e h => .tupK e (IsA.ext k h)
  | _, _, .lst n e h => .lst (k _ _ e (fun _ z => by cases z) n).1 (k _ _ e (fun _ z => by cases z) n).2 (IsA.ext k h)
  | _, _, .obj n e h => .obj (k _ _ e (fun _ z => by cases z) n).1 (k _ _ e (fun _ z => by cases z) n).2 (IsF.ext k h)
theorem IsA.ext (k : ∀ a o, H a = some o → (∀ ps, o ≠ .tbl ps) → ¬ S a → ¬ T a ∧ H' a = some o) : ∀ {v : List V} {d : List D}, IsA R S H v d → IsA R T H' v d
  | _, _, .nil => .nil
  | _, _, .cons a b => .cons (Is.ext k a) (IsA.ext k b)
theorem IsF.ext (k : ∀ a o, H a = some o → (∀ ps, o ≠ .tbl ps) → ¬ S a → ¬ T a ∧ H' a = some o) : ∀ {v : List (Str × V)} {d : List (Str × D)}, IsF R S H v d → IsF R T H' v d
  | _, _, .nil => .nil
  | _, _, .cons a b => .cons (Is.ext k a) (IsF.ext k b)
end
/-- the tables' addresses -/
def tblR (H : Hp) : Reg := fun a => ∃ ps, H a = some (.tbl ps)
theorem Is.en {v : V} {d : D} (h : Is R S H v d) (e : ExtN H H') : Is R S H' v d := h.ext fun a o q n s => ⟨s, e a o q n⟩
theorem IsA.en {v : List V} {d : List D} (h : IsA R S H v d) (e : ExtN H H') : IsA R S H' v d := h.ext fun a o q n s => ⟨s, e a o q n⟩
theorem Is.tb {v : V} {d : D} (h : Is R S H v d) : Is R (fun a => S a ∨ tblR H a) H v d := h.ext fun a o q n s => ⟨fun z => z.elim s fun ⟨ps, y⟩ => n ps (Option.some.inj (q.symm.trans y)), q⟩
theorem en_of (s : Same H H') : ExtN H H' := LamX.ExtN.of s
theorem GatesAt.en {v : V} {gs : List G2} {n : Nat} (h : GatesAt R S H v gs n) (e : ExtN H H') : GatesAt R S H' v gs n := { h with ex := h.ex.imp fun _ z => ⟨z.1.en e, z.2⟩ }
theorem PairsAt.en {v : V} {gs : List G2} (h : PairsAt R S H v gs) (e : ExtN H H') : PairsAt R S H' v gs := { h with ex := h.ex.en e }
end
/-! a def that makes lambdas: its code object is known -/
structure FunC (K : PySem.W.Frag) (x qual : Str) (st : Stmt) (f : Addr) (fd : FuncData) (c : Addr) : Prop where
  ex : ∃ (oc : Value) (od : Option Addr) (kV doc pm : Value) (an : Option Addr) (ct : Value) (osl : Array (Option Value)), fd = PySem.W.fnOf x qual (defArgs st) (defBody st) (defScope st) .none kV doc pm an (.ref c) ct ∧ K.lookup f = some ⟨oc, od, .func fd, osl⟩ ∧ PySem.W.codeIn K (.ref c) qual = true
  kp : PySem.W.keepIn K (.ref f) = true
structure DefAtC (K : PySem.W.Frag) (mg : Str → Option Value) (x : Str) (st : Stmt) (ps : List Str) (c : Addr) : Prop where
  ex : ∃ f fd, FunC K x x st f fd c ∧ mg x = some (.ref f) ∧ BndL K f fd ps
section
variable {P : Program} {w : World} {K : PySem.W.Frag} {mg : Str → Option Value} {base : Heap} {k : Nat} {x qual : Str} {st : Stmt} {N ps : List Str} {sp : Sp}
theorem okL {f c : Addr} {fd : FuncData} (F : FunC K x qual st f fd c) (S : FnScope N ps (defScope st)) (len : ∀ vs H Q E, sp vs H Q E → vs.length = ps.length)
    (h : ∀ (X : Cx) (H : Hp) (vs : List V) (Q : VK) (E : XK), (∃ A outer s, X = (cxOf (L2.CX P w) P w K mg base N qual (defScope st) f (.ref c) A outer s H E).nox) → Room k X.A → Takes X W0 → sp vs H Q E →
      wB X (defBody st) { nx := fun _ H' => Q .non H', rt := Q } (start N vs) H) : FnOk P w K mg base (L2.CX P w) (k + 1) f fd ps sp := by
  obtain ⟨oc, od, kV, doc, pm, an, ct, osl, rfl, lk, hcd⟩ := F.ex
  exact fn_of lk hcd S len fun A outer s H vs Q E hr hs => ⟨_, (pB (X := (cxOf (L2.CX P w) P w K mg base N qual (defScope st) f (.ref c) A outer s H E).nox) (defBody st)).nox, h _ H vs Q E ⟨A, outer, s, rfl⟩ hr takes0 hs⟩
end
section
variable {X : Cx} {σ : L2.St} {H : Hp} {Q : VK}
end
end BR

namespace BR
open PySem PySem.Spec PyProof.Rows L2
/-! ### errors without an __init__ of their own; lists and orders that are refused -/
abbrev veL : List Value := [.type "ValueError", .type "Exception", .type "BaseException", .type "object"]
structure ErrN (K : PySem.W.Frag) (mg : Str → Option Value) (x : Str) (C : Addr) : Prop where
  er : ErrC K mg x C
  q : PySem.W.excIn K C veL "ValueError.__new__" = true
  kC : PySem.W.keepIn K (.ref C) = true
  eb : PySem.W.subIn K (.ref C) (.type "BaseException") = some true
  ty : PySem.W.typeIn K (.ref C) = some (.type "type")
section
variable {X : Cx} {σ : L2.St} {H : Hp} {D : Ends} {x : Str} {C : Addr} {p pos p2 : Pos} {W : WX}
end
section
open PySem.W
variable {K : PySem.W.Frag} {h : Heap} {mg : Str → Option Value} {x : Str} {f c : Addr} {st : Stmt} {ps : List Str}
theorem defAtC_mk {od an : Option Addr} {sl : Array (Option Value)} {oc kV dc pm ct : Value} (X : K.In h) (G : h.Ns mainGlobals mg) (b : ∀ (kV doc pm : Value) (an : Option Addr) (cdv ct : Value) (us : List Value), us.length = ps.length → bindArgs (fnOf x x (L2.defArgs st) (L2.defBody st) (L2.defScope st) .none kV doc pm an cdv ct) ⟨us, []⟩ = pure (ps.zip us))
    (a : nsIn K mainGlobals x = some (some (.ref f))) (l : K.lookup f = some ⟨oc, od, .func (fnOf x x (L2.defArgs st) (L2.defBody st) (L2.defScope st) .none kV dc pm an (.ref c) ct), sl⟩) (cd : codeIn K (.ref c) x = true) (k : keepIn K (.ref f) = true) : DefAtC K mg x st ps c := by
  have F := L2.fun_mk (st := st) l cd k
  exact ⟨f, _, ⟨⟨_, _, _, _, _, _, _, _, rfl, l, cd⟩, k⟩, mg_of X G a, F.binds b, _, _, _, l⟩
end
theorem cx_never {P : World → Program} : ∀ (w : World) (H : Hp) (s : Shared) (e : Value) (s' : Shared), L2.CX (P w) w [] H s (fun _ _ _ => False) e s' → False := fun _ _ _ _ _ z => by
  obtain ⟨_, _, _, _, _, _, _, _, _, _, _, _, z⟩ := z
  exact z
/-- the law's own promise, with empty tables to begin with -/
def spLawT (K : PySem.W.Frag) (cs : List (Addr × Addr)) : Sp := fun vs H Q _ => ∃ (a : Addr) (ns : List Int), vs = [.ref a] ∧ SqL K H a (ns.map V.int) ∧ ns.length ≤ 63 ∧ (∀ p ∈ cs, H p.2 = some (.tbl #[])) ∧ ∀ H', Q (.bl true) H'
end BR

namespace BR
open PySem PySem.Spec PyProof.Rows L2
/-! ### laws with tables; == of lists of the same objects; lists put together -/
/-- the name that a lambda of the def q bears -/
abbrev lamQ (q : Str) : Str := (envOfC q (defScope (.Pass ⟨0, 0, 0, 0⟩)) 0 0 .none).qual ++ "<lambda>"
theorem OrdAt.en {R : Rp} {S : Reg} {H H' : Hp} {v : V} {n : Nat} {os : List Int} (h : OrdAt R S H v n os) (e : ExtN H H') : OrdAt R S H' v n os := ⟨h.ex.imp fun _ z => ⟨z.1.en e, z.2⟩, h.ok⟩
theorem Dr.en {s : Addr} {H H' : Hp} (d : Dr s H H') : Kp (Src s) H H' := d.kp
theorem SrcAt.en {s : Addr} {H H' : Hp} (h : SrcAt H s) (e : ExtN H H') : SrcAt H' s := by
  obtain ⟨x, y, z, q⟩ := h
  exact ⟨x, y, z, e _ _ q fun ps z => by cases z⟩
theorem Tabs.dr {T : List (Addr × Str)} {s : Addr} {H H' : Hp} (h : Tabs T H) (hs : SrcAt H s) (d : Dr s H H') : Tabs T H' := fun x hx => by
  obtain ⟨a, b, c, hsr⟩ := hs
  obtain ⟨ps, h1, h2, h3⟩ := h x hx
  refine ⟨ps, d.kp _ _ (fun z => ?_) h1, h2, fun pos cv hc => ?_⟩
  · have z : x.1 = s := z
    rw [z, hsr] at h1
    cases h1
  · obtain ⟨c, e1, e2⟩ := h3 pos cv hc
    exact ⟨c, e1, d.kp _ _ (fun z => by
      have z : c = s := z
      rw [z, hsr] at e2
      cases e2) e2⟩
theorem tabs_nil {T : List (Addr × Str)} {H : Hp} (h : ∀ x ∈ T, H x.1 = some (.tbl #[])) : Tabs T H := fun x hx => ⟨#[], h x hx, by first | exact trivial | constructor | decide, fun pos cv hc => by cases hc⟩
section
variable {X : Cx} {σ : L2.St} {H : Hp} {D : Ends}
end
theorem IsA.rep1 {R : Rp} {S : Reg} {H : Hp} {v : V} {d : D} (h : Is R S H v d) : ∀ k : Nat, IsA R S H (List.replicate k [v]).flatten (List.replicate k d)
  | 0 => .nil
  | k + 1 => by
    rw [List.replicate_succ, List.replicate_succ]
    exact .cons h (IsA.rep1 h k)
theorem IsA.apd {R : Rp} {S : Reg} {H : Hp} : ∀ {vs us : List V} {ds es : List D}, IsA R S H vs ds → IsA R S H us es → IsA R S H (vs ++ us) (ds ++ es)
  | _, _, _, _, .nil, k => k
  | _, _, _, _, .cons a b, k => .cons a (b.apd k)
/-- [e] * k -/
theorem eRepD {X : Cx} {σ : L2.St} {H : Hp} {Q : VK} {R : Rp} {S : Reg} {e : Expr} {pl pk pos : Pos} {jk : Nat} (k : Nat) (h : wE X e σ H fun v H1 => ∃ d, Live S H1 ∧ Is R S H1 v d ∧ ∀ v2 H2, Same H1 H2 → Is R S H2 v2 (.lst (List.replicate k d)) → Q v2 H2) (hk : k ≤ 1000 := by decide)
    (hst : starEach [e] X.env = (false, eval e X.env) :: starEach [] X.env := by rfl) : wE X (.BinOp (.List [e] pl) .Mult (.Constant (.int (k : Int)) jk pk) pos) σ H Q := by
  refine eOp op_rep <| eLst <| aCons (h.mono ?_) hst
  rintro v H1 ⟨d, l, i, q⟩
  refine aNil ⟨by show 1 ≤ sizeLine; decide, fun p hp => ?_⟩
  have s1 := same_new (o := HO.lst [v]) hp
  have hp1 : upd H1 p (.lst [v]) p = some (.lst [v]) := upd_same
  generalize upd H1 p (.lst [v]) = H2 at s1 hp1
  refine eI ⟨p, _, _, rfl, rfl, hp1, by omega, by omega, Nat.le_of_lt (small1000 (by simp; omega)), fun p2 hp2 => ?_⟩
  rw [Int.toNat_natCast]
  exact q _ _ (s1.trans (same_new hp2)) (Is.newL (l.up s1) hp2 (IsA.rep1 (i.up s1) k))
theorem GatesAt.no {R : Rp} {S : Reg} {H : Hp} {v : V} {gs : List G2} {n : Nat} (h : GatesAt R S H v gs n) : GatesAt R (fun _ => False) H v gs n := { h with ex := h.ex.imp fun _ z => ⟨z.1.reg fun _ z => z.elim, z.2⟩ }

/-- all but s and the tables is kept -/
structure DrN (s : Addr) (H H' : Hp) : Prop where
  kp : ∀ a o, a ≠ s → H a = some o → (∀ ps, o ≠ .tbl ps) → H' a = some o
  src : SrcAt H' s
theorem DrN.of {s : Addr} {H H1 H2 : Hp} (d : Dr s H H1) (e : ExtN H1 H2) : DrN s H H2 := ⟨fun a o n q t => e a o (d.kp a o n q) t, d.src.en e⟩
theorem DrN.refl {s : Addr} {H : Hp} (h : SrcAt H s) : DrN s H H := ⟨fun _ _ _ q _ => q, h⟩
theorem DrN.trans {s : Addr} {H H1 H2 : Hp} (d : DrN s H H1) (e : DrN s H1 H2) : DrN s H H2 := ⟨fun a o n q t => e.kp a o n (d.kp a o n q t) t, e.src⟩
theorem Is.no {R : Rp} {S : Reg} {H : Hp} {v : V} {d : D} (h : Is R S H v d) : Is R (fun _ => False) H v d := h.reg fun _ z => z.elim
/-! lists and tuples that hold the same objects -/
mutual
inductive EqS (K : PySem.W.Frag) (H : Hp) : Nat → V → V → Prop
  | flat {n : Nat} {v : V} (h : flatB v = true) : EqS K H n v v
  | one {n : Nat} {a : Addr} : EqS K H n (.ref a) (.ref a)
  | lst {n : Nat} {a b : Addr} {xs ys : List V} (h1 : SqL K H a xs) (h2 : SqL K H b ys) (h : EqSs K H n xs ys) : EqS K H (n + 1) (.ref a) (.ref b)
  | tup {n : Nat} {a b : Addr} {xs ys : List V} (h1 : SqT K H a xs) (h2 : SqT K H b ys) (h : EqSs K H n xs ys) : EqS K H (n + 1) (.ref a) (.ref b)
inductive EqSs (K : PySem.W.Frag) (H : Hp) : Nat → List V → List V → Prop
  | nil {n : Nat} : EqSs K H n [] []
  | cons {n : Nat} {x y : V} {xs ys : List V} (h : EqS K H n x y) (t : EqSs K H n xs ys) : EqSs K H n (x :: xs) (y :: ys)
end
theorem EqSs.len {K : PySem.W.Frag} {H : Hp} {n : Nat} : ∀ {xs ys : List V}, EqSs K H n xs ys → xs.length = ys.length
  | _, _, .nil => rfl
  | _, _, .cons _ t => congrArg (· + 1) t.len
theorem Sz.neg {n : Nat} {r : Rat} (h : Sz n r) : Sz n (-r) := ⟨by rw [Rat.neg_num, Int.natAbs_neg]; exact h.num, by rw [Rat.neg_den]; exact h.den⟩
theorem EqSs.self {K : PySem.W.Frag} {H : Hp} {n : Nat} : ∀ {xs : List V}, (∀ x ∈ xs, flatB x = true ∨ ∃ a, x = .ref a) → EqSs K H n xs xs
  | [], _ => .nil
  | x :: xs, h => .cons ((h x (List.mem_cons_self ..)).elim .flat fun ⟨a, e⟩ => by rw [e]; exact .one) (EqSs.self fun y hy => h y (List.mem_cons_of_mem _ hy))
section
variable {X : Cx} {pins : List (Addr × Obj)} {σ : L2.St} {H : Hp} {s : Shared}
end
/-! lists put together and cut, by their data -/
section
variable {R : Rp} {S : Reg} {H : Hp} {x y : V} {ds es : List D} {Q : VK}
theorem catN (h1 : Is R S H x (.lst ds)) (h2 : Is R S H y (.lst es)) (hl : ds.length + es.length ≤ 1000) (q : ∀ p xs, H p = none → IsA R S H xs (ds ++ es) → Q (.ref p) (upd H p (.lst xs))) : rCatR R.K x y H Q := by
  obtain ⟨a, xs, rfl, _, e1, a1⟩ := h1.lstE
  obtain ⟨b, ys, rfl, _, e2, a2⟩ := h2.lstE
  exact ⟨a, b, xs, ys, rfl, rfl, SqL.of e1, SqL.of e2, Nat.le_of_lt (small1000 (by rw [a1.len, a2.len]; exact hl)), fun p hp => q p _ hp (a1.apd a2)⟩
theorem catD (h1 : Is R S H x (.lst ds)) (h2 : Is R S H y (.lst es)) (l : Live S H) (hl : ds.length + es.length ≤ 1000) (q : ∀ v H', Same H H' → Is R S H' v (.lst (ds ++ es)) → Q v H') : rCatR R.K x y H Q :=
  catN h1 h2 hl fun p xs hp a => q _ _ (same_new hp) (Is.newL l hp a)
theorem IsA.drop {R : Rp} {S : Reg} {H : Hp} : ∀ {vs : List V} {ds : List D} (n : Nat), IsA R S H vs ds → IsA R S H (vs.drop n) (ds.drop n)
  | _, _, 0, h => h
  | _, _, n + 1, .nil => .nil
  | _, _, n + 1, .cons _ b => b.drop n
theorem slTake (h : Is R S H x (.lst ds)) (l : Live S H) (n : Nat) (q : ∀ v H', Same H H' → Is R S H' v (.lst (ds.take n)) → Q v H') : rSlL R.K x none (some (n : Int)) H Q := by
  obtain ⟨p, xs, rfl, _, e, a⟩ := h.lstE
  exact ⟨p, xs, rfl, SqL.of e, fun c hc => q _ _ (same_new hc) (Is.newL l hc (by rw [cut_take]; exact a.take n))⟩
theorem slDrop {σ : L2.St} (h : Is R S H x (.lst ds)) (l : Live S H) (n : Nat) (q : ∀ v H', Same H H' → Is R S H' v (.lst (ds.drop n)) → Q v H') : tNoPart σ H fun u H3 => rSlL R.K x (some (n : Int)) u H3 Q := by
  show rSlL R.K x (some (n : Int)) none H Q
  obtain ⟨p, xs, rfl, _, e, a⟩ := h.lstE
  exact ⟨p, xs, rfl, SqL.of e, fun c hc => q _ _ (same_new hc) (Is.newL l hc (by rw [cut_drop]; exact a.drop n))⟩
end
end BR

namespace BR
open PySem PySem.Spec PyProof.Rows L2
/-! ### x in list, where == of the elements is read as it runs -/
section
variable {prog : Program} {w : World} {A : Around} {R : Result → Shared → Prop}
def ContI (prog : Program) (w : World) (A : Around) (R : Result → Shared → Prop) (l : Addr) (x : Value) (N : Nat) (I : Nat → Shared → Prop) : Prop :=
  ∀ i s, I i s → ∃ items n dd sl, s.heap.get? l = some { cls := .type "list", dict := dd, data := .seq items n, slots := sl } ∧ items.size = N ∧ ∀ h : i < items.size, wpAny (model prog w) A.in1 (eqBool items[i] x) (fun r s' => if r = true then R (.ok (.ret (.bool true))) s' else I (i + 1) s') (fun e s' => R (.error e) s') s
theorem cont_loop {l : Addr} {x : Value} {N : Nat} {I : Nat → Shared → Prop} (hI : ContI prog w A R l x N I) (hd : ∀ s, I N s → R (.ok (.ret (.bool false))) s) :
    ∀ k i, N - i = k → i ≤ N → ∀ s, I i s → wpAny (model prog w) A.in1 (Builtin.«list.__contains__.loop» ⟨[.ref l, x, rawInt (i : Int)], []⟩) (GQ.FinOf prog w A R) (fun e s' => R (.error e) s') s := by
  intro k
  induction k with
  | zero =>
    intro i hk hi s h
    obtain ⟨items, n, dd, sl, hg, hs, _⟩ := hI i s h
    have e : i = N := by omega
    subst e
    obtain ⟨hp, g, d, t, os⟩ := s
    unfold Builtin.«list.__contains__.loop» Builtin.List.listItems seqItems?
    refine wpAny_bind (wpAny_bind (wpAny_bind (wpAny_load' hg ?_)))
    refine wpAny_pure (wpAny_pure ?_)
    have e1 : items[(i : Int).toNat]? = none := by
      rw [Int.toNat_natCast]
      exact Array.getElem?_eq_none (by omega)
    simp only [e1]
    exact wpAny_pure (hd _ h)
  | succ k ih =>
    intro i hk hi s h
    obtain ⟨items, n, dd, sl, hg, hs, hstep⟩ := hI i s h
    have hlt : i < items.size := by omega
    have hw := hstep hlt
    obtain ⟨hp, g, d, t, os⟩ := s
    unfold Builtin.«list.__contains__.loop» Builtin.List.listItems seqItems?
    refine wpAny_bind (wpAny_bind (wpAny_bind (wpAny_load' hg ?_)))
    refine wpAny_pure (wpAny_pure ?_)
    have e1 : items[(i : Int).toNat]? = some items[i] := by
      rw [Int.toNat_natCast]
      exact Array.getElem?_eq_getElem hlt
    simp only [e1]
    refine wpAny_bind (wpAny_mono hw (fun r s' q => ?_) fun _ _ e => e)
    cases r with
    | true => exact wpAny_pure q
    | false =>
      refine wpAny_pure ⟨plainId_quiet MeetsSeq.plain_contains_loop _, codeAny_builtin MeetsSeq.entry_contains_loop ?_⟩
      rw [Around.under_plainId MeetsSeq.plain_contains_loop]
      exact ih (i + 1) (by omega) (by omega) s' q
theorem cont_list {l : Addr} {x : Value} {N : Nat} {I : Nat → Shared → Prop} (hI : ContI prog w A R l x N I) (hd : ∀ s, I N s → R (.ok (.ret (.bool false))) s) {s : Shared} (h : I 0 s) :
    wpAny (model prog w) A.in1 (Builtin.«list.__contains__» ⟨[.ref l, x], []⟩) (GQ.FinOf prog w A R) (fun e s' => R (.error e) s') s := by
  have z := cont_loop hI hd N 0 (by omega) (by omega) s h
  unfold Builtin.«list.__contains__»
  repeat (first
    | (refine wpAny_pure ⟨plainId_quiet MeetsSeq.plain_contains_loop _, codeAny_builtin MeetsSeq.entry_contains_loop ?_⟩
       rw [Around.under_plainId MeetsSeq.plain_contains_loop]
       exact z)
    | wp_step)
end

section
variable {prog : Program} {w : World} {A : Around} {E : Value → Shared → Prop} {K : PySem.W.Frag} {a C f t : Addr} {oa ot : Obj} {od : Option Obj} {v : Value} {s : Shared}
/-- what is no tuple (no list) is none to a tuple's == (a list's) -/
theorem decl_tup (h : s.TypeIs v "tuple") (X : K.In s.heap) (I : PySem.W.InstAt s.heap a oa C od) (hs : PySem.W.subIn K (.ref C) (.type "tuple") = some false) {Q : Value → Shared → Prop} (q : Q .notImplemented s) : wpAny (model prog w) A (call (.builtin "tuple.__eq__") [v, .ref a]) Q E s := by
  refine GQ.call_here F.slot_tuple_eq h F.entry_tuple_eq (F.args_tuple_eq_2 _ _) ?_
  show wpAny _ _ (slotArgs "__eq__" 1 ⟨[v, .ref a], []⟩ >>= _) _ _ _
  repeat (first
    | exact q
    | exact wpAny_pure q
    | (refine wpAny_bind (m := isInstance (.ref a) (.type "tuple")) (wpAny_bind (I.type.here ((PySem.W.looks_subIn X hs).here ?_))))
    | wp_step)
theorem decl_lst (h : s.TypeIs v "list") (X : K.In s.heap) (I : PySem.W.InstAt s.heap a oa C od) (hs : PySem.W.subIn K (.ref C) (.type "list") = some false) {Q : Value → Shared → Prop} (q : Q .notImplemented s) : wpAny (model prog w) A (call (.builtin "list.__eq__") [v, .ref a]) Q E s := by
  refine GQ.call_here F.slot_list_eq h F.entry_list_eq (F.args_list_eq_2 _ _) ?_
  show wpAny _ _ (slotArgs "__eq__" 1 ⟨[v, .ref a], []⟩ >>= _) _ _ _
  repeat (first
    | exact q
    | exact wpAny_pure q
    | (refine wpAny_bind (m := isInstance (.ref a) (.type "list")) (wpAny_bind (I.type.here ((PySem.W.looks_subIn X hs).here ?_))))
    | wp_step)
/-- v == x where v's own type knows nothing of x: x's own __eq__ is asked -/
theorem reflOwn {T id : String} {Q : Value → Shared → Prop} (ht : s.TypeIs v T) (L : PySem.W.Looks (model prog w) s.heap (typeOf v) (.type T)) (sl : Slot T "__eq__" id) (one : oneThing? .Eq v (.ref a) = none)
    (decl : ∀ Q' : Value → Shared → Prop, Q' .notImplemented s → wpAny (model prog w) A (call (.builtin id) [v, .ref a]) Q' E s) (hu : A.units < cLine) (X : K.In s.heap) (I : PySem.W.InstAt s.heap a oa C od) (nT : PySem.W.subIn K (.ref C) (.type T) = some false)
    (hs : PySem.W.findIn K (.ref C) "__eq__" = some (some (.ref f))) (hf : PySem.W.isFn K (.ref f) = true) (hc : wpAny (model prog w) A (call (.ref f) [.ref a, v]) (fun r s' => ∃ b, r = .bool b ∧ Q (.bool b) s') E s) : wpAny (model prog w) A (richCompare .Eq v (.ref a)) Q E s := by
  have two : wpAny (model prog w) A (tryCompare (.ref a) "__eq__" v) (fun r s' => ∃ b, r = some (.bool b) ∧ Q (.bool b) s') E s := by
    unfold tryCompare
    refine wpAny_bind (PySem.W.ifBound_K X I hs hf (wpAny_mono hc (fun r s' y => ?_) fun _ _ y => y))
    obtain ⟨b, rfl, q⟩ := y
    exact wpAny_pure ⟨b, rfl, q⟩
  have nn : wpAny (model prog w) A (tryCompare v "__eq__" (.ref a)) (fun r s' => r = none ∧ s' = s) E s := wpAny_tryCompare_declines ht sl (decl _ ⟨rfl, rfl, rfl⟩)
  simp only [richCompare, cmpInfo_Eq, one]
  refine wpAny_holding (wpAny_bind (wpAny_cRoomFor hu ?_))
  refine wpAny_bind (L.here (wpAny_bind (I.type.here ?_)))
  split
  · refine wpAny_bind ((PySem.W.looks_subIn X nT).here ?_)
    simp only [Bool.false_eq_true, if_false]
    refine wpAny_bind (wpAny_mono nn (fun r s' z => ?_) fun _ _ e => e)
    obtain ⟨rfl, rfl⟩ := z
    simp only [Bool.not_false, if_true]
    refine wpAny_bind (wpAny_mono two (fun r s' z => ?_) fun _ _ e => e)
    obtain ⟨b, rfl, q⟩ := z
    exact wpAny_pure q
  · next q => exact absurd (show (Value.type T != Value.ref C) = true by simp) q
end

/-- how the elements are held against one another, at some depth below X.A -/
def EqB (X : Cx) (n : Nat) (r : R2) : Prop := ∀ {A : Around} {pins : List (Addr × Obj)} {s : Shared} {σ : L2.St} {H : Hp} {y x : V} {v u : Value} {Q : VK}, Sub X n A → Inv X pins σ H s → RelV y v → RelV x u → r y x H Q →
  wpAny (model X.prog X.w) A (eqBool v u) (fun b s' => ∃ H', Inv X pins σ H' s' ∧ Q (.bl b) H') X.xe s
theorem EqB.or {X : Cx} {n : Nat} {r r' : R2} (h : EqB X n r) (k : EqB X n r') : EqB X n fun y x H Q => r y x H Q ∨ r' y x H Q := fun sb I r1 r2 q => q.elim (h sb I r1 r2) (k sb I r1 r2)
theorem EqB.mono {X : Cx} {n m : Nat} {r : R2} (h : EqB X n r) (hn : n ≤ m) : EqB X m r := fun sb I r1 r2 q => h ⟨sb.room.mono hn, sb.fr⟩ I r1 r2 q
theorem eqb_own {X : Cx} {k : Nat} {C : Addr} {ps : List Str} {sp : Sp} (G : MethG X.prog X.w X.K X.mg X.base k C "__eq__" ps sp) (tk : Takes X W0) : EqB X k fun y x H Q => (∃ a b, y = .ref a ∧ x = .ref b ∧ a ≠ b) ∧ rOwn X.K C sp id y x H Q := fun {A pins s σ H y x v u Q} sb I r1 r2 q => by
  obtain ⟨⟨a, b, rfl, rfl, hne⟩, a', dx, fs, e, ha, hn, q⟩ := q
  cases e
  cases r1
  cases r2
  obtain ⟨f, fd, hc, hm, Ff, ⟨hb, _⟩⟩ := G.ex
  obtain ⟨mA, J, _⟩ := ins_get I.hok ha
  obtain ⟨od, J, _⟩ := J.look
  obtain ⟨tb, L, nf⟩ := notSub_looks I (show RelV (V.ref b) (Value.ref b) from rfl) hn
  obtain ⟨m, hF⟩ := I.fr
  refine GQ.eqBool_refG hne ?_
  refine PySem.W.cmp_K (op := .Eq) (tb := tb) sb.room.units0 hF I.ok.mod.kin J L nf hm.at_ hm.fn ?_
  refine wpAny_mono (own_run Ff sb hb tk I (vs := [V.ref a, V.ref b]) (us := [Value.ref a, Value.ref b]) (.cons rfl (.cons rfl .nil)) q) (fun v s' z => ?_) fun _ _ e => e
  obtain ⟨v', H', I', rv, b, rfl, q'⟩ := z
  cases rv
  exact ⟨b, rfl, H', I', q'⟩
/-- C is no kind of tuple, list or None -/
structure NoSeq (K : PySem.W.Frag) (C : Addr) : Prop where
  tup : PySem.W.subIn K (.ref C) (.type "tuple") = some false
  lst : PySem.W.subIn K (.ref C) (.type "list") = some false
  non : PySem.W.subIn K (.ref C) (.type "NoneType") = some false
theorem eqb_refl {X : Cx} {k : Nat} {C : Addr} {ps : List Str} {sp : Sp} (G : MethG X.prog X.w X.K X.mg X.base k C "__eq__" ps sp) (N : NoSeq X.K C) (tk : Takes X W0) :
    EqB X k fun y x H Q => ∃ a dx fs, x = .ref a ∧ H a = some (.ins C dx fs) ∧ ((∃ p xs, y = .ref p ∧ SqT X.K H p xs) ∨ (∃ p xs, y = .ref p ∧ SqL X.K H p xs) ∨ y = .non) ∧ sp [x, y] H (fun v H' => ∃ b, v = .bl b ∧ Q (.bl b) H') fun _ _ _ => False := fun {A pins s σ H y x v u Q} sb I r1 r2 q => by
  obtain ⟨a, dx, fs, rfl, ha, hy, q⟩ := q
  cases r2
  obtain ⟨f, fd, hc, hm, Ff, ⟨hb, _⟩⟩ := G.ex
  obtain ⟨mA, J, _⟩ := ins_get I.hok ha
  obtain ⟨od, J, _⟩ := J.look
  have call : wpAny (model X.prog X.w) A (call (.ref f) [.ref a, v]) (fun r s' => ∃ b, r = .bool b ∧ ∃ H', Inv X pins σ H' s' ∧ Q (.bl b) H') X.xe s := by
    refine wpAny_mono (own_run Ff sb hb tk I (vs := [V.ref a, y]) (us := [Value.ref a, v]) (.cons rfl (.cons r1 .nil)) q) (fun v s' z => ?_) fun _ _ e => e
    obtain ⟨v', H', I', rv, b, rfl, q'⟩ := z
    cases rv
    exact ⟨b, rfl, H', I', q'⟩
  rcases hy with ⟨p, xs, rfl, hp⟩ | ⟨p, xs, rfl, hp⟩ | rfl
  · cases r1
    obtain ⟨its, rv, ⟨o, e, c, _⟩, _⟩ := I.tuple hp
    have ht : s.TypeIs (.ref p) "tuple" := ⟨o, e, c⟩
    have hne : p ≠ a := fun z => by
      subst z
      have e2 := J.at_
      rw [e] at e2
      have := J.cls
      rw [← Option.some.inj e2, c] at this
      cases this
    refine GQ.eqBool_refG hne (reflOwn ht (c ▸ (PySem.W.Looks.ld e).andThen .now) F.slot_tuple_eq (oneThing_ref _ _ _) (fun Q' q' => decl_tup ht I.kIn J N.tup q') sb.room.units0 I.kIn J N.tup hm.at_ hm.fn ?_)
    refine wpAny_mono call (fun r s' z => ?_) fun _ _ e => e
    obtain ⟨b, rfl, z⟩ := z
    exact ⟨b, rfl, b, rfl, z⟩
  · cases r1
    obtain ⟨its, rv, pl, _⟩ := I.list hp
    obtain ⟨o, e, c, _⟩ := pl.isList
    have ht : s.TypeIs (.ref p) "list" := ⟨o, e, c⟩
    have hne : p ≠ a := fun z => by
      subst z
      have e2 := J.at_
      rw [e] at e2
      have := J.cls
      rw [← Option.some.inj e2, c] at this
      cases this
    refine GQ.eqBool_refG hne (reflOwn ht (c ▸ (PySem.W.Looks.ld e).andThen .now) F.slot_list_eq (oneThing_ref _ _ _) (fun Q' q' => decl_lst ht I.kIn J N.lst q') sb.room.units0 I.kIn J N.lst hm.at_ hm.fn ?_)
    refine wpAny_mono call (fun r s' z => ?_) fun _ _ e => e
    obtain ⟨b, rfl, z⟩ := z
    exact ⟨b, rfl, b, rfl, z⟩
  · cases r1
    have ht : s.TypeIs .none "NoneType" := rfl
    have rc : wpAny (model X.prog X.w) A (richCompare .Eq .none (.ref a)) (fun r s' => ∃ b, r = .bool b ∧ ∃ H', Inv X pins σ H' s' ∧ Q (.bl b) H') X.xe s := by
      refine reflOwn ht (PySem.W.Looks.of_pure rfl) F.slot_NoneType_eq rfl (fun Q' q' => call_gives F.slot_NoneType_eq ht F.entry_NoneType_eq (F.args_NoneType_eq_2 _ _) (SeqAt.NoneType___eq___none_ref_0 a) q') sb.room.units0 I.kIn J N.non hm.at_ hm.fn ?_
      refine wpAny_mono call (fun r s' z => ?_) fun _ _ e => e
      obtain ⟨b, rfl, z⟩ := z
      exact ⟨b, rfl, b, rfl, z⟩
    unfold eqBool
    refine wpAny_holding ?_
    rw [if_neg (by simp)]
    refine wpAny_bind (wpAny_mono rc (fun r s' z => ?_) fun _ _ e => e)
    obtain ⟨b, rfl, H', I', q'⟩ := z
    exact wpAny_truthy_bool ⟨H', I', q'⟩
/-- the elements one by one, until one is alike -/
def anyB (r : R2) (p : Addr) (all : List V) (x : V) : List V → Hp → VK → Prop
  | [], H, Q => Q (.bl false) H
  | y :: ys, H, Q => r y x H fun v H' => H' p = some (.lst all) ∧ ∃ b, v = .bl b ∧ if b = true then Q (.bl true) H' else anyB r p all x ys H' Q
def rInB (r : R2) (g : Bool → Bool) : R2 := fun x c H Q => ∃ (p : Addr) (all : List V), c = .ref p ∧ H p = some (.lst all) ∧ anyB r p all x all H fun v H' => ∃ b, v = .bl b ∧ Q (.bl (g b)) H'
section
variable {X : Cx} {n : Nat} {r : R2}
theorem in_run (E : EqB X n r) (hr : Room (n + 1) X.A) {pins : List (Addr × Obj)} {s : Shared} {σ : L2.St} {H : Hp} {x : V} {u : Value} {Q : VK} {p : Addr} {all : List V} (I : Inv X pins σ H s) (rx : RelV x u) (hp : H p = some (.lst all)) (q : anyB r p all x all H Q) :
    wpAny (model X.prog X.w) X.A (contains (.ref p) u) (fun b s' => ∃ H', Inv X pins σ H' s' ∧ Q (.bl b) H') X.xe s := by
  obtain ⟨its, rv, ⟨o, m, ho, hc, hdn, hd⟩, hlen⟩ := I.list (SqL.of hp)
  have ht : s.TypeIs (.ref p) "list" := ⟨_, ho, hc⟩
  refine wpAny_contains_slot ht F.slot_list_contains ?_
  refine GQ.call_here F.slot_list_contains ht F.entry_list_contains (F.args_list_contains_2 _ _) ?_
  refine cont_list (N := all.length) (I := fun i s' => ∃ H', Inv X pins σ H' s' ∧ H' p = some (.lst all) ∧ i ≤ all.length ∧ anyB r p all x (all.drop i) H' Q) ?_ ?_ ⟨H, I, hp, Nat.zero_le _, q⟩
  · rintro i s1 ⟨H1, I1, hp1, hi, q1⟩
    obtain ⟨its, rv, ⟨⟨cls, dd, data, sl⟩, m, ho, hc, hdn, hd⟩, hlen⟩ := I1.list (SqL.of hp1)
    simp only at hc hdn hd
    subst hc hdn hd
    have lv := rv.length
    refine ⟨its.toArray, m, _, sl, ho, by simp; omega, fun hlt => ?_⟩
    have hl : i < all.length := by
      have : i < its.length := hlt
      omega
    obtain ⟨w', e1, r1⟩ := rv.get (List.getElem?_eq_getElem hl)
    have e2 : its.toArray[i] = w' := by
      have : its[i]? = some its[i] := List.getElem?_eq_getElem hlt
      rw [this] at e1
      exact Option.some.inj e1
    rw [e2]
    rw [List.drop_eq_getElem_cons hl] at q1
    refine wpAny_mono (E (A := X.A.in1) (Sub.in1 ⟨hr, rfl⟩) I1 r1 rx q1) (fun b s2 z => ?_) fun _ _ e => e
    obtain ⟨H2, I2, hp2, b', eb, z⟩ := z
    cases eb
    cases b with
    | true => exact wpAny_truthy_bool ⟨H2, I2, z⟩
    | false => exact ⟨H2, I2, hp2, hl, z⟩
  · rintro s1 ⟨H1, I1, _, _, q1⟩
    rw [List.drop_length] at q1
    exact wpAny_truthy_bool ⟨H1, I1, q1⟩
theorem op_inB (E : EqB X n r) (hr : Room (n + 1) X.A) : OpR X (compareOp .In) (rInB r id) := by
  intro pins s σ H x c u v Q I rx rc h
  obtain ⟨p, all, rfl, hp, q⟩ := h
  cases rc
  refine wpAny_bind (wpAny_mono (in_run E hr I rx hp q) (fun b s' z => ?_) fun _ _ e => e)
  obtain ⟨H', I', b', e, q'⟩ := z
  cases e
  exact wpAny_pure ⟨.bl b, H', I', rfl, q'⟩
theorem op_notInB (E : EqB X n r) (hr : Room (n + 1) X.A) : OpR X (compareOp .NotIn) (rInB r not) := by
  intro pins s σ H x c u v Q I rx rc h
  obtain ⟨p, all, rfl, hp, q⟩ := h
  cases rc
  refine wpAny_bind (wpAny_mono (in_run E hr I rx hp q) (fun b s' z => ?_) fun _ _ e => e)
  obtain ⟨H', I', b', e, q'⟩ := z
  cases e
  exact wpAny_pure ⟨.bl !b, H', I', rfl, q'⟩
end
end BR

namespace BR
open PySem PySem.Spec PyProof.Rows L2
/-! ### texts of numbers and fractions -/
def nT (z : Int) : List Nat := (if z < 0 then [45] else []) ++ TL.numL z.natAbs
/-! ### sizes in tens -/
/-! ### rules of texts -/
section
variable {X : Cx} {σ : L2.St} {H : Hp} {Q : VK} {R : Rp} {S : Reg} {pos p1 p2 p3 : Pos} {a b o e tg : Expr} {es : List Expr}
theorem iS {T : It → Hp → Prop} (h : wE X e σ H fun x H1 => ∃ z, x = .str z ∧ T (Its z) H1) : wI X tg e σ H T := uI (pi_str (pE e)) h
end
/-! ### promises -/
/-- an error of the class at C has come, with its one field -/
def Gone1 (f : Str) (C : Addr) (H : Hp) (v : V) (E : XK) : Prop := ∀ d H', Same H H' → H d = none → H' d = some (.xd [(f, v)]) → E (.ref C) (some d) H'
theorem Gone1.same {f : Str} {C : Addr} {H H' : Hp} {v : V} {E : XK} (h : Gone1 f C H v E) (s : Same H H') : Gone1 f C H' v E := fun d H2 s2 hd he => h d H2 (s.trans s2) (s.free hd) he
section
end
/-! ### the law's own texts -/
theorem mkQ_times {t b m : Int} (hb : 0 < b) (hm : 0 < m) : mkQ (t * m) (b * m) = mkQ t b := by
  rw [mkQ_inj (Int.mul_pos hb hm) hb, Int.mul_assoc, Int.mul_comm m b]
end BR

namespace BR
open PySem PySem.Spec PyProof.Rows L2
/-! ### tuples whose elements' own == is run -/
section
variable {prog : Program} {w : World} {A : Around} {R : Result → Shared → Prop}
theorem tup_ne_run {l b : Addr} {items items2 : Array Value} {n n2 : Nat} {dd dd2 : Option Addr} {sl sl2 : Array (Option Value)} {J : Nat → Shared → Prop} (hsz : items.size = items2.size) {s : Shared}
    (hl : s.heap.get? l = some { cls := .type "tuple", dict := dd, data := .seq items n, slots := sl }) (hb : s.heap.get? b = some { cls := .type "tuple", dict := dd2, data := .seq items2 n2, slots := sl2 })
    (step : ∀ i (h1 : i < items.size) (h2 : i < items2.size) s', J i s' → wpAny (model prog w) A.in1 (eqBool items[i] items2[i]) (fun r s2 => if r = true then J (i + 1) s2 else R (.ok (.ret (.bool true))) s2) (fun e s2 => R (.error e) s2) s')
    (fin : ∀ s', J items.size s' → R (.ok (.ret (.bool false))) s') (h0 : J 0 s) :
    wpAny (model prog w) A.in1 (Builtin.«tuple.__ne__» ⟨[.ref l, .ref b], []⟩) (GQ.FinOf prog w A R) (fun e s' => R (.error e) s') s := by
  obtain ⟨hp, g, d, tk, os⟩ := s
  have f2 := AutoSeq1.sub_tuple_tuple
  have hZ : (items.toList.zip items2.toList).length = items.size := by simp; omega
  wp_walk using wpAny_loadPart' hl, wpAny_loadPart' hb, wpAny_forIn_list _ (fun rest b s' => b.1 = none ∧ ∃ i, rest = (items.toList.zip items2.toList).drop i ∧ i ≤ items.size ∧ J i s') _
  case turn =>
    rintro ⟨y, x⟩ rest b s' ⟨hb', i, hz, hi, hJ⟩
    have hlt : i < (items.toList.zip items2.toList).length := by
      rcases Nat.lt_or_ge i (items.toList.zip items2.toList).length with h' | h'
      · exact h'
      · rw [List.drop_of_length_le h'] at hz; cases hz
    have h1 : i < items.size := hZ ▸ hlt
    have h2 : i < items2.size := hsz ▸ h1
    rw [List.drop_eq_getElem_cons hlt] at hz
    injection hz with hyx hrest
    have hy : y = items[i] := by have := congrArg Prod.fst hyx; simpa using this
    have hx : x = items2[i] := by have := congrArg Prod.snd hyx; simpa using this
    subst hy hx
    refine wpAny_bind (wpAny_mono (step i h1 h2 s' hJ) (fun r s2 q => ?_) fun _ _ e => e)
    cases r with
    | true =>
      have q : J (i + 1) s2 := q
      wp_walk
      exact ⟨rfl, i + 1, hrest, h1, q⟩
    | false =>
      have q : R (.ok (.ret (.bool true))) s2 := q
      wp_walk
      exact q
  case fin =>
    rintro ⟨b1, b2⟩ s' ⟨hb', i, hz, hi, hJ⟩
    simp only at hb'
    subst hb'
    have hge : i = items.size := by
      rcases Nat.lt_or_ge i (items.toList.zip items2.toList).length with h' | h'
      · rw [List.drop_eq_getElem_cons h'] at hz; cases hz
      · rw [hZ] at h'
        omega
    subst hge
    have q := fin _ hJ
    wp_walk
    simpa [Builtin.Tuple.tupleCompareSizes, hsz] using q
  case h =>
    exact ⟨rfl, 0, rfl, Nat.zero_le _, h0⟩
end
section
variable {X : Cx} {n : Nat} {r : R2}
end
/-! ### try with several clauses, each with the same name -/
section
variable {X : Cx} {n : Str} {i : Nat} {body : List Stmt} {h0 : ExceptHandler} {hds : List ExceptHandler} {l : List (Value × TSx)} {pos : Pos} {tb : WX → TS} {Wout : WX}
end
/-! ### the law's own reading of a text -/
theorem OkN.str {k : Nat} {x : Str} (h : PyData.strOk x = true) : OkN (k + 1) (.str x) := ⟨rfl, by simp [D.py, PyData.canLay0, h], by simp only [D.py, PyData.depth]; omega⟩
theorem OkN.non {k : Nat} : OkN (k + 1) .non := ⟨rfl, by simp [D.py, PyData.canLay0], by simp only [D.py, PyData.depth]; omega⟩
section
variable {X : Cx} {σ : L2.St} {H : Hp} {Q : VK} {pos p1 : Pos} {o e : Expr}
end
/-! ### lists of texts: tokens out, replace, insert, picks -/
section
variable {X : Cx} {σ : L2.St} {H : Hp} {Q : List V → Hp → Prop} {e o b : Expr} {es : List Expr} {pos p1 p2 p3 : Pos}
end
section
variable {R : Rp} {s : Addr} {H : Hp} {Q : VK}
end
section
variable {X : Cx} {σ : L2.St} {H : Hp} {D : Ends} {o e : Expr} {es : List Expr} {p1 p2 pos : Pos}
end
theorem atI_nat {α : Type} {xs : List α} {i : Nat} {x : α} (h : xs[i]? = some x) : atI xs (i : Int) = some x := by
  have hi := (List.getElem?_eq_some_iff.mp h).1
  unfold atI ixN
  rw [if_pos (by omega), if_pos (by omega)]
  show xs[(i : Int).toNat]? = _
  rw [Int.toNat_natCast]
  exact h
end BR

namespace BR
open PySem PySem.Spec PyProof.Rows L2
/-! None among None and tuples -/
section
variable {X : Cx} {σ : L2.St} {H : Hp} {Q : VK} {pos p1 p2 : Pos} {o e : Expr} {es : List Expr}
end
end BR

namespace BR
open PySem PySem.Spec PyProof.Rows L2
/-! ### == and != of data that are alike, objects with their own == within -/
section
variable {prog : Program} {w : World} {A : Around} {R : Result → Shared → Prop}
theorem ne_loopG (l b : Addr) (N : Nat) (I : Nat → Shared → Prop) (hl : GQ.ListI prog w A (fun e s' => R (.error e) s') l b N I)
    (fin : ∀ s, I N s → R (.ok (.ret (.bool false))) s) (k : Nat) :
    ∀ i : Nat, N - i = k → i ≤ N → ∀ s, I i s →
      wpAny (model prog w) A.in1 (Builtin.«list.__eq__.loop» ⟨[.ref l, .ref b, rawInt i, rawInt 3], []⟩) (GQ.FinOf prog w A R) (fun e s' => R (.error e) s') s := by
  induction k with
  | zero =>
    intro i hk hi s h
    obtain ⟨items, items2, n, n2, hl1, hb1, hs1, hs2, _⟩ := hl _ _ h
    have hi' : i = N := by omega
    have hR : R (.ok (.ret (.bool false))) s := fin s (hi' ▸ h)
    obtain ⟨hp, g, d, tk, os⟩ := s
    wp_walk using wpAny_loadPart' hl1, wpAny_loadPart' hb1
    have hi1 : items[((i : Nat) : Int).toNat]? = none := by simp; omega
    have hi2 : items2[((i : Nat) : Int).toNat]? = none := by simp; omega
    rw [hi1, hi2]
    wp_walk using wpAny_loadPart' hl1, wpAny_loadPart' hb1
    show R (.ok (.ret (.bool (items.size != items2.size)))) _
    rw [hs1, hs2]
    simpa using hR
  | succ k ih =>
    intro i hk hi s h
    obtain ⟨items, items2, n, n2, hl1, hb1, hs1, hs2, turn⟩ := hl _ _ h
    have hlt : i < items.size := by omega
    have hlt2 : i < items2.size := by omega
    have ht := turn hlt hlt2
    obtain ⟨hp, g, d, tk, os⟩ := s
    wp_walk using wpAny_loadPart' hl1, wpAny_loadPart' hb1
    have hi1 : items[((i : Nat) : Int).toNat]? = some items[i] := by simp [hlt]
    have hi2 : items2[((i : Nat) : Int).toNat]? = some items2[i] := by simp [hlt2]
    have hc : ((i : Int) + 1) = ((i + 1 : Nat) : Int) := by omega
    rw [hi1, hi2]
    refine wpAny_bind (wpAny_mono ht (fun r s2 h2 => ?_) fun _ _ x => x)
    obtain ⟨hr, h2⟩ := h2
    subst hr
    have hrec := ih (i + 1) (by omega) (by omega) s2 h2
    obtain ⟨hp2, g2, d2, tk2, os2⟩ := s2
    wp_walk
    rw [hc]
    exact ⟨plainId_quiet MeetsSeq3.plain_eq_loop _, codeAny_builtin MeetsSeq3.entry_eq_loop (by
      rw [Around.under_plainId MeetsSeq3.plain_eq_loop _]
      exact hrec)⟩
theorem list_neG (l b : Addr) (N : Nat) (I : Nat → Shared → Prop) (hl : GQ.ListI prog w A (fun e s' => R (.error e) s') l b N I)
    (fin : ∀ s, I N s → R (.ok (.ret (.bool false))) s) {s : Shared} (h : I 0 s) :
    wpAny (model prog w) A.in1 (Builtin.«list.__ne__» ⟨[.ref l, .ref b], []⟩) (GQ.FinOf prog w A R) (fun e s' => R (.error e) s') s := by
  obtain ⟨items, items2, n, n2, hl1, hb1, hs1, hs2, _⟩ := hl _ _ h
  have hrec := ne_loopG (A := A) (R := R) l b N I hl fin _ 0 rfl (Nat.zero_le _) s h
  obtain ⟨hp, g, d, tk, os⟩ := s
  have f3 := AutoSeq1.sub_list_list
  have hne : ¬ (items.size != items2.size) = true := by simp [hs1, hs2]
  wp_walk using wpAny_loadPart' hl1, wpAny_loadPart' hb1
  exact ⟨plainId_quiet MeetsSeq3.plain_eq_loop _, codeAny_builtin MeetsSeq3.entry_eq_loop (by
    rw [Around.under_plainId MeetsSeq3.plain_eq_loop _]
    exact hrec)⟩
end
section
variable {X : Cx} {n m : Nat} {D : Eqv}
def NeG (X : Cx) (n : Nat) (D : Eqv) : Prop :=
  ∀ (A : Around) (pins : List (Addr × Obj)) (s : Shared) (σ : L2.St) (H : Hp) (x y : V) (u v : Value), Sub X n A → Inv X pins σ H s → RelV x u → RelV y v → D x y H →
    wpAny (model X.prog X.w) A (richCompare .NotEq u v) (fun r s' => r = .bool false ∧ ∃ H', Inv X pins σ H' s' ∧ Ext H H') X.xe s
theorem neG_list (hD : Mon D) (h : EqG X n D) : NeG X (n + 1) (DList D) := by
  intro A pins s σ H x y u v sb I rx ry d
  obtain ⟨a, b, xs, ys, rfl, rfl, ha, hb, p⟩ := d
  cases rx
  cases ry
  have li : GQ.ListI X.prog X.w A X.xe a b xs.length (fun _ s' => LoopI X pins σ H s') := fun i s' q => by
    obtain ⟨H1, I1, e1⟩ := id q
    obtain ⟨z, its, k, r, e⟩ := I1.hok a _ (e1 _ _ ha)
    obtain ⟨z2, its2, k2, r2, e2⟩ := I1.hok b _ (e1 _ _ hb)
    refine ⟨its.toArray, its2.toArray, k, k2, e, e2, by rw [List.size_toArray, ← r.length], by rw [List.size_toArray, ← r2.length, ← p.1], fun h1 h2 => ?_⟩
    exact turnG hD h sb p r r2 i h1 h2 s' q
  have q0 : LoopI X pins σ H s := ⟨H, I, Ext.rfl'⟩
  obtain ⟨items, items2, n1, n2, hl1, hb1, _, _, _⟩ := li 0 s q0
  refine wpAny_richCompare_same_room (op := .NotEq) ⟨_, hl1, rfl⟩ ⟨_, hb1, rfl⟩ F.slot_list_ne (GQ.call_here F.slot_list_ne ⟨_, hl1, rfl⟩ F.entry_list_ne (F.args_list_ne_2 _ _) ?_) sb.room.units0
  exact list_neG a b xs.length _ li (fun s' q => ⟨(fun x => nomatch x), rfl, q⟩) q0
theorem neG_tup (hD : Mon D) (h : EqG X n D) : NeG X (n + 1) (DTup X.K D) := by
  intro A pins s σ H x y u v sb I rx ry d
  obtain ⟨a, b, xs, ys, rfl, rfl, ha, hb, p⟩ := d
  cases rx
  cases ry
  obtain ⟨its, r, e, z⟩ := I.tuple ha
  obtain ⟨its2, r2, e2, z2⟩ := I.tuple hb
  have hsz : its.toArray.size = its2.toArray.size := by rw [List.size_toArray, List.size_toArray, ← r.length, ← r2.length]; exact p.1
  obtain ⟨⟨cls, dd, data, sl⟩, ho, hc, m, hd⟩ := id e
  obtain ⟨⟨cls2, dd2, data2, sl2⟩, ho2, hc2, m2, hd2⟩ := id e2
  simp only at hc hd hc2 hd2
  subst hc hd hc2 hd2
  refine wpAny_richCompare_same_room (op := .NotEq) ⟨_, ho, rfl⟩ ⟨_, ho2, rfl⟩ F.slot_tuple_ne (GQ.call_here F.slot_tuple_ne ⟨_, ho, rfl⟩ F.entry_tuple_ne (F.args_tuple_ne_2 _ _) ?_) sb.room.units0
  refine tup_ne_run (J := fun _ s' => LoopI X pins σ H s') hsz ho ho2 (fun i h1 h2 s' q => ?_) (fun s' q => ⟨(fun x => nomatch x), rfl, q⟩) ⟨H, I, Ext.rfl'⟩
  refine wpAny_mono (turnG hD h sb p r r2 i h1 h2 s' q) (fun b s2 q2 => ?_) fun _ _ e => e
  obtain ⟨rfl, q2⟩ := q2
  exact q2
end
/-! data with objects: how deep, and which objects -/
mutual
def D.dep : D → Nat
  | .tup l => D.deps l + 1
  | .lst l => D.deps l + 1
  | _ => 0
def D.deps : List D → Nat
  | [] => 0
  | d :: r => max (D.dep d) (D.deps r)
end
mutual
def D.objs (P : Str → List (Str × D) → Prop) : D → Prop
  | .tup l => D.objss P l
  | .lst l => D.objss P l
  | .obj c l => P c l
  | _ => True
def D.objss (P : Str → List (Str × D) → Prop) : List D → Prop
  | [] => True
  | d :: r => D.objs P d ∧ D.objss P r
end
theorem D.deps_le {l : List D} {n : Nat} (h : ∀ d ∈ l, d.dep ≤ n) : D.deps l ≤ n := by
  induction l with
  | nil => exact Nat.zero_le _
  | cons d r ih =>
    unfold D.deps
    exact Nat.max_le.mpr ⟨h d (List.mem_cons_self ..), ih fun e he => h e (List.mem_cons_of_mem _ he)⟩
theorem D.objss_of {P : Str → List (Str × D) → Prop} {l : List D} (h : ∀ d ∈ l, d.objs P) : D.objss P l := by
  induction l with
  | nil => trivial
  | cons d r ih => exact ⟨h d (List.mem_cons_self ..), ih fun e he => h e (List.mem_cons_of_mem _ he)⟩
def DObj (R : Rp) (P : Str → List (Str × D) → Prop) : Eqv := fun x y H => ∃ S S' c l, Is R S H x (.obj c l) ∧ Is R S' H y (.obj c l) ∧ P c l
theorem mon_obj {R : Rp} {P : Str → List (Str × D) → Prop} : Mon (DObj R P) := fun _ _ _ _ e ⟨S, S', c, l, h, k, p⟩ => ⟨S, S', c, l, h.up e, k.up e, p⟩
def DataAt (R : Rp) (P : Str → List (Str × D) → Prop) : Nat → Eqv
  | 0 => fun x y H => DFlat x y H ∨ DObj R P x y H
  | n + 1 => fun x y H => DataAt R P n x y H ∨ (DList (DataAt R P n) x y H ∨ DTup R.K (DataAt R P n) x y H)
theorem mon_data {R : Rp} {P : Str → List (Str × D) → Prop} : ∀ n, Mon (DataAt R P n)
  | 0 => mon_flat.or mon_obj
  | n + 1 => (mon_data n).or ((mon_list (mon_data n)).or (mon_tup (mon_data n)))
theorem eqG_data {X : Cx} {R : Rp} {P : Str → List (Str × D) → Prop} {k : Nat} (hK : R.K = X.K) (E : EqG X k (DObj R P)) : ∀ n, EqG X (k + n) (DataAt R P n)
  | 0 => (eqG_flat.mono (Nat.zero_le _)).or E
  | n + 1 => ((eqG_data hK E n).mono (by omega)).or ((eqG_list (mon_data n) (eqG_data hK E n)).or (by rw [hK]; exact eqG_tup (mon_data n) (eqG_data hK E n)))
theorem data_up {R : Rp} {P : Str → List (Str × D) → Prop} {x y : V} {H : Hp} {n m : Nat} (h : DataAt R P n x y H) (k : n ≤ m) : DataAt R P m x y H := by
  induction m with
  | zero =>
    have e : n = 0 := by omega
    subst e
    exact h
  | succ m ih =>
    by_cases e : n = m + 1
    · subst e
      exact h
    · exact .inl (ih (by omega))
section
variable {R : Rp} {S S' : Reg} {H : Hp} {P : Str → List (Str × D) → Prop}
theorem eqV_str (x : Str) : eqV (.str x) (.str x) = true := beq_self_eq_true x
mutual
theorem data_of {n : Nat} : ∀ {d : D} {x y : V}, Is R S H x d → Is R S' H y d → d.dep ≤ n → d.objs P → DataAt R P n x y H
  | .non, _, _, .non, .non, _, _ => data_up (n := 0) (.inl ⟨rfl, rfl, rfl⟩) (Nat.zero_le _)
  | .bl b, _, _, .bl _, .bl _, _, _ => data_up (n := 0) (.inl ⟨rfl, rfl, by cases b <;> rfl⟩) (Nat.zero_le _)
  | .int i, _, _, .int _, .int _, _, _ => data_up (n := 0) (.inl ⟨rfl, rfl, by simp [eqV]⟩) (Nat.zero_le _)
  | .str s, _, _, .str _, .str _, _, _ => data_up (n := 0) (.inl ⟨rfl, rfl, eqV_str s⟩) (Nat.zero_le _)
  | .obj c l, _, _, h, k, _, p => data_up (n := 0) (.inr ⟨S, S', c, l, h, k, p⟩) (Nat.zero_le _)
  | .tup l, _, _, h, k, dp, p => by
    obtain ⟨a, xs, rfl, h1, ax⟩ := h.tupE
    obtain ⟨b, ys, rfl, h2, ay⟩ := k.tupE
    match n, dp with
    | n + 1, dp => exact .inr (.inr ⟨a, b, xs, ys, rfl, rfl, h1, h2, datas_of ax ay (Nat.le_of_succ_le_succ dp) p⟩)
  | .lst l, _, _, h, k, dp, p => by
    obtain ⟨a, xs, rfl, _, h1, ax⟩ := h.lstE
    obtain ⟨b, ys, rfl, _, h2, ay⟩ := k.lstE
    match n, dp with
    | n + 1, dp => exact .inr (.inl ⟨a, b, xs, ys, rfl, rfl, h1, h2, datas_of ax ay (Nat.le_of_succ_le_succ dp) p⟩)
theorem datas_of {n : Nat} : ∀ {ds : List D} {xs ys : List V}, IsA R S H xs ds → IsA R S' H ys ds → D.deps ds ≤ n → D.objss P ds → Prs (DataAt R P n) xs ys H
  | [], _, _, .nil, .nil, _, _ => Prs.nil
  | d :: r, _, _, .cons a b, .cons a' b', dp, p => by
    have e := Nat.max_le.mp (show max (D.dep d) (D.deps r) ≤ n from dp)
    exact Prs.cons (data_of a a' e.1 p.1) (datas_of b b' e.2 p.2)
end
end
/-- two lists or two tuples of the same data -/
def rNeA (R : Rp) (P : Str → List (Str × D) → Prop) (n : Nat) : R2 := fun x y H Q => ∃ S S' d l, Is R S H x d ∧ Is R S' H y d ∧ d.items = some l ∧ D.deps l ≤ n ∧ D.objss P l ∧ ∀ H', Same H H' → Q (.bl false) H'
def rEqA (R : Rp) (P : Str → List (Str × D) → Prop) (n : Nat) : R2 := fun x y H Q => ∃ S S' d l, Is R S H x d ∧ Is R S' H y d ∧ d.items = some l ∧ D.deps l ≤ n ∧ D.objss P l ∧ ∀ H', Same H H' → Q (.bl true) H'
section
variable {X : Cx} {R : Rp} {P : Str → List (Str × D) → Prop} {k n : Nat}
theorem op_neA (hK : R.K = X.K) (E : EqG X k (DObj R P)) (hr : Room (k + n + 1) X.A) : OpR X (compareOp .NotEq) (rNeA R P n) := by
  intro pins s σ H x y v u Q I rx ry h
  obtain ⟨S, S', d, l, h1, h2, hi, dp, po, q⟩ := h
  have fin : ∀ {r : Value} {s' : Shared}, (r = .bool false ∧ ∃ H', Inv X pins σ H' s' ∧ Ext H H') → EP X pins σ Q r s' := fun {r s'} z => by
    obtain ⟨rfl, H', I', e⟩ := z
    exact ⟨.bl false, H', I', rfl, q H' e⟩
  show wpAny (model X.prog X.w) X.A (richCompare .NotEq v u) _ _ _
  cases d with
  | tup l =>
    cases hi
    obtain ⟨a, xs, rfl, e1, ax⟩ := h1.tupE
    obtain ⟨b, ys, rfl, e2, ay⟩ := h2.tupE
    rw [hK] at e1 e2
    exact wpAny_mono (neG_tup (mon_data n) (eqG_data hK E n) X.A pins s σ H _ _ v u ⟨hr, rfl⟩ I rx ry ⟨a, b, xs, ys, rfl, rfl, e1, e2, datas_of ax ay dp po⟩) (fun _ _ z => fin z) fun _ _ e => e
  | lst l =>
    cases hi
    obtain ⟨a, xs, rfl, _, e1, ax⟩ := h1.lstE
    obtain ⟨b, ys, rfl, _, e2, ay⟩ := h2.lstE
    exact wpAny_mono (neG_list (mon_data n) (eqG_data hK E n) X.A pins s σ H _ _ v u ⟨hr, rfl⟩ I rx ry ⟨a, b, xs, ys, rfl, rfl, e1, e2, datas_of ax ay dp po⟩) (fun _ _ z => fin z) fun _ _ e => e
  | _ => cases hi
theorem op_eqA (hK : R.K = X.K) (E : EqG X k (DObj R P)) (hr : Room (k + n + 1) X.A) : OpR X (compareOp .Eq) (rEqA R P n) := by
  intro pins s σ H x y v u Q I rx ry h
  obtain ⟨S, S', d, l, h1, h2, hi, dp, po, q⟩ := h
  have fin : ∀ {r : Value} {s' : Shared}, (r = .bool true ∧ ∃ H', Inv X pins σ H' s' ∧ Ext H H') → EP X pins σ Q r s' := fun {r s'} z => by
    obtain ⟨rfl, H', I', e⟩ := z
    exact ⟨.bl true, H', I', rfl, q H' e⟩
  show wpAny (model X.prog X.w) X.A (richCompare .Eq v u) _ _ _
  cases d with
  | tup l =>
    cases hi
    obtain ⟨a, xs, rfl, e1, ax⟩ := h1.tupE
    obtain ⟨b, ys, rfl, e2, ay⟩ := h2.tupE
    rw [hK] at e1 e2
    exact wpAny_mono (rcG_tup (mon_data n) (eqG_data hK E n) X.A pins s σ H _ _ v u ⟨hr, rfl⟩ I rx ry ⟨a, b, xs, ys, rfl, rfl, e1, e2, datas_of ax ay dp po⟩) (fun _ _ z => fin z) fun _ _ e => e
  | lst l =>
    cases hi
    obtain ⟨a, xs, rfl, _, e1, ax⟩ := h1.lstE
    obtain ⟨b, ys, rfl, _, e2, ay⟩ := h2.lstE
    exact wpAny_mono (rcG_list (mon_data n) (eqG_data hK E n) X.A pins s σ H _ _ v u ⟨hr, rfl⟩ I rx ry ⟨a, b, xs, ys, rfl, rfl, e1, e2, datas_of ax ay dp po⟩) (fun _ _ z => fin z) fun _ _ e => e
  | _ => cases hi
/-- objects whose own == is `spEqF` -/
def FaO (c : Str) : Str → List (Str × D) → Prop := fun c' l => c' = c ∧ ∃ m b, (D.obj c' l) = faD c m b
theorem eqG_fa {c : Str} {k : Nat} (hK : R.K = X.K) (G : MethG X.prog X.w X.K X.mg X.base k (R.CA c) "__eq__" ["self", "other"] (spEqF R X.mg c)) (T : EqC R X.mg c) (tk : Takes X W0) : EqG X k (DObj R (FaO c)) := by
  refine RcG.eqG (fun A pins s σ H x y u v sb I rx ry d => ?_) fun x y H d => ?_
  · obtain ⟨S, S', c', l, h1, h2, rfl, m, b, e⟩ := d
    rw [e] at h1 h2
    have q := ownQ (g := id) (Q := fun v H' => v = .bl true ∧ H' = H) h1 T (.inl rfl) h2 ⟨by rw [id, decide_eq_true ⟨rfl, rfl, rfl⟩], rfl⟩
    rw [hK] at q
    obtain ⟨a, dx, fs, rfl, ha, hn, q⟩ := q
    cases rx
    obtain ⟨f, fd, hc, hm, Ff, ⟨hb, _⟩⟩ := G.ex
    obtain ⟨mA, J, _⟩ := ins_get I.hok ha
    obtain ⟨od, J, _⟩ := J.look
    obtain ⟨tb, L, nf⟩ := notSub_looks I ry hn
    obtain ⟨m', hF⟩ := I.fr
    refine PySem.W.cmp_K (op := .Eq) (tb := tb) sb.room.units0 hF I.ok.mod.kin J L nf hm.at_ hm.fn ?_
    refine wpAny_mono (own_run Ff sb hb tk I (vs := [V.ref a, y]) (us := [Value.ref a, v]) (.cons rfl (.cons ry .nil)) q) (fun v s' z => ?_) fun _ _ e => e
    obtain ⟨v', H', I', rv, b, rfl, eb, rfl⟩ := z
    cases eb
    cases rv
    exact ⟨rfl, H', I', Ext.rfl'⟩
  · obtain ⟨S, S', c', l, h1, h2, rfl, m, b, e⟩ := d
    rw [e] at h1 h2
    obtain ⟨a, _, _, rfl, _⟩ := faD_ins h1
    obtain ⟨a', _, _, rfl, _⟩ := faD_ins h2
    exact ⟨_, _, rfl, rfl⟩
end
/-! ### comprehensions of two clauses; stars in tuples and lists; reverse; defs with all their defaults written -/
theorem wk_it {J : It} {n : Nat} {G : Hp → Prop} {Y : Nat → Hp → V → Hp → Prop} {H0 : Hp} {B : V → Hp → (Hp → Prop) → Prop} {Nx : Hp → Prop} (wk : Walk J n G Y) (Pv : Nat → Hp → Prop) (h0 : Pv 0 H0) (hG : ∀ i H, i ≤ n → Pv i H → G H)
    (hs : ∀ i x H H', i < n → Pv i H → Y i H x H' → B x H' (Pv (i + 1))) (hd : ∀ H, Pv n H → Nx H) :
    ∃ W : Nat → Nat → Hp → Prop, (∃ m, W 0 m H0) ∧ ∀ j k H, W j k H → (J.stop j H ∧ Nx H) ∨ (J.go j H ∧ ∃ Nx1 : Hp → Prop, (∀ H', Nx1 H' → ∃ k', k' < k ∧ W (j + 1) k' H') ∧ ∀ x H', J.yld j H x H' → B x H' Nx1) := by
  refine ⟨fun i m H => m = n - i ∧ i ≤ n ∧ Pv i H, ⟨n, by simp, Nat.zero_le _, h0⟩, ?_⟩
  rintro i m H ⟨rfl, hi, p⟩
  have q := hG i H hi p
  by_cases hlt : i < n
  · exact .inr ⟨wk.goes i H hlt q, Pv (i + 1), fun H' p' => ⟨n - (i + 1), by omega, rfl, hlt, p'⟩, fun x H' y => hs i x H H' hlt p (wk.yields i H x H' hlt q y)⟩
  · have e : i = n := by omega
    subst e
    exact .inl ⟨wk.stops H q, hd H p⟩
section
variable {X : Cx} {σ : L2.St} {H : Hp} {Q : VK} {pos : Pos}
theorem eLc2 {elt tg it tg1 it1 : Expr} {ifs ifs1 : List Expr} {sc : Scope} (N : List Str) (st : Stmt) (own : List (Str × Nat)) (vs1 : List Nat)
    (h : tLc2 (wI X tg it) (kG X sc tg) (kT X sc ifs) (kI X sc tg1 it1) (kG X sc tg1) (kT X sc ifs1) (kE X sc elt) (own.map (·.2)) vs1 σ H Q) (hN : X.N.Nodup := by assumption) (hv1 : ∀ i ∈ vs1, i ∈ own.map (·.2) := by decide)
    (ok : blkC N (L2.defScope st) sc own = true := by decide +kernel) (xN : X.N = N := by rfl) (xS : X.env.scope = L2.defScope st := by rfl) (hc : X.calm = true := by rfl) (hs : ∀ x, foldedSetIterable it X.env x = pure x := by intro _; rfl)
    (hs1 : ∀ env x, foldedSetIterable it1 env x = pure x := by intro _ _; rfl) : wE X (.ListComp elt [⟨tg, it, ifs, 0⟩, ⟨tg1, it1, ifs1, 0⟩] sc pos) σ H Q :=
  uE (pe_lc2 (own := own) (vs1 := vs1) hc hN (pI tg it) (blkOk_by (by rw [xN, xS]; exact ok)) hv1
    (fun s0 H0 C cl fp => ⟨fun pins s σ H v u Q I r h => (h s0 H0 C cl fp).r pins s u I r⟩) (fun s0 H0 C cl fp => ⟨fun pins s σ H Q I h => (h s0 H0 C cl fp).r pins s I⟩)
    (fun s0 H0 C cl fp => ⟨fun pins s σ H Q I h => (h s0 H0 C cl fp).r pins s I⟩) (fun s0 H0 C cl fp => ⟨fun pins s σ H v u Q I r h => (h s0 H0 C cl fp).r pins s u I r⟩)
    (fun s0 H0 C cl fp => ⟨fun pins s σ H Q I h => (h s0 H0 C cl fp).r pins s I⟩)
    (fun s0 H0 C cl fp => ⟨fun pins s σ H Q I h => (h s0 H0 C cl fp).r pins s I⟩) hs hs1) h
end
/-- what the turns of both clauses have added by then -/
def addQ (m : Nat → Nat) (pick : Nat → Nat → Option D) (i : Nat) : List D := (List.range i).flatMap fun k => (List.range (m k)).filterMap (pick k)
theorem addQ_s (m : Nat → Nat) (pick : Nat → Nat → Option D) (i : Nat) : addQ m pick (i + 1) = addQ m pick i ++ (List.range (m i)).filterMap (pick i) := by
  unfold addQ
  rw [List.range_succ, List.flatMap_append, List.flatMap_singleton]
theorem addQ_len {m : Nat → Nat} {pick : Nat → Nat → Option D} {n i j : Nat} (hi : i < n) : (addQ m pick i ++ (List.range j).filterMap (pick i)).length ≤ (addQ m pick i).length + j := by
  rw [List.length_append]
  have := List.length_filterMap_le (pick i) (List.range j)
  rw [List.length_range] at this
  omega
section
variable {X : Cx} {σ : L2.St} {R : Rp} {T : Reg} {Fin : Hp → Prop} {Gr : Hp → Hp → Prop} {L : Addr} {H1 : Hp} {J : It} {n : Nat} {G : Hp → Prop} {Y : Nat → Hp → V → Hp → Prop} {sc : Scope} {elt tg tg1 it1 : Expr} {ifs1 : List Expr} {own : List (Str × Nat)} {vs1 : List Nat} {Q : Hp → Prop}
/-- two clauses, the inner one with a test or none: what each pair of turns adds, or nothing -/
theorem lc2F (wk : Walk J n G Y) (m : Nat → Nat) (pick : Nat → Nat → Option D) (h9 : ∀ i, i < n → (addQ m pick i).length + m i ≤ 1000) (F : Fills Fin Gr T L H1) (hG : ∀ H, Fin H → G H)
    (st : ∀ i x H H', i < n → Fin H → Y i H x H' → (∀ us, H' L = some (.lst us) → kG X sc tg x (wipe σ (own.map (·.2))) H' fun σ2 H2 => wipe σ2 (own.map (·.2)) = wipe σ (own.map (·.2)) ∧ H2 = H' ∧
      kI X sc tg1 it1 σ2 H2 fun J1 H4 => Gr H2 H4 ∧ ∃ (G1 : Hp → Prop) (Y1 : Nat → Hp → V → Hp → Prop), Walk J1 (m i) G1 Y1 ∧ (∀ H, Fin H → Kp T H4 H → G1 H) ∧
        ∀ j x1 H5 H5', j < m i → Fin H5 → Kp T H4 H5 → Y1 j H5 x1 H5' → (∀ us, H5' L = some (.lst us) → kG X sc tg1 x1 (wipe σ2 vs1) H5' fun σ3 H6 => wipe σ3 vs1 = wipe σ2 vs1 ∧ H6 = H5' ∧
          kT X sc ifs1 σ3 H6 fun k H7 => Gr H5' H7 ∧ (k = false → pick i j = none) ∧ (k = true → ∃ e, pick i j = some e ∧ kE X sc elt σ3 H7 fun y H8 => Gr H7 H8 ∧ Is R T H8 y e)) ∧ Gr H5 H5') ∧ Gr H H')
    (hd : ∀ H xs, Fin H → H L = some (.lst xs) → IsA R T H xs (addQ m pick n) → Q H) :
    ∃ W : Nat → Nat → Hp → Prop, (∃ k, W 0 k (upd H1 L (.lst []))) ∧ ∀ i k H, W i k H →
      (J.stop i H ∧ Q H) ∨ (J.go i H ∧ ∃ Nx : Hp → Prop, (∀ H', Nx H' → ∃ m', m' < k ∧ W (i + 1) m' H') ∧ ∀ x H', J.yld i H x H' → kG X sc tg x (wipe σ (own.map (·.2))) H' fun σ2 H2 => wipe σ2 (own.map (·.2)) = wipe σ (own.map (·.2)) ∧ kT X sc [] σ2 H2 fun b H3 =>
        if b = true then kI X sc tg1 it1 σ2 H3 fun J1 H4 => ∃ W1 : Nat → Nat → Hp → Prop, (∃ m, W1 0 m H4) ∧ ∀ j k H, W1 j k H →
          (J1.stop j H ∧ Nx H) ∨ (J1.go j H ∧ ∃ Nx1 : Hp → Prop, (∀ H', Nx1 H' → ∃ k', k' < k ∧ W1 (j + 1) k' H') ∧ ∀ x H', J1.yld j H x H' → kG X sc tg1 x (wipe σ2 vs1) H' fun σ3 H5 => wipe σ3 vs1 = wipe σ2 vs1 ∧ kT X sc ifs1 σ3 H5 fun b H6 =>
            if b = true then kE X sc elt σ3 H6 fun y H7 => ∃ acc, H7 L = some (.lst acc) ∧ acc.length < sizeLine ∧ Nx1 (upd H7 L (.lst (acc ++ [y]))) else Nx1 H6)
        else Nx H3) := by
  refine wk_it wk (fun i H => Fin H ∧ ∃ acc, H L = some (.lst acc) ∧ IsA R T H acc (addQ m pick i)) ⟨F.start, [], upd_same, .nil⟩ (fun i H _ p => hG H p.1) ?_ (fun H ⟨hF, acc, hL, ia⟩ => hd H acc hF hL ia)
  rintro i x H H' hi ⟨hF, acc, hL, ia⟩ y
  obtain ⟨go, gr⟩ := st i x H H' hi hF y
  have hF' := F.grow hF gr
  have hL' := F.at_ hF gr hL
  have g := go _ hL'
  intro s0 H0 C cl fp
  refine ⟨fun pins s u I r => thn ((g s0 H0 C cl fp).r pins s u I r) fun _ s' ⟨σ2, H2, I', e1, e2, k⟩ => ⟨σ2, H2, I', e1, ?_⟩⟩
  subst e2
  refine kTnil <| iteT ?_
  intro s0 H0 C cl fp
  refine ⟨fun pins s I => thn ((k s0 H0 C cl fp).r pins s I) fun u s1 hh => thn hh fun itv s2 ⟨i0, fp, tn, J1, H4, e, I1, T1, t0, f0, gr4, G1, Y1, wk1, hG1, st1⟩ => ⟨i0, fp, tn, J1, H4, e, I1, T1, t0, f0, ?_⟩⟩
  have hF4 := F.grow hF' gr4
  have hL4 := F.at_ hF' gr4 hL'
  have ia4 := (ia.go (F.kp hF gr)).go (F.kp hF' gr4)
  refine wk_it wk1 (fun j H => Fin H ∧ Kp T H4 H ∧ ∃ acc, H L = some (.lst acc) ∧ IsA R T H acc (addQ m pick i ++ (List.range j).filterMap (pick i))) ⟨hF4, Kp.refl _ _, acc, hL4, by rw [List.range_zero, List.filterMap_nil, List.append_nil]; exact ia4⟩ (fun j H _ p => hG1 H p.1 p.2.1) ?_ (fun H ⟨hF, _, acc, hL, ia⟩ => ⟨hF, acc, hL, by rw [addQ_s]; exact ia⟩)
  rintro j x1 H5 H5' hj ⟨hF5, kp5, acc5, hL5, ia5⟩ y1
  obtain ⟨go1, gr5⟩ := st1 j x1 H5 H5' hj hF5 kp5 y1
  have hF6 := F.grow hF5 gr5
  have hL6 := F.at_ hF5 gr5 hL5
  have g1 := go1 _ hL6
  have er : (List.range (j + 1)).filterMap (pick i) = (List.range j).filterMap (pick i) ++ [j].filterMap (pick i) := by rw [List.range_succ, List.filterMap_append]
  intro s0 H0 C cl fp
  refine ⟨fun pins s u I r => thn ((g1 s0 H0 C cl fp).r pins s u I r) fun _ s' ⟨σ3, H6, I', e1, e2, k⟩ => ⟨σ3, H6, I', e1, ?_⟩⟩
  subst e2
  intro s0 H0 C cl fp
  refine ⟨fun pins s I => thn ((k s0 H0 C cl fp).r pins s I) fun b s' ⟨H7, I3, gr7, k0, k1⟩ => ⟨H7, I3, ?_⟩⟩
  have hF7 := F.grow hF6 gr7
  have hL7 := F.at_ hF6 gr7 hL6
  have kp7 := (F.kp hF5 gr5).trans (F.kp hF6 gr7)
  cases b with
  | false =>
    refine iteF ⟨hF7, kp5.trans kp7, acc5, hL7, ?_⟩
    rw [er, List.filterMap_cons, k0 rfl, List.filterMap_nil, List.append_nil]
    exact ia5.go kp7
  | true =>
    refine iteT ?_
    obtain ⟨e, pe, ke⟩ := k1 rfl
    intro s0 H0 C cl fp
    refine (ke s0 H0 C cl fp).mono fun v H8 ⟨gr8, iv⟩ => ?_
    have hF8 := F.grow hF7 gr8
    have hL8 := F.at_ hF7 gr8 hL7
    have kp8 := kp7.trans (F.kp hF7 gr8)
    have kpL : ∀ xs, Kp T H8 (upd H8 L (.lst xs)) := fun xs a o na ea => by
      have n : a ≠ L := fun z => na (by rw [z]; exact F.inT)
      rw [upd_ne n]
      exact ea
    refine ⟨acc5, hL8, ?_, F.app hF8, (kp5.trans kp8).trans (kpL _), acc5 ++ [v], upd_same, ?_⟩
    · have l1 := ia5.len
      have l2 := addQ_len (m := m) (pick := pick) (j := j) hi
      have l3 := h9 i hi
      refine Nat.lt_of_le_of_lt (m := 1000) (by omega) ?_
      rw [sizeLine_eq]
      decide
    · rw [er, List.filterMap_cons, pe, List.filterMap_nil, ← List.append_assoc]
      exact ((ia5.go kp8).go (kpL _)).app (.cons (iv.go (kpL _)) .nil)
end
section
variable {X : Cx} {σ : L2.St} {H : Hp} {D : Ends} {e o : Expr} {es : List Expr} {p p1 p2 pos : Pos}
theorem aStar {Q : List V → Hp → Prop} (h : wE X e σ H fun x H1 => ∃ a xs, x = .ref a ∧ (SqT X.K H1 a xs ∨ SqL X.K H1 a xs) ∧ wA X es σ H1 fun ys H2 => Q (xs ++ ys) H2) (hs : starEach (.Starred e p :: es) X.env = (true, eval e X.env) :: starEach es X.env := by rfl) : wA X (.Starred e p :: es) σ H Q :=
  uA (StX.pa_star (pE e) (pA es) hs) h
theorem sRevL (h : wE X o σ H fun x H1 => tyV X.K "list" x H1 ∧ rReverse x [] H1 fun _ H3 => D.nx σ H3)
    (hs : swapsWith (.Call (.Attribute o "reverse" p1) [] [] p2) none pos.line X.env = pure false := by rfl)
    (hbase : attributeBase o "reverse" X.env (eval o X.env) = eval o X.env := by rfl) (hline : (p1.endLine == p2.line) = true := by rfl) :
    wS X (.Expr (.Call (.Attribute o "reverse" p1) [] [] p2) pos) D σ H :=
  sExpr (uE (pe_bm0 PySem.F.plainAttrs_list PySem.F.slot_list_reverse PySem.F.type_list_reverse mt_reverse (pE o) hbase hline) h) hs
end
section
variable {K : PySem.W.Frag} {mg : Str → Option Value} {x : Str} {st : Stmt} {ps : List Str}
open PySem.W in
end
end BR

namespace BR
open PySem PySem.Spec PyProof.Rows L2
/-! ### the draws of the laws on slacks, bags, bounds and leading orders: how large they grow -/
def spCell (K : PySem.W.Frag) : Sp := fun vs H Q _ => ∃ (a : Addr) (ns : List Int) (i : Nat), vs = [.ref a, .int (i : Nat)] ∧ SqL K H a (ns.map V.int) ∧ ∀ c : Int, Q (.int c) H
/-- a gate as it is drawn, k turns after the first one -/
structure CG (k : Nat) (f : F4) : Prop where
  p1 : 1 ≤ f.p
  p9 : f.p ≤ 9
  q1 : 1 ≤ f.q
  q9 : f.q ≤ 9
  b1 : 1 ≤ f.b
  am : (f.p = 1 ∧ f.q = 1 ∧ f.a.natAbs ≤ 9 * 2 ^ k ∧ f.b ≤ 4) ∨ (f.p ≠ f.q ∧ ∃ N D : Int, N.natAbs ≤ 81 ∧ 1 ≤ D ∧ D ≤ 32 ∧ f.a * (D * f.q) = N * (f.q - f.p) * f.b ∧ f.a = (mkQ f.a f.b).num ∧ f.b = ((mkQ f.a f.b).den : Int))
theorem natAbs_mul_le {a b : Int} {m n : Nat} (h : a.natAbs ≤ m) (k : b.natAbs ≤ n) : (a * b).natAbs ≤ m * n := by
  rw [Int.natAbs_mul]
  exact Nat.mul_le_mul h k
theorem CG.bnd {k : Nat} {f : F4} (h : CG k f) (hk : k ≤ 7) : f.a.natAbs ≤ 1152 ∧ f.b ≤ 288 := by
  have p := h.p1
  have p' := h.p9
  have q := h.q1
  have q' := h.q9
  rcases h.am with ⟨h1, h2, h3, h4⟩ | ⟨hn, N, D, hN, d1, d2, e, e1, e2⟩
  · have : 2 ^ k ≤ 2 ^ 7 := Nat.pow_le_pow_right (by decide) hk
    omega
  · have dq : 0 < D * f.q := Int.mul_pos (by omega) (by omega)
    have ev : mkQ f.a f.b = mkQ (N * (f.q - f.p)) (D * f.q) := (mkQ_inj (by have := h.b1; omega) dq).mpr e
    have g := gcd_pos (p := N * (f.q - f.p)) dq
    have n1 := mkQ_num (p := N * (f.q - f.p)) dq
    have n2 := mkQ_den (p := N * (f.q - f.p)) dq
    rw [ev] at e1 e2
    have a1 := ediv_abs (p := N * (f.q - f.p)) g
    have a2 := ediv_abs (p := D * f.q) g
    have b1 : (N * (f.q - f.p)).natAbs ≤ 81 * 8 := natAbs_mul_le hN (by omega)
    have b2 : (D * f.q).natAbs ≤ 32 * 9 := natAbs_mul_le (by omega) (by omega)
    rw [e1, n1]
    refine ⟨by omega, ?_⟩
    rw [e2, n2]
    omega
theorem CG.ok {k : Nat} {f : F4} (h : CG k f) (hk : k ≤ 7) : f.Ok := by
  obtain ⟨h1, h2⟩ := h.bnd hk
  have := h.p1
  have := h.p9
  have := h.q1
  have := h.q9
  have := h.b1
  exact ⟨by omega, by omega, by omega, by omega, by omega, by omega, by omega, by omega⟩
theorem CG.mono {k m : Nat} {f : F4} (h : CG k f) (hk : k ≤ m) : CG m f := { h with am := h.am.imp (fun ⟨h1, h2, h3, h4⟩ => ⟨h1, h2, Nat.le_trans h3 (Nat.mul_le_mul_left 9 (Nat.pow_le_pow_right (by decide) hk)), h4⟩) id }
theorem low_low (t b : Int) (h : 0 < b) : (mkQ t b).num = (mkQ (mkQ t b).num ((mkQ t b).den : Int)).num ∧ ((mkQ t b).den : Int) = ((mkQ (mkQ t b).num ((mkQ t b).den : Int)).den : Int) := by rw [mkQ_self]; exact ⟨rfl, rfl⟩
/-- a fraction in lowest terms, cross-multiplied -/
theorem low_cross {t b x y : Int} (h : 0 < b) (k : 0 < y) (e : t * y = x * b) : (mkQ t b).num * y = x * ((mkQ t b).den : Int) := by
  have : mkQ (mkQ t b).num ((mkQ t b).den : Int) = mkQ x y := by rw [mkQ_self]; exact (mkQ_inj h k).mpr e
  exact (mkQ_inj (den_pos _) k).mp this
theorem CG.scale {k : Nat} {f : F4} {s : Int} (h : CG k f) (e1 : f.p = 1) (e2 : f.q = 1) (hs : s = 1 ∨ s = 2 ∨ s = -1) : CG (k + 1) ⟨f.p, f.q, f.a * s, f.b⟩ := by
  refine ⟨h.p1, h.p9, h.q1, h.q9, h.b1, .inl ⟨e1, e2, ?_, ?_⟩⟩
  · rcases h.am with ⟨_, _, h3, _⟩ | ⟨hn, _⟩
    · have : (f.a * s).natAbs ≤ (9 * 2 ^ k) * 2 := natAbs_mul_le h3 (by omega)
      show (f.a * s).natAbs ≤ _
      rw [Nat.pow_succ]
      omega
    · exact absurd (e1.trans e2.symm) hn
  · rcases h.am with ⟨_, _, _, h4⟩ | ⟨hn, _⟩
    · exact h4
    · exact absurd (e1.trans e2.symm) hn
theorem CG.rest {k : Nat} {f : F4} {o u t b : Int} (h : CG k f) (hn : f.p ≠ f.q) (o1 : 1 ≤ o) (o9 : o ≤ 9) (u1 : 1 ≤ u) (u9 : u ≤ 9) (hou : o = u → o = 1 ∧ u = 1) (hb : 0 < b)
    (hp : (t = f.a * f.q * (u - o) ∧ b = f.b * (f.q - f.p) * u) ∨ (t = 0 - f.a * f.q * (u - o) ∧ b = 0 - f.b * (f.q - f.p) * u)) : CG k ⟨o, u, (mkQ t b).num, (mkQ t b).den⟩ := by
  rcases h.am with ⟨e1, e2, _⟩ | ⟨_, N, D, hN, d1, d2, e, _, _⟩
  · exact absurd (e1.trans e2.symm) hn
  refine ⟨o1, o9, u1, u9, by have := den_pos (mkQ t b); show 1 ≤ ((mkQ t b).den : Int); omega, ?_⟩
  by_cases c : o = u
  · obtain ⟨e1, e2⟩ := hou c
    subst e1
    subst e2
    have t0 : t = 0 := by rcases hp with ⟨h, _⟩ | ⟨h, _⟩ <;> rw [h] <;> omega
    subst t0
    have z : mkQ 0 b = mkQ 0 1 := (mkQ_inj hb (by decide)).mpr (by rw [Int.zero_mul, Int.zero_mul])
    rw [z]
    exact .inl ⟨rfl, rfl, Nat.le_trans (by decide +kernel) (Nat.zero_le _), by decide +kernel⟩
  · refine .inr ⟨c, N, D, hN, d1, d2, ?_, low_low _ _ hb⟩
    refine low_cross hb (Int.mul_pos (by omega) (show 0 < u by omega)) ?_
    show t * (D * u) = N * (u - o) * b
    rcases hp with ⟨rfl, rfl⟩ | ⟨rfl, rfl⟩ <;> grind
theorem CG.rnd {f : F4} (p1 : 1 ≤ f.p) (p9 : f.p ≤ 9) (q1 : 1 ≤ f.q) (q9 : f.q ≤ 9) (hpq : f.p = f.q → f.p = 1 ∧ f.q = 1) (a9 : f.a.natAbs ≤ 9) (b1 : 1 ≤ f.b) (b4 : f.b ≤ 4) (e1 : f.a = (mkQ f.a f.b).num) (e2 : f.b = ((mkQ f.a f.b).den : Int)) : CG 0 f := by
  refine ⟨p1, p9, q1, q9, b1, ?_⟩
  by_cases c : f.p = f.q
  · obtain ⟨h1, h2⟩ := hpq c
    exact .inl ⟨h1, h2, a9, b4⟩
  · by_cases l : f.p < f.q
    · refine .inr ⟨c, f.a * f.q, f.b * (f.q - f.p), natAbs_mul_le (m := 9) (n := 9) a9 (by omega), Int.mul_pos (by omega) (by omega), ?_, by grind, e1, e2⟩
      have : (f.b * (f.q - f.p)).natAbs ≤ 4 * 8 := natAbs_mul_le (by omega) (by omega)
      omega
    · refine .inr ⟨c, -(f.a * f.q), f.b * (f.p - f.q), ?_, Int.mul_pos (by omega) (by omega), ?_, by grind, e1, e2⟩
      · rw [Int.natAbs_neg]
        exact natAbs_mul_le (m := 9) (n := 9) a9 (by omega)
      · have : (f.b * (f.p - f.q)).natAbs ≤ 4 * 8 := natAbs_mul_le (by omega) (by omega)
        omega
/-- a fraction of small numbers in lowest terms -/
theorem low_small {a b : Int} {m n : Nat} (hb : 0 < b) (ha : a.natAbs ≤ m) (hbn : b ≤ n) : (mkQ a b).num.natAbs ≤ m ∧ 1 ≤ ((mkQ a b).den : Int) ∧ ((mkQ a b).den : Int) ≤ n := by
  have g := gcd_pos (p := a) hb
  have n1 := mkQ_num (p := a) hb
  have n2 := mkQ_den (p := a) hb
  have a1 := ediv_abs (p := a) g
  have a2 := ediv_abs (p := b) g
  have := den_pos (mkQ a b)
  rw [n1]
  refine ⟨by omega, by omega, ?_⟩
  rw [n2]
  omega
theorem low_pos {a b : Int} (hb : 0 < b) (ha : 0 < a) : 1 ≤ (mkQ a b).num := by
  have y := mkQ_pos ha hb
  rw [Rat.lt_iff] at y
  have y : (0 : Int) < (mkQ a b).num := by simpa using y
  omega
theorem low_one {r : Rat} (h : r.num = (r.den : Int)) : r.num = 1 ∧ (r.den : Int) = 1 := by
  have c := r.reduced
  have e : r.num.natAbs = r.den := by omega
  rw [e] at c
  have : r.den = 1 := by
    have := (Nat.coprime_self r.den).mp c
    exact this
  omega
end BR

namespace BR
open PySem PySem.Spec PyProof.Rows L2
/-! ### orders that lead to a goal -/
def valI (gs : List G2) (t : TBt) (l : List Nat) : TBt := l.foldl (fun t i => passI (gAt gs ((i : Nat) : Int)) t) t
theorem valI_snoc (gs : List G2) (t : TBt) (l : List Nat) (i : Nat) : valI gs t (l ++ [i]) = passI (gAt gs (i : Int)) (valI gs t l) := by
  unfold valI
  rw [List.foldl_append]
  rfl
theorem passI_pos (g : G2) {t : TBt} (h : 0 < t.2) : 0 < (passI g t).2 := by
  have h1 := den_pos g.1
  have h2 := den_pos g.2
  exact Int.mul_pos (Int.mul_pos h1 h2) h
theorem toI_snoc (l : List Nat) (i : Nat) : toI (l ++ [i]) = toI l ++ [(i : Int)] := by
  unfold toI
  rw [List.map_append]
  rfl
theorem snoc_of {α : Type} {l : List α} (h : l ≠ []) : ∃ m i, l = m ++ [i] := ⟨l.dropLast, l.getLast h, (List.dropLast_concat_getLast h).symm⟩
theorem valI_val (gs : List G2) {t : TBt} (h : 0 < t.2) : ∀ l : List Nat, 0 < (valI gs t l).2 ∧ mkQ (valI gs t l).1 (valI gs t l).2 = thrX gs (toI l) (mkQ t.1 t.2) := by
  intro l
  induction hl : l.length generalizing l with
  | zero =>
    have e : l = [] := List.length_eq_zero_iff.mp hl
    subst e
    exact ⟨h, rfl⟩
  | succ n ih =>
    obtain ⟨m, i, rfl⟩ : ∃ m i, l = m ++ [i] := snoc_of (by intro z; rw [z] at hl; cases hl)
    rw [List.length_append] at hl
    obtain ⟨h1, h2⟩ := ih m (Nat.succ.inj hl)
    rw [valI_snoc, toI_snoc, thrX_snoc, ← h2]
    exact ⟨passI_pos _ h1, pass_val _ h1⟩
theorem gAt_sz2 {gs : List G2} {n : Nat} (n0 : 0 < n) (h : ∀ g ∈ gs, Sz n g.1 ∧ Sz n g.2) (i : Int) : Sz n (gAt gs i).1 ∧ Sz n (gAt gs i).2 := by
  unfold gAt
  cases e : gs[i.toNat]? with
  | none => exact ⟨sz_one.mono n0, sz_zero.mono n0⟩
  | some g => exact h g (List.mem_of_getElem? e)
theorem valI_sz {gs : List G2} {n k : Nat} {t : TBt} (n0 : 0 < n) (h : ∀ g ∈ gs, Sz n g.1 ∧ Sz n g.2) (ht : Tz k t) : ∀ l : List Nat, Tz ((2 * n + 1) * l.length + k) (valI gs t l) := by
  intro l
  induction hl : l.length generalizing l with
  | zero =>
    have e : l = [] := List.length_eq_zero_iff.mp hl
    subst e
    rw [Nat.mul_zero, Nat.zero_add]
    exact ht
  | succ m ih =>
    obtain ⟨r, i, rfl⟩ : ∃ m i, l = m ++ [i] := snoc_of (by intro z; rw [z] at hl; cases hl)
    rw [List.length_append] at hl
    have z := (passI_sz (gAt_sz2 n0 h (i : Int)) (ih r (Nat.succ.inj hl))).2.2.2.2.2
    rw [valI_snoc]
    have e : (2 * n + 1) * (m + 1) + k = 2 * n + ((2 * n + 1) * m + k) + 1 := by rw [Nat.mul_add]; omega
    rw [e]
    exact z
def spPassedP (R : Rp) : Sp := fun vs H Q _ => ∃ (S : Reg) (v u : V) (g : G2) (t : TBt) (n k : Nat), vs = [v, u] ∧ Live S H ∧ Is R S H v (stepD g) ∧ IsP R S H u t.1 t.2 ∧ (Sz n g.1 ∧ Sz n g.2) ∧ Tz k t ∧ 0 < n ∧ 0 < k ∧ n + n + k ≤ 9000 ∧ ∀ v' H', Same H H' → Is R S H' v' (.tup [.int (passI g t).1, .int (passI g t).2]) → Q v' H'
section
variable {X : Cx} {σ : L2.St} {H : Hp} {D : Ends} {pos : Pos}
/-- name = [.. for .. for ..], the comprehension on the name's own line -/
theorem sLc2 (i : Nat) {y : Str} {py spos : Pos} {elt tg it tg1 it1 : Expr} {ifs ifs1 : List Expr} {sc : Scope} (N : List Str) (st : Stmt) (own : List (Str × Nat)) (vs1 : List Nat)
    (h : tLc2 (wI X tg it) (kG X sc tg) (kT X sc ifs) (kI X sc tg1 it1) (kG X sc tg1) (kT X sc ifs1) (kE X sc elt) (own.map (·.2)) vs1 σ H (fun v H' => D.nx (σ.set i (some v)) H')) (hN : X.N.Nodup := by assumption) (hy : X.N[i]? = some y := by rfl) (hyl : X.env.scope.names.lookup y = some .local := by rfl)
    (hsw : swapsWith (.ListComp elt [⟨tg, it, ifs, 0⟩, ⟨tg1, it1, ifs1, 0⟩] sc pos) (some (.Name y py)) spos.line X.env = pure true := by exact sw_true rfl rfl rfl (by decide +kernel)) (hv1 : ∀ i ∈ vs1, i ∈ own.map (·.2) := by decide)
    (ok : blkC N (L2.defScope st) sc own = true := by decide +kernel) (xN : X.N = N := by rfl) (xS : X.env.scope = L2.defScope st := by rfl) (hc : X.calm = true := by rfl) (hs : ∀ x, foldedSetIterable it X.env x = pure x := by intro _; rfl)
    (hs1 : ∀ env x, foldedSetIterable it1 env x = pure x := by intro _ _; rfl) : wS X (.Assign [.Name y py] (.ListComp elt [⟨tg, it, ifs, 0⟩, ⟨tg1, it1, ifs1, 0⟩] sc pos) spos) D σ H :=
  uS (ps_setLc2 (own := own) (vs1 := vs1) hc hN hy hyl hsw (pI tg it) (blkOk_by (by rw [xN, xS]; exact ok)) hv1
    (fun s0 H0 C cl fp => ⟨fun pins s σ H v u Q I r h => (h s0 H0 C cl fp).r pins s u I r⟩) (fun s0 H0 C cl fp => ⟨fun pins s σ H Q I h => (h s0 H0 C cl fp).r pins s I⟩)
    (fun s0 H0 C cl fp => ⟨fun pins s σ H Q I h => (h s0 H0 C cl fp).r pins s I⟩) (fun s0 H0 C cl fp => ⟨fun pins s σ H v u Q I r h => (h s0 H0 C cl fp).r pins s u I r⟩)
    (fun s0 H0 C cl fp => ⟨fun pins s σ H Q I h => (h s0 H0 C cl fp).r pins s I⟩)
    (fun s0 H0 C cl fp => ⟨fun pins s σ H Q I h => (h s0 H0 C cl fp).r pins s I⟩) hs hs1) h
end
/-! ### the law's own search -/
end BR

namespace BR
open PySem PySem.Spec PyProof.Rows L2
/-! ### try with several clauses, with a name and without -/
section
variable {X : Cx} {n : Str} {i : Nat} {body : List Stmt} {h0 : ExceptHandler} {hds : List ExceptHandler} {l : List (Bool × Value × TSx)} {pos : Pos} {tb : WX → TS} {Wout : WX}
end
theorem cut_cut (xs : List V) (a b : Nat) : cutV xs (some (a : Int)) (some (b : Int)) = (xs.drop (min a xs.length)).take (min b xs.length - min a xs.length) := by
  unfold cutV
  rw [HT.sIx_nat, HT.sIx_nat]
section
variable {X : Cx} {σ : L2.St} {H : Hp} {D : Ends} {j : Nat} {W : WX}
/-- for cell in [_law_cell(script, 0)] + script[lo:hi] -/
theorem sCellsC {tg : Expr} {sts : List Stmt} {x : Str} {px px2 pz pl pb ps p2 pos pn pn2 pc pd : Pos} {jz jn jn2 lo hi : Nat} {a : Addr} {ns : List Int} (i : Nat) (Sh : L2.St → Hp → Prop) (hs : SqL X.K H a (ns.map V.int)) (h63 : ns.length ≤ 63) (hσ : σ[i]? = some (some (.ref a)))
    (G : DefG X.prog X.w X.K X.mg X.base 1 "_law_cell" ["_law_script", "_law_index"] (spCell X.K)) (hr : Room j X.A) (tk : Takes X W) (hj : 1 ≤ j) (h0 : ∀ H', Same H H' → Sh σ H')
    (body : ∀ (c : Int) (L : Addr) (cs : List Int) (σ' : L2.St) (H' : Hp), Sh σ' H' → H' L = some (.lst (cs.map V.int)) → wG X tg (.int c) σ' H' fun σ2 H2 => wB X sts { D with nx := fun σ3 H3 => Sh σ3 H3 ∧ H3 L = some (.lst (cs.map V.int)), ct := fun σ3 H3 => Sh σ3 H3 ∧ H3 L = some (.lst (cs.map V.int)), bk := D.nx } σ2 H2)
    (fin : ∀ σ' H', Sh σ' H' → D.nx σ' H') (hp : PassesOwn (model X.prog X.w) X.A X.env X.xe := by exact PassesOwn.never) (hc : X.calm = true := by rfl)
    (hf : ∀ v, foldedSetIterable (.BinOp (.List [.Call (.Name "_law_cell" pc) [.Name x px, .Constant (.int 0) jz pz] [] pd] pl) .Add (.Subscript (.Name x px2) (.Slice (some (.Constant (.int (lo : Int)) jn pn)) (some (.Constant (.int (hi : Int)) jn2 pn2)) none p2) ps) pb) X.env v = pure v := by intro _; rfl)
    (hN : X.N[i]? = some x := by rfl) (hv : Vis X.env.scope x := by first | exact Or.inl rfl | exact Or.inr (Or.inl rfl) | exact Or.inr (Or.inr rfl)) (hg : Gl X "_law_cell" := by rfl)
    (hd : (x == ("__debug__" : Str)) = false := by decide) (hcd : (x == ("__classdict__" : Str)) = false := by decide) (hst : starEach ([.Call (.Name "_law_cell" pc) [.Name x px, .Constant (.int 0) jz pz] [] pd] : List Expr) X.env = (false, eval (.Call (.Name "_law_cell" pc) [.Name x px, .Constant (.int 0) jz pz] [] pd) X.env) :: starEach [] X.env := by rfl)
    (hst2 : starEach [.Name x px, .Constant (.int 0) jz pz] X.env = (false, eval (.Name x px) X.env) :: starEach [.Constant (.int 0) jz pz] X.env := by rfl) (hst3 : starEach [.Constant (.int 0) jz pz] X.env = (false, eval (.Constant (.int 0) jz pz) X.env) :: starEach [] X.env := by rfl)
    (hpl : (backTo pd (starEach [.Constant (.int 0) jz pz] X.env)).any (·.1) = false := by rfl) :
    wS X (.For tg (.BinOp (.List [.Call (.Name "_law_cell" pc) [.Name x px, .Constant (.int 0) jz pz] [] pd] pl) .Add (.Subscript (.Name x px2) (.Slice (some (.Constant (.int (lo : Int)) jn pn)) (some (.Constant (.int (hi : Int)) jn2 pn2)) none p2) ps) pb) sts [] pos) D σ H := by
  refine sFor (iL <| eOp op_catR <| eLst <| aCons (eCall G hr tk (aCons (eV i hσ (aCons (eI (aNil ⟨a, ns, 0, rfl, hs, fun c0 => aNil ⟨by show 1 ≤ sizeLine; decide, fun z hz => ?_⟩⟩)) hst3) hN hv hd hcd) hst2) hj hg (by decide) hst2 hpl) hst) hp hc hf
  have s1 := same_new (o := HO.lst [V.int c0]) hz
  refine eSl (lo := some _) (hi := some _) sl_list (po_some (pE _)) (po_some (pE _)) <| eV i hσ (eI ⟨_, rfl, eI ⟨_, rfl, a, _, rfl, Same.seq s1 hs, fun c hc' => ?_⟩⟩) hN hv hd hcd
  obtain ⟨ms, hms, lms⟩ : ∃ ms : List Int, cutV (ns.map V.int) (some (lo : Int)) (some (hi : Int)) = ms.map V.int ∧ ms.length ≤ 63 := by
    rw [cut_cut]
    refine ⟨(ns.drop (min lo (ns.map V.int).length)).take (min hi (ns.map V.int).length - min lo (ns.map V.int).length), by rw [List.map_take, List.map_drop], ?_⟩
    rw [List.length_take, List.length_drop]
    omega
  rw [hms]
  have s2 := same_new (o := HO.lst (ms.map V.int)) hc'
  have hz2 := s2 _ _ (show upd H z (HO.lst [V.int c0]) z = some (.lst [V.int c0]) from upd_same)
  refine ⟨z, c, _, _, rfl, rfl, SqL.of hz2, SqL.of upd_same, ?_, fun lc hlc => ?_⟩
  · rw [List.length_map]
    exact Nat.le_of_lt (small1000 (by show 1 + ms.length ≤ 1000; omega))
  have ec : [V.int c0] ++ ms.map V.int = (c0 :: ms).map V.int := rfl
  rw [ec]
  have s3 := s1.trans (s2.trans (same_new (o := HO.lst ((c0 :: ms).map V.int)) hlc))
  generalize c0 :: ms = cs at s3 ⊢
  have hl1 : upd (upd (upd H z (HO.lst [V.int c0])) c (HO.lst (ms.map V.int))) lc (.lst (cs.map V.int)) lc = some (.lst (cs.map V.int)) := upd_same
  generalize upd (upd (upd H z (HO.lst [V.int c0])) c (HO.lst (ms.map V.int))) lc (.lst (cs.map V.int)) = H1 at hl1 s3
  refine ⟨lc, rfl, ⟨_, SqL.of hl1⟩, _, _, _, walk_list (xs := cs.map V.int), fun i σ H' => Sh σ H' ∧ H' lc = some (.lst (cs.map V.int)), ⟨h0 _ s3, hl1⟩, fun i σ H' _ h => SqL.of h.2, ?_, fun σ H' h => fin σ H' h.1⟩
  rintro i x σ H2 H2' hi ⟨h1, h2⟩ ⟨rfl, hx⟩
  obtain ⟨m, rfl⟩ : ∃ m, x = V.int m := by
    rw [List.getElem?_map] at hx
    cases e : cs[i]? with
    | none => rw [e] at hx; cases hx
    | some u => rw [e] at hx; exact ⟨u, (Option.some.inj hx).symm⟩
  exact body m lc cs σ _ h1 h2
end
end BR

namespace BR
open PySem PySem.Spec PyProof.Rows L2
/-! ### an order is best exactly if each of its beginnings is -/
end BR

namespace BR
open PySem PySem.Spec PyProof.Rows L2
/-! ### how far one amount may be changed -/
section
variable {gs : List G2} {os : List Int} {i t : Nat}
end
def loS (a : Rat) (o : Option Rat) (x : Rat × Rat) : Option Rat := if 0 < x.2 then some (match o with | none => a - x.1 / x.2 | some l => if l < a - x.1 / x.2 then a - x.1 / x.2 else l) else o
def hiS (a : Rat) (o : Option Rat) (x : Rat × Rat) : Option Rat := if x.2 < 0 then some (match o with | none => a - x.1 / x.2 | some h => if a - x.1 / x.2 < h then a - x.1 / x.2 else h) else o
end BR

namespace BR
open PySem PySem.Spec PyProof.Rows L2
/-! ### how large the numbers of a slack grow: fractions over a known bottom -/
def IntB (B : Int) (n : Nat) (r : Rat) : Prop := ∃ z : Int, r = mkQ z B ∧ z.natAbs < 2 ^ n
theorem IntB.mono {B : Int} {n m : Nat} {r : Rat} (h : IntB B n r) (k : n ≤ m) : IntB B m r := by
  obtain ⟨z, e, l⟩ := h
  exact ⟨z, e, Nat.lt_of_lt_of_le l (pow_le2 k)⟩
theorem IntB.mul {B C : Int} {n m : Nat} {r s : Rat} (h : IntB B n r) (k : IntB C m s) : IntB (B * C) (n + m) (r * s) := by
  obtain ⟨z, e, l⟩ := h
  obtain ⟨y, f, g⟩ := k
  exact ⟨z * y, by rw [e, f, mkQ_mul], abs_mul l g⟩
theorem IntB.add {B : Int} (hB : 0 < B) {n : Nat} {r s : Rat} (h : IntB B n r) (k : IntB B n s) : IntB B (n + 1) (r + s) := by
  obtain ⟨z, e, l⟩ := h
  obtain ⟨y, f, g⟩ := k
  exact ⟨z + y, by rw [e, f, mkQ_plus hB], abs_add l g⟩
theorem IntB.neg {B : Int} {n : Nat} {r : Rat} (h : IntB B n r) : IntB B n (-r) := by
  obtain ⟨z, e, l⟩ := h
  exact ⟨-z, by rw [e, mkQ_neg], by rw [Int.natAbs_neg]; exact l⟩
theorem IntB.sub {B : Int} (hB : 0 < B) {n : Nat} {r s : Rat} (h : IntB B n r) (k : IntB B n s) : IntB B (n + 1) (r - s) := by
  rw [Rat.sub_eq_add_neg]
  exact h.add hB k.neg
theorem IntB.up {B A : Int} (hB : 0 < B) (hA : 0 < A) {n a : Nat} {r : Rat} (h : IntB B n r) (k : A.natAbs < 2 ^ a) : IntB (A * B) (a + n) r := by
  obtain ⟨z, e, l⟩ := h
  refine ⟨A * z, ?_, abs_mul k l⟩
  rw [e, mkQ_inj hB (Int.mul_pos hA hB)]
  grind
theorem IntB.sz {B : Int} (hB : 0 < B) {n : Nat} {r : Rat} (h : IntB B n r) (k : B.natAbs < 2 ^ n) : Sz n r := by
  obtain ⟨z, e, l⟩ := h
  rw [e]
  exact mkQ_sz hB l k
section
variable {gs : List G2} (sz : ∀ g ∈ gs, Sz 20 g.1 ∧ Sz 20 g.2)
include sz
end
end BR

namespace BR
open PySem PySem.Spec PyProof.Rows L2
/-! ### promises of slack and what it asks -/
section
variable {X : Cx} {σ : L2.St} {H : Hp} {D : Ends} {Q : VK} {pos p1 p2 : Pos} {o e : Expr} {es : List Expr}
end
def maxR (r t : Rat) : Rat := if r < t then t else r
def minR (r t : Rat) : Rat := if t < r then t else r
def spMax2 (R : Rp) (f : Rat → Rat → Rat) : Sp := fun vs H Q _ => ∃ (S : Reg) (v u : V) (n : Nat) (r t : Rat), vs = [v, u] ∧ Live S H ∧ Is R S H v (frac r) ∧ Is R S H u (frac t) ∧ Sz n r ∧ Sz n t ∧ 0 < n ∧ n ≤ 4000 ∧ ∀ v' H', Same H H' → Is R S H' v' (frac (f r t)) → Q v' H'
/-- an order's indexes as they are counted -/
def nlQ (os : List Int) : List Nat := os.map Int.toNat
theorem toI_nl {os : List Int} (h : ∀ i ∈ os, 0 ≤ i) : toI (nlQ os) = os := by
  unfold toI nlQ
  rw [List.map_map]
  conv => rhs; rw [← List.map_id os]
  refine List.map_congr_left fun i hi => ?_
  have := h i hi
  show ((i.toNat : Nat) : Int) = i
  omega
theorem ord_facts {n : Nat} {os : List Int} (h : ordB n os = true) : os.length = n ∧ (∀ i ∈ os, 0 ≤ i ∧ i < (n : Int)) ∧ os.Nodup := ordB_iff.mp h
end BR

namespace BR
open PySem PySem.Spec PyProof.Rows L2
section
variable {X : Cx} {σ : L2.St} {H : Hp} {D : Ends} {pos p1 p2 : Pos} {o e : Expr} {es : List Expr}
end
/-! ### facts of gates of any size -/
def spLessL (R : Rp) : Sp := fun vs H Q _ => ∃ (S : Reg) (v u : V) (n : Nat) (r t : Rat), vs = [v, u] ∧ Fr R S H v n r ∧ Fr R S H u n t ∧ n ≤ 9000 ∧ Q (.bl (decide (r < t))) H
theorem mkQ_lt2 {a b c d : Int} (h : 0 < b) (k : 0 < d) : mkQ a b < mkQ c d ↔ a * d < c * b := by
  have e1 : mkQ a b = mkQ (a * d) (b * d) := (mkQ_times h k).symm
  have e2 : mkQ c d = mkQ (c * b) (b * d) := by rw [Int.mul_comm b d]; exact (mkQ_times k h).symm
  rw [e1, e2, mkQ_lt (Int.mul_pos h k)]
section
variable {gs : List G2} {os : List Int} {i t : Nat} {lo hi : Option Rat}
end
end BR

namespace BR
open PySem PySem.Spec PyProof.Rows L2
section
variable {X : Cx}
end
section
variable {X : Cx} {σ : L2.St} {H : Hp} {D : Ends} {st : Stmt} {sts : List Stmt}
/-- both ways of a test, and what follows them -/
theorem bJoin {Q : L2.St → Hp → Prop} (h : wS X st { D with nx := Q } σ H) (k : ∀ σ' H', Q σ' H' → wB X sts D σ' H') : wB X (st :: sts) D σ H :=
  bCons ⟨fun pins s I => thn (h.r pins s I) fun f s1 q => by
    cases f with
    | next =>
      obtain ⟨σ', H', I', q⟩ := q
      exact ⟨σ', H', I', k _ _ q⟩
    | brk => exact q
    | cont => exact q
    | ret u => exact q⟩
end
end BR

namespace BR
open PySem PySem.Spec PyProof.Rows L2
/-! ### gates, blocks and bags as trees -/
inductive Itm where
  | gate (g : G2)
  | node (b : Bool) (l : List Itm)
def Itm.cls : Itm → Str
  | .gate _ => "Gate"
  | .node true _ => "Bag"
  | .node false _ => "Block"
mutual
def Itm.d : Itm → D
  | .gate g => gD g
  | .node true l => .obj "Bag" [("parts", .tup (Itm.ds l))]
  | .node false l => .obj "Block" [("parts", .tup (Itm.ds l))]
def Itm.ds : List Itm → List D
  | [] => []
  | i :: l => i.d :: Itm.ds l
end
mutual
def Itm.leaves : Itm → List G2
  | .gate g => [g]
  | .node _ l => Itm.leavesL l
def Itm.leavesL : List Itm → List G2
  | [] => []
  | i :: l => i.leaves ++ Itm.leavesL l
end
mutual
def Itm.depth : Itm → Nat
  | .gate _ => 0
  | .node _ l => 1 + Itm.depthL l
def Itm.depthL : List Itm → Nat
  | [] => 0
  | i :: l => max i.depth (Itm.depthL l)
end
theorem Itm.ds_map : ∀ l : List Itm, Itm.ds l = l.map Itm.d
  | [] => rfl
  | i :: l => by
    show i.d :: Itm.ds l = i.d :: l.map Itm.d
    rw [Itm.ds_map l]
theorem Itm.leavesL_flat : ∀ l : List Itm, Itm.leavesL l = l.flatMap Itm.leaves
  | [] => rfl
  | i :: l => by
    show i.leaves ++ Itm.leavesL l = _
    rw [Itm.leavesL_flat l, List.flatMap_cons]
theorem Itm.depthL_le {n : Nat} : ∀ {l : List Itm}, Itm.depthL l ≤ n ↔ ∀ i ∈ l, i.depth ≤ n
  | [] => ⟨fun _ _ z => (nomatch z), fun _ => Nat.zero_le _⟩
  | i :: l => by
    show max i.depth (Itm.depthL l) ≤ n ↔ _
    rw [Nat.max_le, Itm.depthL_le (l := l), List.forall_mem_cons]
/-- the classes of items, told apart -/
structure ItC (R : Rp) (mg : Str → Option Value) : Prop where
  G : ClC R mg "Gate"
  B : ClC R mg "Bag"
  K : ClC R mg "Block"
  nB : NoAttr R.K (R.CA "Bag") "parts"
  nK : NoAttr R.K (R.CA "Block") "parts"
  kit : ∀ i j : Itm, PySem.W.kitOne R.K (.ref (R.CA i.cls)) (.ref (R.CA j.cls)) = some (decide (i.cls = j.cls))
theorem Itm.node_d (b : Bool) (l : List Itm) : (Itm.node b l).d = .obj (Itm.node b l).cls [("parts", .tup (l.map Itm.d))] := by
  cases b <;> show D.obj _ [("parts", .tup (Itm.ds l))] = _ <;> rw [Itm.ds_map] <;> rfl
section
variable {R : Rp} {mg : Str → Option Value} {S : Reg} {H : Hp} {v : V} {i : Itm}
theorem ItC.cl (C : ItC R mg) : ∀ i : Itm, ClC R mg i.cls
  | .gate _ => C.G
  | .node true _ => C.B
  | .node false _ => C.K
theorem ItC.ty (C : ItC R mg) (h : Is R S H v i.d) : ∃ p, v = .ref p ∧ TyX R.K H v (.ref (R.CA i.cls)) := by
  have key : ∀ {c : Str} {ds : List (Str × D)}, ClC R mg c → Is R S H v (.obj c ds) → ∃ p, v = .ref p ∧ TyX R.K H v (.ref (R.CA c)) := fun hc h => by
    cases h with
    | obj n e hf => exact ⟨_, rfl, hc.tyX e⟩
  match i, h with
  | .gate g, h => exact key C.G h
  | .node true l, h => exact key C.B h
  | .node false l, h => exact key C.K h
theorem ItC.parts (C : ItC R mg) {b : Bool} {l : List Itm} {Q : VK} (h : Is R S H v (Itm.node b l).d) (q : ∀ u, Is R S H u (.tup (l.map Itm.d)) → Q u H) : rFld R.K "parts" v H Q := by
  rw [Itm.node_d] at h
  cases b with
  | true => exact fldD h C.B.cls C.nB lk0 q
  | false => exact fldD h C.K.cls C.nK lk0 q
end
section
variable {X : Cx} {σ : L2.St} {H : Hp} {D : Ends} {Q : VK} {pos p1 p2 : Pos} {e : Expr}
end
end BR

namespace BR
open PySem PySem.Spec PyProof.Rows L2
/-- a def held by a local name -/
structure DefV (P : Program) (w : World) (K : PySem.W.Frag) (mg : Str → Option Value) (base : Heap) (k : Nat) (ps : List Str) (sp : Sp) (f : Addr) : Prop where
  ex : ∃ fd, FnOk P w K mg base (L2.CX P w) k f fd ps sp ∧ PySem.W.keepIn K (.ref f) = true ∧ Binds K fd ps []
theorem DefG.val {P : Program} {w : World} {K : PySem.W.Frag} {mg : Str → Option Value} {base : Heap} {k : Nat} {x : Str} {ps : List Str} {sp : Sp} (G : DefG P w K mg base k x ps sp) : ∃ f, mg x = some (.ref f) ∧ DefV P w K mg base k ps sp f := by
  obtain ⟨f, fd, F, hm, hk, ⟨hb, _⟩⟩ := G.ex
  exact ⟨f, hm, fd, F, hk, hb⟩
section
variable {X : Cx} {σ : L2.St} {H : Hp} {Q : VK} {k j : Nat} {x : Str} {ps : List Str} {sp : Sp} {W : WX} {p1 pos : Pos} {e : Expr} {es : List Expr} {f : Addr}
end
/-- the numbers of the parts' gates in the whole -/
def numQ : Nat → List (List Int) → List (List Int)
  | _, [] => []
  | a, o :: os => (o.map fun x => (a : Int) + x) :: numQ (a + o.length) os
section
variable {R : Rp} {S : Reg} {H H' : Hp} {v : V} {c : Str} {gs : List G2} {n : Nat}
end
def spSolvedI (R : Rp) : Sp := fun vs H Q _ => ∃ (S : Reg) (H0 : Hp) (m dx : Addr) (x y : V) (g : G2) (d : D) (os : List Int), vs = [.ref m, x, y] ∧ Same H0 H ∧ H0 m = none ∧ H m = some (.ins (R.CA "Solved") dx []) ∧ Live S H0 ∧ Is R S H0 x (faD "Line" g.1 g.2) ∧ Is R S H0 y d ∧ d.items = some (os.map D.int) ∧
  ∀ H', Same H0 H' → Is R S H' (.ref m) (.obj "Solved" [("line", faD "Line" g.1 g.2), ("order", .tup (os.map D.int))]) → Q .non H'
mutual
/-- an item's line and the order of its gates, where f finds the orders of the bags -/
def Itm.sol (f : List G2 → List Nat) : Itm → G2 × List Int
  | .gate g => (g, [0])
  | .node b l => (lineQ ((Itm.sols f l).map (·.1)) (if b then toI (f ((Itm.sols f l).map (·.1))) else idsI l.length),
      (if b then toI (f ((Itm.sols f l).map (·.1))) else idsI l.length).flatMap fun p => (numQ 0 ((Itm.sols f l).map (·.2))).getD p.toNat [])
def Itm.sols (f : List G2 → List Nat) : List Itm → List (G2 × List Int)
  | [] => []
  | i :: l => i.sol f :: Itm.sols f l
end
theorem Itm.sols_map (f : List G2 → List Nat) : ∀ l : List Itm, Itm.sols f l = l.map (Itm.sol f)
  | [] => rfl
  | i :: l => by
    show i.sol f :: Itm.sols f l = _
    rw [Itm.sols_map f l]
    rfl
def solD (x : G2 × List Int) : D := .obj "Solved" [("line", faD "Line" x.1.1 x.1.2), ("order", .tup (x.2.map D.int))]
theorem ids_ord {n : Nat} : ordB n (idsI n) = true := by
  refine ordB_iff.mpr ⟨by unfold idsI; rw [List.length_map, List.length_range], fun i hi => ?_, ?_⟩
  · unfold idsI at hi
    obtain ⟨j, hj, rfl⟩ := List.mem_map.mp hi
    have := List.mem_range.mp hj
    omega
  · unfold idsI
    exact List.Pairwise.map _ (fun a b h z => h (Int.ofNat.inj z)) List.nodup_range
theorem numQ_len : ∀ (a : Nat) (l : List (List Int)), (numQ a l).length = l.length
  | _, [] => rfl
  | a, o :: l => by show (numQ (a + o.length) l).length + 1 = l.length + 1; rw [numQ_len]
/-- best orders and worst ones -/
def bF (gs : List G2) : List Nat := bestQ gs (2 ^ gs.length - 1)
def wF (gs : List G2) : List Nat := bestQ (gs.map ngQ) (2 ^ gs.length - 1)
theorem bF_ord {gs : List G2} (h8 : gs.length ≤ 8) : ordB gs.length (toI (bF gs)) = true := by
  have p := bestQ_perm h8 (s := 2 ^ gs.length - 1) (Nat.sub_lt (Nat.two_pow_pos _) (by decide))
  rw [bits_full _ h8] at p
  refine ordB_iff.mpr ⟨?_, fun i hi => ?_, ?_⟩
  · unfold toI bF
    rw [List.length_map, p.length_eq, List.length_range]
  · unfold toI at hi
    obtain ⟨j, hj, rfl⟩ := List.mem_map.mp hi
    have := List.mem_range.mp (p.mem_iff.mp hj)
    omega
  · unfold toI
    exact List.Pairwise.map _ (fun a b h z => h (Int.ofNat.inj z)) (p.nodup_iff.mpr List.nodup_range)
theorem wF_ord {gs : List G2} (h8 : gs.length ≤ 8) : ordB gs.length (toI (wF gs)) = true := by
  have e : (gs.map ngQ).length = gs.length := List.length_map _
  have := bF_ord (gs := gs.map ngQ) (by rw [e]; exact h8)
  unfold bF at this
  rw [e] at this
  exact this
theorem DefG.mono {P : Program} {w : World} {K : PySem.W.Frag} {mg : Str → Option Value} {base : Heap} {k j : Nat} {x : Str} {ps : List Str} {sp : Sp} (G : DefG P w K mg base k x ps sp) (h : k ≤ j) : DefG P w K mg base j x ps sp := by
  obtain ⟨f, fd, F, hm, hk, hb⟩ := G.ex
  exact ⟨f, fd, F.mono h, hm, hk, hb⟩
end BR

namespace BR
open PySem PySem.Spec PyProof.Rows L2
/-! ### lines of items: the leaves, passed in the order that is found -/
mutual
/-- blocks and bags have one to eight parts -/
def Itm.nice : Itm → Prop
  | .gate _ => True
  | .node _ l => 1 ≤ l.length ∧ l.length ≤ 8 ∧ Itm.niceL l
def Itm.niceL : List Itm → Prop
  | [] => True
  | i :: l => i.nice ∧ Itm.niceL l
end
theorem Itm.niceL_iff : ∀ {l : List Itm}, Itm.niceL l ↔ ∀ i ∈ l, i.nice
  | [] => ⟨fun _ _ z => (nomatch z), fun _ => trivial⟩
  | i :: l => by
    show i.nice ∧ Itm.niceL l ↔ _
    rw [Itm.niceL_iff (l := l), List.forall_mem_cons]
mutual
theorem Itm.leaves_one : ∀ {i : Itm}, i.nice → 1 ≤ i.leaves.length
  | .gate _, _ => Nat.le_refl _
  | .node b [], h => absurd h.1 (by decide)
  | .node b (i :: l), h => by
    show 1 ≤ (i.leaves ++ Itm.leavesL l).length
    have := Itm.leaves_one (i := i) h.2.2.1
    rw [List.length_append]
    omega
end
/-- where f finds orders -/
def OrdF (f : List G2 → List Nat) : Prop := ∀ gs : List G2, 1 ≤ gs.length → gs.length ≤ 8 → ordB gs.length (toI (f gs)) = true
theorem OrdF.b : OrdF bF := fun _ _ h => bF_ord h
theorem OrdF.w : OrdF wF := fun _ _ h => wF_ord h
/-- the places of a node's parts -/
def plQ (f : List G2 → List Nat) (b : Bool) (l : List Itm) : List Int := if b then toI (f ((Itm.sols f l).map (·.1))) else idsI l.length
theorem plQ_ord {f : List G2 → List Nat} (hf : OrdF f) (b : Bool) {l : List Itm} (h1 : 1 ≤ l.length) (h8 : l.length ≤ 8) : ordB l.length (plQ f b l) = true := by
  unfold plQ
  cases b with
  | true =>
    rw [if_pos rfl]
    have e : ((Itm.sols f l).map (·.1)).length = l.length := by rw [List.length_map, Itm.sols_map, List.length_map]
    have := hf ((Itm.sols f l).map (·.1)) (by omega) (by omega)
    rw [e] at this
    exact this
  | false => rw [if_neg (by decide)]; exact ids_ord
theorem sol_node (f : List G2 → List Nat) (b : Bool) (l : List Itm) : (Itm.node b l).sol f = (lineQ ((Itm.sols f l).map (·.1)) (plQ f b l), (plQ f b l).flatMap fun p => (numQ 0 ((Itm.sols f l).map (·.2))).getD p.toNat []) := rfl
theorem ids_shift (a n m : Nat) : ((idsI n).map fun x => (a : Int) + x) ++ ((idsI m).map fun x => ((a + n : Nat) : Int) + x) = (idsI (n + m)).map fun x => (a : Int) + x := by
  unfold idsI
  rw [List.range_add, List.map_append, List.map_append, List.map_map, List.map_map, List.map_map, List.map_map]
  congr 1
  refine List.map_congr_left fun x _ => ?_
  show ((a + n : Nat) : Int) + (x : Int) = (a : Int) + (((n + x : Nat)) : Int)
  omega
theorem numQ_perm : ∀ (a : Nat) (l : List (List Int)), (∀ o ∈ l, o.Perm (idsI o.length)) → (numQ a l).flatten.Perm ((idsI (l.map List.length).sum).map fun x => (a : Int) + x)
  | a, [], _ => List.Perm.refl _
  | a, o :: l, h => by
    show ((o.map fun x => (a : Int) + x) ++ (numQ (a + o.length) l).flatten).Perm _
    have p1 := (h o (List.mem_cons_self ..)).map fun x => (a : Int) + x
    have p2 := numQ_perm (a + o.length) l fun o' ho => h o' (List.mem_cons_of_mem _ ho)
    refine (List.Perm.append p1 p2).trans ?_
    rw [ids_shift, List.map_cons, List.sum_cons]
theorem ids_flat {α : Type} (l : List (List α)) : ((idsI l.length).flatMap fun p => l.getD p.toNat []) = l.flatten := by
  unfold idsI
  rw [List.flatMap_map]
  rw [List.flatMap_def]
  congr 1
  refine List.ext_getElem? fun i => ?_
  rw [List.getElem?_map]
  by_cases c : i < l.length
  · rw [List.getElem?_range c]
    show some (l.getD ((i : Int).toNat) []) = _
    rw [Int.toNat_natCast, List.getD_eq_getElem?_getD, List.getElem?_eq_getElem c]
    rfl
  · rw [List.getElem?_eq_none (by rw [List.length_range]; omega), List.getElem?_eq_none (by omega)]
    rfl
theorem sums_eq (f : List G2 → List Nat) {l : List Itm} (h : ∀ i ∈ l, (i.sol f).2.length = i.leaves.length) (p : Nat) : ((((Itm.sols f l).map (·.2)).take p).map List.length).sum = ((l.take p).map fun j => j.leaves.length).sum := by
  rw [Itm.sols_map, List.map_map, ← List.map_take, List.map_map]
  congr 1
  exact List.map_congr_left fun i hi => h i (List.mem_of_mem_take hi)
theorem leavesL_len : ∀ l : List Itm, (l.map fun j => j.leaves.length).sum = (Itm.leavesL l).length
  | [] => rfl
  | i :: l => by
    show _ = (i.leaves ++ Itm.leavesL l).length
    rw [List.map_cons, List.sum_cons, leavesL_len l, List.length_append]
theorem sol_perm_node {f : List G2 → List Nat} (hf : OrdF f) {b : Bool} {l : List Itm} (h1 : 1 ≤ l.length) (h8 : l.length ≤ 8) (ih : ∀ i ∈ l, (i.sol f).2.Perm (idsI i.leaves.length)) : ((Itm.node b l).sol f).2.Perm (idsI (Itm.node b l).leaves.length) := by
  have hl : ∀ i ∈ l, (i.sol f).2.length = i.leaves.length := fun i hi => by
    rw [(ih i hi).length_eq]
    unfold idsI
    rw [List.length_map, List.length_range]
  rw [sol_node]
  have nl : (numQ 0 ((Itm.sols f l).map (·.2))).length = l.length := by rw [numQ_len, List.length_map, Itm.sols_map, List.length_map]
  have p1 := ord_nat (plQ_ord hf b h1 h8)
  refine (List.Perm.flatMap_right (fun p => (numQ 0 ((Itm.sols f l).map (·.2))).getD p.toNat []) p1).trans ?_
  rw [← nl, ids_flat]
  refine (numQ_perm 0 _ fun o ho => ?_).trans ?_
  · rw [Itm.sols_map, List.map_map] at ho
    obtain ⟨i, hi, rfl⟩ := List.mem_map.mp ho
    show (i.sol f).2.Perm (idsI (i.sol f).2.length)
    rw [hl i hi]
    exact ih i hi
  · have e := sums_eq f hl ((Itm.sols f l).map (·.2)).length
    rw [List.take_length] at e
    have e2 : ((Itm.sols f l).map (·.2)).length = l.length := by rw [List.length_map, Itm.sols_map, List.length_map]
    rw [e2, List.take_length, leavesL_len] at e
    rw [e]
    refine List.Perm.of_eq ?_
    show (idsI (Itm.leavesL l).length).map (fun x => ((0 : Nat) : Int) + x) = idsI (Itm.leavesL l).length
    conv => rhs; rw [← List.map_id (idsI (Itm.leavesL l).length)]
    exact List.map_congr_left fun x _ => by show ((0 : Nat) : Int) + x = x; omega
mutual
theorem sol_perm {f : List G2 → List Nat} (hf : OrdF f) : ∀ {i : Itm}, i.nice → (i.sol f).2.Perm (idsI i.leaves.length)
  | .gate g, _ => List.Perm.refl _
  | .node b l, h => sol_perm_node hf h.1 h.2.1 (sol_permL hf h.2.2)
theorem sol_permL {f : List G2 → List Nat} (hf : OrdF f) : ∀ {l : List Itm}, Itm.niceL l → ∀ i ∈ l, (i.sol f).2.Perm (idsI i.leaves.length)
  | [], _, _, z => nomatch z
  | i :: l, h, j, hj => by
    rcases List.mem_cons.mp hj with e | hj
    · rw [e]
      exact sol_perm hf h.1
    · exact sol_permL hf h.2 j hj
end
theorem ids_len (n : Nat) : (idsI n).length = n := by
  unfold idsI
  rw [List.length_map, List.length_range]
theorem sol_len {f : List G2 → List Nat} (hf : OrdF f) {i : Itm} (h : i.nice) : (i.sol f).2.length = i.leaves.length := by rw [(sol_perm hf h).length_eq, ids_len]
theorem ids_mem {n : Nat} {x : Int} (h : x ∈ idsI n) : ∃ k : Nat, x = (k : Int) ∧ k < n := by
  unfold idsI at h
  obtain ⟨j, hj, rfl⟩ := List.mem_map.mp h
  exact ⟨j, rfl, List.mem_range.mp hj⟩
end BR

namespace BR
open PySem PySem.Spec PyProof.Rows L2
/-! ### sizes, ways, bags of one and of two, items turned -/
section
variable {f : List G2 → List Nat} {n m : Nat}
end
mutual
/-- the item with all amounts negative -/
def Itm.ng : Itm → Itm
  | .gate g => .gate (ngQ g)
  | .node b l => .node b (Itm.ngL l)
def Itm.ngL : List Itm → List Itm
  | [] => []
  | i :: l => i.ng :: Itm.ngL l
end
theorem Itm.ngL_map : ∀ l : List Itm, Itm.ngL l = l.map Itm.ng
  | [] => rfl
  | i :: l => by
    show i.ng :: Itm.ngL l = _
    rw [Itm.ngL_map l]
    rfl
mutual
theorem ng_nice : ∀ {i : Itm}, i.nice → i.ng.nice
  | .gate _, _ => trivial
  | .node b l, h => by
    have e : (Itm.ngL l).length = l.length := by rw [Itm.ngL_map, List.length_map]
    exact ⟨by rw [e]; exact h.1, by rw [e]; exact h.2.1, ng_niceL h.2.2⟩
theorem ng_niceL : ∀ {l : List Itm}, Itm.niceL l → Itm.niceL (Itm.ngL l)
  | [], _ => trivial
  | i :: l, h => ⟨ng_nice h.1, ng_niceL h.2⟩
end
mutual
theorem ng_depth : ∀ i : Itm, i.ng.depth = i.depth
  | .gate _ => rfl
  | .node b l => congrArg (1 + ·) (ng_depthL l)
theorem ng_depthL : ∀ l : List Itm, Itm.depthL (Itm.ngL l) = Itm.depthL l
  | [] => rfl
  | i :: l => by
    show max i.ng.depth (Itm.depthL (Itm.ngL l)) = max i.depth (Itm.depthL l)
    rw [ng_depth i, ng_depthL l]
end
mutual
theorem ng_leaves : ∀ i : Itm, i.ng.leaves = i.leaves.map ngQ
  | .gate _ => rfl
  | .node b l => ng_leavesL l
theorem ng_leavesL : ∀ l : List Itm, Itm.leavesL (Itm.ngL l) = (Itm.leavesL l).map ngQ
  | [] => rfl
  | i :: l => by
    show i.ng.leaves ++ Itm.leavesL (Itm.ngL l) = (i.leaves ++ Itm.leavesL l).map ngQ
    rw [List.map_append, ng_leaves i, ng_leavesL l]
end
theorem gates_leaves (gs : List G2) : Itm.leavesL (gs.map Itm.gate) = gs := by
  induction gs with
  | nil => rfl
  | cons g gs ih =>
    show [g] ++ Itm.leavesL (gs.map Itm.gate) = _
    rw [ih]
    rfl
end BR

namespace BR
open PySem PySem.Spec PyProof.Rows L2
/-! ### the laws' own items -/
inductive ItF where
  | gate (f : F4)
  | node (b : Bool) (l : List ItF)
def nmS : Bool → Str
  | true => "bag"
  | false => "block"
mutual
def ItF.it : ItF → Itm
  | .gate f => .gate (f2 f)
  | .node b l => .node b (ItF.its l)
def ItF.its : List ItF → List Itm
  | [] => []
  | i :: l => i.it :: ItF.its l
end
mutual
def ItF.d : ItF → D
  | .gate f => fD f
  | .node b l => .tup [.str (nmS b), .lst (ItF.ds l)]
def ItF.ds : List ItF → List D
  | [] => []
  | i :: l => i.d :: ItF.ds l
end
mutual
def ItF.lvs : ItF → List F4
  | .gate f => [f]
  | .node _ l => ItF.lvsL l
def ItF.lvsL : List ItF → List F4
  | [] => []
  | i :: l => i.lvs ++ ItF.lvsL l
end
theorem ItF.ds_map : ∀ l : List ItF, ItF.ds l = l.map ItF.d
  | [] => rfl
  | i :: l => by
    show i.d :: ItF.ds l = _
    rw [ItF.ds_map l]
    rfl
mutual
theorem ItF.leaves : ∀ t : ItF, t.it.leaves = t.lvs.map f2
  | .gate _ => rfl
  | .node _ l => ItF.leavesL l
theorem ItF.leavesL : ∀ l : List ItF, Itm.leavesL (ItF.its l) = (ItF.lvsL l).map f2
  | [] => rfl
  | i :: l => by
    show i.it.leaves ++ Itm.leavesL (ItF.its l) = (i.lvs ++ ItF.lvsL l).map f2
    rw [List.map_append, ItF.leaves i, ItF.leavesL l]
end
def F4.ng (f : F4) : F4 := ⟨f.p, f.q, 0 - f.a, f.b⟩
theorem F4.Ok.ng {f : F4} (h : f.Ok) : f.ng.Ok := { h with a1 := by show -1000000 ≤ 0 - f.a; have := h.a2; omega, a2 := by show 0 - f.a ≤ 1000000; have := h.a1; omega }
mutual
def ItF.ng : ItF → ItF
  | .gate f => .gate f.ng
  | .node b l => .node b (ItF.ngL l)
def ItF.ngL : List ItF → List ItF
  | [] => []
  | i :: l => i.ng :: ItF.ngL l
end
theorem ItF.ngL_map : ∀ l : List ItF, ItF.ngL l = l.map ItF.ng
  | [] => rfl
  | i :: l => by
    show i.ng :: ItF.ngL l = _
    rw [ItF.ngL_map l]
    rfl
theorem Fills.wide {Fin : Hp → Prop} {Gr : Hp → Hp → Prop} {T T' : Reg} {L : Addr} {H1 : Hp} (F : Fills Fin Gr T L H1) (h : ∀ a, T a → T' a) : Fills Fin Gr T' L H1 := { F with kp := fun a b x o n e => F.kp a b x o (fun z => n (h _ z)) e, inT := h _ F.inT }
/-! ### lines passed one after the other, by the law -/
end BR

namespace BR
open PySem PySem.Spec PyProof.Rows L2
/-! ### items that the laws draw -/
structure IOk (d m : Nat) (i : Itm) : Prop where
  nice : i.nice
  dep : i.depth ≤ d
  len : i.leaves.length ≤ m
  sz : ∀ g ∈ i.leaves, Sz 11 g.1 ∧ Sz 11 g.2
  pos : ∀ g ∈ i.leaves, 0 < g.1
section
variable {d m e n : Nat} {i j : Itm}
theorem IOk.mono (h : IOk d m i) (hd : d ≤ e) (hm : m ≤ n) : IOk e n i := { h with dep := Nat.le_trans h.dep hd, len := Nat.le_trans h.len hm }
theorem IOk.node {l : List Itm} {b : Bool} (l1 : 1 ≤ l.length) (l8 : l.length ≤ 8) (h : ∀ i ∈ l, IOk d 99 i) (hl : (Itm.leavesL l).length ≤ m) : IOk (d + 1) m (.node b l) where
  nice := ⟨l1, l8, Itm.niceL_iff.mpr fun i hi => (h i hi).nice⟩
  dep := by
    show 1 + Itm.depthL l ≤ d + 1
    have := Itm.depthL_le.mpr fun i hi => (h i hi).dep
    omega
  len := hl
  sz := fun g hg => by
    have hg : g ∈ Itm.leavesL l := hg
    rw [Itm.leavesL_flat] at hg
    obtain ⟨i, hi, hg⟩ := List.mem_flatMap.mp hg
    exact (h i hi).sz g hg
  pos := fun g hg => by
    have hg : g ∈ Itm.leavesL l := hg
    rw [Itm.leavesL_flat] at hg
    obtain ⟨i, hi, hg⟩ := List.mem_flatMap.mp hg
    exact (h i hi).pos g hg
theorem IOk.two (h : IOk d m i) (k : IOk d n j) (b : Bool) (hm : m ≤ 99 := by decide) (hn : n ≤ 99 := by decide) : IOk (d + 1) (m + n) (.node b [i, j]) := by
  refine IOk.node (show 1 ≤ 2 by decide) (show 2 ≤ 8 by decide) (fun x hx => ?_) ?_
  · rcases List.mem_cons.mp hx with rfl | hx
    · exact h.mono (Nat.le_refl _) hm
    · rw [List.mem_singleton.mp hx]
      exact k.mono (Nat.le_refl _) hn
  · show (i.leaves ++ (j.leaves ++ [])).length ≤ m + n
    rw [List.append_nil, List.length_append]
    have := h.len
    have := k.len
    omega
theorem IOk.gate {g : G2} (s : Sz 11 g.1 ∧ Sz 11 g.2) (p : 0 < g.1) : IOk 0 1 (.gate g) := ⟨trivial, Nat.le_refl _, Nat.le_refl _, fun x hx => by rw [List.mem_singleton.mp hx]; exact s, fun x hx => by rw [List.mem_singleton.mp hx]; exact p⟩
theorem IOk.ng (h : IOk d m i) : IOk d m i.ng where
  nice := ng_nice h.nice
  dep := by rw [ng_depth]; exact h.dep
  len := by rw [ng_leaves, List.length_map]; exact h.len
  sz := fun g hg => by
    rw [ng_leaves] at hg
    obtain ⟨x, hx, rfl⟩ := List.mem_map.mp hg
    exact ⟨(h.sz x hx).1, sz_neg (h.sz x hx).2⟩
  pos := fun g hg => by
    rw [ng_leaves] at hg
    obtain ⟨x, hx, rfl⟩ := List.mem_map.mp hg
    exact h.pos x hx
theorem cg_sz {f : F4} (h : CG 0 f) : (Sz 11 (f2 f).1 ∧ Sz 11 (f2 f).2) ∧ 0 < (f2 f).1 := by
  obtain ⟨b1, b2⟩ := h.bnd (by decide)
  have := h.p1
  have := h.p9
  have := h.q1
  have := h.q9
  have := h.b1
  have p11 : (2 : Nat) ^ 11 = 2048 := rfl
  exact ⟨⟨mkQ_sz (by omega) (by omega) (by omega), mkQ_sz (by omega) (by omega) (by omega)⟩, mkQ_pos (by omega) (by omega)⟩
theorem IOk.of {t : ItF} (hd : t.it.depth ≤ d) (hn : t.it.nice) (hl : t.lvs.length ≤ m) (hc : ∀ f ∈ t.lvs, CG 0 f) : IOk d m t.it where
  nice := hn
  dep := hd
  len := by rw [ItF.leaves, List.length_map]; exact hl
  sz := fun g hg => by
    rw [ItF.leaves] at hg
    obtain ⟨x, hx, rfl⟩ := List.mem_map.mp hg
    exact (cg_sz (hc x hx)).1
  pos := fun g hg => by
    rw [ItF.leaves] at hg
    obtain ⟨x, hx, rfl⟩ := List.mem_map.mp hg
    exact (cg_sz (hc x hx)).2
/-- the gates of an item in the order that is found, as a block -/
def keptI (f : List G2 → List Nat) (i : Itm) : Itm := .node false (((i.sol f).2.map (gAt i.leaves)).map Itm.gate)
theorem IOk.kept (h : IOk d m i) {f : List G2 → List Nat} (hf : OrdF f) (hm : m ≤ 8 := by decide) : IOk 1 m (keptI f i) := by
  have l := sol_len hf h.nice
  have l1 := Itm.leaves_one h.nice
  have hl := h.len
  refine IOk.node (d := 0) (by rw [List.length_map, List.length_map]; omega) (by rw [List.length_map, List.length_map]; omega) (fun x hx => ?_) (by rw [gates_leaves, List.length_map]; omega)
  obtain ⟨g, hg, rfl⟩ := List.mem_map.mp hx
  obtain ⟨k, hk, rfl⟩ := List.mem_map.mp hg
  obtain ⟨q, rfl, hq⟩ := ids_mem ((sol_perm hf h.nice).mem_iff.mp hk)
  have mem : gAt i.leaves (q : Int) ∈ i.leaves := by
    unfold gAt
    rw [Int.toNat_natCast, List.getElem?_eq_getElem hq]
    exact List.getElem_mem hq
  exact (IOk.gate (h.sz _ mem) (h.pos _ mem)).mono (Nat.le_refl _) (by decide)
end
end BR

namespace BR
open PySem PySem.Spec PyProof.Rows L2
/-! ### all ways to pass an item -/
end BR

namespace BR
open PySem PySem.Spec PyProof.Rows L2
end BR

namespace BR
open PySem PySem.Spec PyProof.Rows L2
/-! ### all ways, by the law -/
section
variable {X : Cx} {σ : L2.St} {H : Hp} {a : Expr} {p p2 pos pos2 : Pos} {Q : VK}
end
end BR

namespace BR
open PySem PySem.Spec PyProof.Rows L2
end BR

namespace BR
open PySem PySem.Spec PyProof.Rows L2
/-! ### what is solved, asked -/
theorem plains_int (l : List Int) : D.plains (l.map D.int) = true := by
  induction l with
  | nil => rfl
  | cons x l ih =>
    show ((D.int x).plain && D.plains (l.map D.int)) = true
    rw [ih]
    rfl
theorem plain_tup (l : List Int) : (D.tup (l.map D.int)).plain = true := plains_int l
theorem lay_tup (l : List Int) : (D.tup (l.map D.int)).py.canLay0 = true := by
  show PyData.canLayAll0 (D.pys (l.map D.int)) = true
  induction l with
  | nil => rfl
  | cons x l ih =>
    show (PyData.canLay0 (.int x) && PyData.canLayAll0 (D.pys (l.map D.int))) = true
    rw [ih]
    rfl
theorem dep_tup (l : List Int) : (D.tup (l.map D.int)).py.depth ≤ 1 := by
  have : PyData.depthAll (D.pys (l.map D.int)) = 0 := by
    induction l with
    | nil => rfl
    | cons x l ih =>
      show max (PyData.depth (.int x)) (PyData.depthAll (D.pys (l.map D.int))) = 0
      rw [ih]
      rfl
  show PyData.depth (.tuple (D.pys (l.map D.int))) ≤ 1
  simp only [PyData.depth]
  omega
theorem okEq_tup (l : List Int) : (D.tup (l.map D.int)).okEq = true := by
  unfold D.okEq SeqAt.shaped
  rw [plain_tup, lay_tup, Bool.true_and, Bool.true_and]
  exact decide_eq_true (Nat.le_trans (dep_tup l) (by decide))
theorem sol_ins {R : Rp} {S : Reg} {H : Hp} {v : V} {x : G2 × List Int} (h : Is R S H v (solD x)) : ∃ a dx fs, v = .ref a ∧ H a = some (.ins (R.CA "Solved") dx fs) := by
  cases h with
  | obj n e _ => exact ⟨_, _, _, rfl, e⟩
mutual
/-- what has no list stays where a list is written -/
def D.noL : D → Bool
  | .lst _ => false
  | .tup l => D.noLs l
  | .obj _ l => D.noLf l
  | _ => true
def D.noLs : List D → Bool
  | [] => true
  | d :: r => D.noL d && D.noLs r
def D.noLf : List (Str × D) → Bool
  | [] => true
  | d :: r => D.noL d.2 && D.noLf r
end
def KpL (H H' : Hp) : Prop := ∀ a o, H a = some o → (∀ xs, o ≠ .lst xs) → H' a = some o
section
variable {R : Rp} {S : Reg} {H H' : Hp}
mutual
theorem Is.kpL (k : KpL H H') : ∀ {v : V} {d : D}, Is R S H v d → d.noL = true → Is R S H' v d
  | _, _, .non, _ => .non
  | _, _, .bl b, _ => .bl b
  | _, _, .int i, _ => .int i
  | _, _, .str x, _ => .str x
  | _, _, .tup n e h, p => .tup n (k _ _ e fun _ z => by cases z) (IsA.kpL k h (by simpa [D.noL] using p))
  | _, _, .tupK e h, p => .tupK e (IsA.kpL k h (by simpa [D.noL] using p))
  | _, _, .lst n e h, p => by simp [D.noL] at p
  | _, _, .obj n e h, p => .obj n (k _ _ e fun _ z => by cases z) (IsF.kpL k h (by simpa [D.noL] using p))
theorem IsA.kpL (k : KpL H H') : ∀ {v : List V} {d : List D}, IsA R S H v d → D.noLs d = true → IsA R S H' v d
  | _, _, .nil, _ => .nil
  | _, _, .cons a b, p => by
    simp [D.noLs] at p
    exact .cons (Is.kpL k a p.1) (IsA.kpL k b p.2)
theorem IsF.kpL (k : KpL H H') : ∀ {v : List (Str × V)} {d : List (Str × D)}, IsF R S H v d → D.noLf d = true → IsF R S H' v d
  | _, _, .nil, _ => .nil
  | _, _, .cons a b, p => by
    simp [D.noLf] at p
    exact .cons (Is.kpL k a p.1) (IsF.kpL k b p.2)
end
end
section
variable {R : Rp} {S T : Reg} {H : Hp}
mutual
/-- what has no list is told apart from lists -/
theorem Is.apart (k : ∀ a, T a → ∃ xs, H a = some (.lst xs)) : ∀ {v : V} {d : D}, Is R S H v d → d.noL = true → Is R T H v d
  | _, _, .non, _ => .non
  | _, _, .bl b, _ => .bl b
  | _, _, .int i, _ => .int i
  | _, _, .str x, _ => .str x
  | _, _, .tup n e h, p => .tup (fun z => by obtain ⟨xs, y⟩ := k _ z; rw [e] at y; cases y) e (IsA.apart k h (by simpa [D.noL] using p))
  | _, _, .tupK e h, p => .tupK e (IsA.apart k h (by simpa [D.noL] using p))
  | _, _, .lst n e h, p => by simp [D.noL] at p
  | _, _, .obj n e h, p => .obj (fun z => by obtain ⟨xs, y⟩ := k _ z; rw [e] at y; cases y) e (IsF.apart k h (by simpa [D.noL] using p))
theorem IsA.apart (k : ∀ a, T a → ∃ xs, H a = some (.lst xs)) : ∀ {v : List V} {d : List D}, IsA R S H v d → D.noLs d = true → IsA R T H v d
  | _, _, .nil, _ => .nil
  | _, _, .cons a b, p => by
    simp [D.noLs] at p
    exact .cons (Is.apart k a p.1) (IsA.apart k b p.2)
theorem IsF.apart (k : ∀ a, T a → ∃ xs, H a = some (.lst xs)) : ∀ {v : List (Str × V)} {d : List (Str × D)}, IsF R S H v d → D.noLf d = true → IsF R T H v d
  | _, _, .nil, _ => .nil
  | _, _, .cons a b, p => by
    simp [D.noLf] at p
    exact .cons (Is.apart k a p.1) (IsF.apart k b p.2)
end
end
end BR

namespace BR
open PySem PySem.Spec PyProof.Rows L2
/-! ### bags and blocks of gates; orders that lead -/
end BR

namespace BR
open PySem PySem.Spec PyProof.Rows L2
/-! ### gates that turn back -/
end BR

namespace BR
open PySem PySem.Spec PyProof.Rows L2
/-! ### large items -/
structure LowF (f : F4) : Prop where
  p : f.p = (mkQ f.p f.q).num
  q : f.q = ((mkQ f.p f.q).den : Int)
  a : f.a = (mkQ f.a f.b).num
  b : f.b = ((mkQ f.a f.b).den : Int)
  a9 : f.a.natAbs ≤ 9
  b4 : f.b ≤ 4
def spRG9 (R : Rp) : Sp := fun vs H Q _ => ∃ s, vs = [.ref s] ∧ SrcAt H s ∧ ∀ f v H', Dr s H H' → Is R (Src s) H' v (fD f) → CG 0 f → LowF f → Q v H'
/-! ### the law's table of best amounts, its values as they stand -/
def sgR (c : Int) (r : Rat) : Rat := if c = 1 then r else -r
def FndAt (R : Rp) (S : Reg) (H : Hp) (c : Int) (vt : V) : Option Rat → Prop
  | none => vt = .non
  | some t => Is R S H vt (frac (sgR c t)) ∧ Sz 7210 t
theorem FndAt.up {R : Rp} {S : Reg} {H H' : Hp} {c : Int} {vt : V} {o : Option Rat} (h : FndAt R S H c vt o) (s : Same H H') : FndAt R S H' c vt o := by
  cases o with
  | none => exact h
  | some x => exact ⟨h.1.up s, h.2⟩
structure TabF (R : Rp) (S : Reg) (H : Hp) (p : Addr) (c : Int) (gs : List G2) (m : Nat) : Prop where
  ex : ∃ kvs : List (Key × V), H p = some (.dK kvs) ∧ kvs.length ≤ m ∧ ∀ t, t < m → ∃ x, valV kvs (Sum.inl ((t : Nat) : Int)) = some x ∧ Is R S H x (frac (sgR c (topQ gs t)))
theorem TabF.up {R : Rp} {S : Reg} {H H' : Hp} {p : Addr} {c : Int} {gs : List G2} {m : Nat} (h : TabF R S H p c gs m) (s : Same H H') : TabF R S H' p c gs m := by
  obtain ⟨kvs, h1, h2, h3⟩ := h.ex
  exact ⟨kvs, s _ _ h1, h2, fun t ht => let ⟨x, e, i⟩ := h3 t ht; ⟨x, e, i.up s⟩⟩
end BR

namespace BR
open PySem PySem.Spec PyProof.Rows L2
/-! ### solved by the law, from the inside outwards -/
end BR

namespace BR
open PySem PySem.Spec PyProof.Rows L2
/-! ### whether an order is a way -/
section
variable {R : Rp} {S : Reg} {H : Hp} {x : V} {ds : List D} {Q : VK}
end
/-- the part to which a number belongs -/
def partQ : List ItF → Nat → Nat
  | [], _ => 0
  | i :: l, y => if y < i.lvs.length then 0 else partQ l (y - i.lvs.length) + 1
def PlN (kvs : List (Key × V)) (l : List ItF) (a N : Nat) : Prop := kvs.length ≤ N ∧ ∀ y, y < N → valV kvs (Sum.inl ((a + y : Nat) : Int)) = some (.int (partQ l y : Nat))
theorem PlN.put {kvs : List (Key × V)} {l : List ItF} {a N : Nat} (h : PlN kvs l a N) : PlN (putK kvs (Sum.inl ((a + N : Nat) : Int)) (.int (partQ l N : Nat))) l a (N + 1) := by
  refine ⟨Nat.le_trans (length_putK _ _ _) (by have := h.1; omega), fun y hy => ?_⟩
  rw [valV_put]
  by_cases c : y = N
  · subst c
    exact if_pos rfl
  · rw [if_neg (fun z => c (by have := Sum.inl.inj z; omega))]
    exact h.2 y (by omega)
end BR

namespace BR
open PySem PySem.Spec PyProof.Rows L2
/-! ### larger bases: what a def promises holds over them too -/
section
variable {P : Program} {w : World} {K : PySem.W.Frag} {mg : Str → Option Value} {base base' : Heap} {k : Nat} {x m : Str} {C : Addr} {ps : List Str} {sp : Sp}
structure Wide (K : PySem.W.Frag) (mg : Str → Option Value) (base base' : Heap) : Prop where
  mod : Mod K mg base
  le : ∀ b o, base.get? b = some o → base'.get? b = some o
  sz : base.objs.size ≤ base'.objs.size
theorem none_le {b : Addr} (le : ∀ b o, base.get? b = some o → base'.get? b = some o) (h : base'.get? b = none) : base.get? b = none := by
  cases q : base.get? b with
  | none => rfl
  | some o => rw [le b o q] at h; cases h
theorem funs_le {h : Heap} (le : ∀ b o, base.get? b = some o → base'.get? b = some o) : ∀ {l : List Env}, h.FunFrames base' l → h.FunFrames base l
  | [], _ => trivial
  | _ :: _, ⟨hk, ⟨L, o, hf, hn, ho, hd⟩, hr⟩ => ⟨hk, ⟨L, o, hf, none_le le hn, ho, hd⟩, funs_le le hr⟩
theorem FnOk.wide {CX : CXT} {f : Addr} {fd : FuncData} (F : FnOk P w K mg base CX k f fd ps sp) (W : Wide K mg base base') : FnOk P w K mg base' CX k f fd ps sp :=
  ⟨F.len, fun A outer s H args us vs Q E hr he hb hv hs => F.run A outer s H args us vs Q E hr ⟨he.frames, W.mod, fun b o e => he.bs b o (W.le b o e), Nat.le_trans W.sz he.bsz, funs_le W.le he.funs, he.frf, he.hok, he.bare⟩ hb hv hs⟩
theorem DefG.wide (G : DefG P w K mg base k x ps sp) (W : Wide K mg base base') : DefG P w K mg base' k x ps sp := by
  obtain ⟨f, fd, F, h⟩ := G.ex
  exact ⟨f, fd, FnOk.wide F W, h⟩
theorem MakeG.wide (G : MakeG P w K mg base k x C ps sp) (W : Wide K mg base base') : MakeG P w K mg base' k x C ps sp := by
  obtain ⟨f, fd, M, F, h⟩ := G.ex
  exact ⟨f, fd, M, FnOk.wide F W, h⟩
end
/-! ### a lambda with one parameter, held by a local name -/
structure LamV (P : Program) (w : World) (K : PySem.W.Frag) (mg : Str → Option Value) (base : Heap) (k : Nat) (ps : List Str) (sp : Sp) (f : Addr) : Prop where
  ex : ∃ (oc : Value) (od : Option Addr) (fd : FuncData) (sl : Array (Option Value)), base.get? f = some ⟨oc, od, .func fd, sl⟩ ∧ FnOk P w K mg base (L2.CX P w) k f fd ps sp ∧ Binds K fd ps []
section
variable {X : Cx} {σ : L2.St} {H : Hp} {Q : VK} {k j : Nat} {x : Str} {ps : List Str} {sp : Sp} {W : WX} {p1 pos : Pos} {e : Expr} {es : List Expr} {f : Addr}
/-- x(..), x a local name that holds a lambda -/
theorem eCallL (i : Nat) (G : LamV X.prog X.w X.K X.mg X.base k ps sp f) (hr : Room j X.A) (tk : Takes X W) (hs : σ[i]? = some (some (.ref f))) (h : wA X (e :: es) σ H fun vs H1 => sp vs H1 Q fun c d H' => W c d σ H') (hk : k ≤ j := by decide)
    (hN : X.N[i]? = some x := by rfl) (hv : Vis X.env.scope x := by first | exact Or.inl rfl | exact Or.inr (Or.inl rfl) | exact Or.inr (Or.inr rfl)) (hd : (x == ("__debug__" : Str)) = false := by decide) (hcd : (x == ("__classdict__" : Str)) = false := by decide)
    (he : starEach (e :: es) X.env = (false, eval e X.env) :: starEach es X.env := by rfl) (hpl : (backTo pos (starEach es X.env)).any (·.1) = false := by rfl) :
    wE X (.Call (.Name x p1) (e :: es) [] pos) σ H Q := by
  obtain ⟨oc, od, fd, sl, ho, F, hb⟩ := G.ex
  refine ⟨fun pins s I => ?_⟩
  refine wpAny_Call_Name_kw (thn ((eV (pos := p1) (Q := fun v H1 => v = .ref f ∧ H1 = H) i hs ⟨rfl, rfl⟩ hN hv hd hcd).r pins s I) fun u s1 ⟨v, H1, I1, r1, q1⟩ => ?_)
  obtain ⟨ev, eH⟩ := q1
  subst ev
  subst eH
  obtain rfl : u = Value.ref f := r1
  exact PySem.W.callWith_F (first := []) ⟨oc, od, fd, sl, I1.bk _ _ ho⟩ (thn (h.r pos pins s1 I1) fun us s2 ⟨vs, H2, I2, r, q2⟩ => ⟨⟨oc, od, fd, sl, I2.bk _ _ ho⟩, run_fnS (us := us) (vs := vs) F (hr.mono hk) hb (passAt tk σ) I2 r q2⟩) he hpl
end
/-- the names of a lambda's body: its parameter, captured ones, globals -/
structure LamS1 (p : Str) (sc scope : Scope) : Prop where
  kind : scope.kind = .function
  co : scope.isCoroutine = false
  gen : scope.isGenerator = false
  par : scope.names.lookup p = some .local
  own : ∀ y ∈ scope.names, (y.2 = .local → y.1 = p) ∧ y.2 ≠ .cell
  free : ∀ y ∈ scope.names, y.2 = .free → sc.names.lookup y.1 = some .cell ∨ sc.names.lookup y.1 = some .free
def lamSB1 (p : Str) (sc scope : Scope) : Bool :=
  decide (scope.kind = .function) && !scope.isCoroutine && !scope.isGenerator && decide (scope.names.lookup p = some .local) && scope.names.all fun y => (!decide (y.2 = .local) || decide (y.1 = p)) && !decide (y.2 = .cell) && (!decide (y.2 = .free) || decide (sc.names.lookup y.1 = some .cell) || decide (sc.names.lookup y.1 = some .free))
theorem lamS1_by {p : Str} {sc scope : Scope} (h : lamSB1 p sc scope = true) : LamS1 p sc scope := by
  unfold lamSB1 at h
  simp only [Bool.and_eq_true, Bool.or_eq_true, Bool.not_eq_true', decide_eq_true_eq, decide_eq_false_iff_not, List.all_eq_true] at h
  obtain ⟨⟨⟨⟨h1, h2⟩, h3⟩, h4⟩, h5⟩ := h
  refine ⟨h1, h2, h3, h4, fun y hy => ⟨fun e => (h5 y hy).1.1.resolve_left fun z => z e, (h5 y hy).1.2⟩, fun y hy e => ?_⟩
  rcases (h5 y hy).2 with (z | z) | z
  · exact absurd e z
  · exact .inl z
  · exact .inr z
/-- the context of its body -/
def lamCx1 (X : Cx) (p : Str) (A : Around) (outer : List Env) (s : Shared) (H : Hp) (E : XK) (scope : Scope) (f c' : Addr) : Cx := { LamX.lamCx X A outer s H E scope f c' with N := p :: X.N }
theorem takes_lam1 {X : Cx} {p : Str} {A : Around} {outer : List Env} {s : Shared} {H : Hp} {E : XK} {scope : Scope} {f c' : Addr} : Takes (lamCx1 X p A outer s H E scope f c') (fun cls d _ H' => E cls d H') := takes_of rfl rfl rfl rfl
/-- the reading of its body, wherever it is run -/
def wL1 (X : Cx) (p : Str) (k : Nat) (scope : Scope) (body : Expr) (σ : L2.St) : XK → Hp → VK → Prop := fun E H Q =>
  ∀ (A : Around) (outer : List Env) (s : Shared) (H0 : Hp) (f c' : Addr), Room k (A.deeper (LamX.lamEnv X scope s.heap.objs.size f c')) → wE (lamCx1 X p A outer s H0 E scope f c') body σ H Q
/-- its promise -/
def spLam1 (X : Cx) (p : Str) (k : Nat) (scope : Scope) (body : Expr) (σ : L2.St) (c' : Addr) : Sp := fun vs H Q E => ∃ v, vs = [v] ∧ H c' = some (LamX.CodeO c' (X.env.qual ++ "<lambda>")) ∧ wL1 X p k scope body (some v :: σ) E H Q
section
variable {X : Cx} {pins : List (Addr × Obj)} {σ : L2.St} {H HZ : Hp} {s s1 : Shared} {p : Str} {scope : Scope}
theorem lam1_has (L : LamS1 p X.env.scope scope) (ok : X.Ok) : ∀ y ∈ scope.names, y.2 = .free → ∃ c, X.env.cells.lookup y.1 = some c := fun y hy e => (L.free y hy e).elim (fun k => ok.has _ (.inl k)) fun k => ok.has _ (.inr k)
theorem lam1_start {A : Around} {outer : List Env} {E : XK} {f c' : Addr} {h1 : Heap} {tk : Nat} {u : Value} {v : V} (I : Inv X pins σ H s) (L : LamS1 p X.env.scope scope) (nN : p ∉ X.N) (e0 : Env0 X.prog X.w X.K X.mg X.base A outer s1 HZ) (hd : A.handled = none)
    (hc : ∀ y c, X.env.cells.lookup y = some c → ∀ o, s.heap.get? c = some o → s1.heap.get? c = some o ∧ HZ c = none) (rv : L2.RelV v u)
    (hns : h1.Ns s1.heap.objs.size fun y => ([(p, u)] : List (Str × Value)).reverse.lookup y) (kp : ∀ b o, s1.heap.get? b = some o → h1.get? b = some o) :
    Inv (lamCx1 X p A outer s1 HZ E scope f c') [] (some v :: σ) HZ { s1 with heap := h1, toks := tk } := by
  have has := lam1_has L I.ok
  have back : ∀ {y c}, (cloFrom X.env.cells scope.names []).lookup y = some c → X.env.cells.lookup y = some c := fun {y c} e => by
    rcases cloFrom_mem (PySem.mem_of_lookup e) with z | ⟨z1, z2⟩
    · cases z
    · obtain ⟨c1, q⟩ := has _ z1 rfl
      have q : X.env.cells.lookup y = some c1 := q
      have e2 : c = c1 := by
        rw [z2, q] <;> rfl
      rw [e2]
      exact q
  have look : ∀ {y}, scope.names.lookup y = some .free → ∃ c, (cloFrom X.env.cells scope.names []).lookup y = some c := fun {y} hl => mem_lookup (cloFrom_has (cells := X.env.cells) (acc := []) (show (y, NameKind.free) ∈ scope.names from PySem.mem_of_lookup hl))
  have cellK : ∀ {y c w'}, X.env.cells.lookup y = some c → s.heap.IsCell c w' → h1.IsCell c w' := fun {y c w'} e ⟨o, ho, hdt⟩ => ⟨o, kp _ _ (hc y c e o ho).1, hdt⟩
  have noA : ∀ b : Addr, b ∉ (lamCx1 X p A outer s1 HZ E scope f c').ex := fun b z => absurd (show b ∈ ([] : List Addr) from z) (by simp)
  refine ⟨⟨e0.mod, L.kind, rfl, rfl, Nat.le_refl _, fun y z c a b => I.ok.inj y z c (back a) (back b), fun y hy => ?_, fun y c z _ => ?_, fun _ => hd, Around.frames_deeper e0.frames, .inr ⟨rfl, rfl⟩, fun b z => absurd z (noA b), e0.bs, e0.bsz, fun b _ _ => noA b, fun b z => absurd z (noA b), e0.funs, e0.frf⟩,
    rfl, e0.bare, Un.kept kp, ⟨_, hns, fun i y v' a b c => ?_⟩, fun y c e => ?_, e0.hok.fresh (Nat.le_refl _), fun y c e => ?_, fun q hq => absurd (show q ∈ ([] : List (Addr × Obj)) ++ [] from hq) (by simp), e0.hok.kept kp, congrArg (· + 1) I.len⟩
  · have hy : scope.names.lookup y = some .cell ∨ scope.names.lookup y = some .free := hy
    rcases hy with hy | hy
    · exact absurd rfl (L.own _ (PySem.mem_of_lookup hy)).2
    · exact look hy
  · have z : false = true := z
    cases z
  · have c : Vis scope y := c
    cases i with
    | zero =>
      have a : some p = some y := a
      have b : some (some v) = some (some v') := b
      cases a
      cases b
      exact ⟨u, rv, .inl ⟨L.par, by simp⟩⟩
    | succ i =>
      have a : X.N[i]? = some y := a
      have b : σ[i]? = some (some v') := b
      have ne : y ≠ p := fun z => nN (z ▸ List.mem_of_getElem? a)
      have k : scope.names.lookup y = some .free := by
        rcases c with k | k | k
        · exact absurd ((L.own _ (PySem.mem_of_lookup k)).1 rfl) ne
        · exact absurd rfl (L.own _ (PySem.mem_of_lookup k)).2
        · exact k
      obtain ⟨m, hn, hl⟩ := I.loc
      have fr := L.free _ (PySem.mem_of_lookup k) rfl
      have hvis : Vis X.env.scope y := fr.elim (fun k => .inr (.inl k)) (fun k => .inr (.inr k))
      obtain ⟨w', r, q⟩ := hl i y v' a b hvis
      obtain ⟨c2, h2⟩ := look k
      refine ⟨w', r, .inr ⟨.inr k, c2, h2, ?_⟩⟩
      have c1 := back h2
      rcases q with ⟨k', _⟩ | ⟨_, c3, e', z⟩
      · have k' : X.env.scope.names.lookup y = some .local := k'
        rcases fr with k2 | k2 <;> rw [show X.env.scope.names.lookup y = _ from k2] at k' <;> cases k'
      · rw [c1] at e'
        cases e'
        exact cellK c1 z
  · obtain ⟨w', z⟩ := I.cell y c (back e)
    exact ⟨w', cellK (back e) z⟩
  · obtain ⟨w', o, ho, hdt⟩ := I.cell y c (back e)
    exact (hc y c (back e) o ho).2
/-- the lambda keeps its promise over a base that holds it and what it captured -/
theorem lam1_ok {base' : Heap} {f c' : Addr} {pm ctv : Value} {params : Arguments} {body : Expr} {k : Nat} (I : Inv X pins σ H s) (L : LamS1 p X.env.scope scope) (nN : p ∉ X.N) (W : Wide X.K X.mg X.base base')
    (hf : base'.get? f = some (PySem.W.kla_obj "<lambda>" (X.env.qual ++ "<lambda>") params body scope (cloFrom X.env.cells scope.names []) pm c' ctv)) (hc : ∀ y c, X.env.cells.lookup y = some c → ∀ o, s.heap.get? c = some o → base'.get? c = some o) :
    FnOk X.prog X.w X.K X.mg base' (L2.CX X.prog X.w) (k + 1) f (PySem.W.kla_fn "<lambda>" (X.env.qual ++ "<lambda>") params body scope (cloFrom X.env.cells scope.names []) pm (.ref c') ctv) [p] (spLam1 X p k scope body σ c') := by
  refine ⟨fun vs H Q E ⟨v, e, _⟩ => by rw [e]; rfl, fun A outer s1 HZ args us vs Q E hr e0 hb hv hs => ?_⟩
  obtain ⟨v, rfl, hco, hw⟩ := hs
  obtain ⟨u, rfl, rv⟩ : ∃ u, us = [u] ∧ L2.RelV v u := by
    cases hv with
    | cons r t => cases t; exact ⟨_, rfl, r⟩
  have eB : Env0 X.prog X.w X.K X.mg X.base A outer s1 HZ := ⟨e0.frames, W.mod, fun b o e => e0.bs b o (W.le b o e), Nat.le_trans W.sz e0.bsz, funs_le W.le e0.funs, e0.frf, e0.hok, e0.bare⟩
  obtain ⟨⟨oc, xs, t, hoc, hdc, hvc⟩, _, _⟩ := e0.hok c' _ hco
  refine PySem.W.kla_callFunE hr.depth (e0.bs _ _ hf).1 rfl L.co L.gen rfl ⟨c', oc, xs, t, rfl, hoc, hdc, hvc⟩ ?_
  refine hb _ _ _ _ ?_
  refine wpAny_newFunctionEnv (fun y hy => (L.own y hy).2) (fun y hy => ?_) (fun h1 hns hsb => ⟨(e0.mod.nolimit.keeps fun b o e => (e0.bs b o e).1).fresh _ hsb, ?_⟩) L.kind
  · have e : y = (p, u) := by simpa using hy
    rw [e]
    exact L.par
  show codeAny _ _ (.expr body (LamX.lamEnv X scope s1.heap.objs.size f c')) _ _
  have kp : ∀ b o, s1.heap.get? b = some o → h1.get? b = some o := fun b o e => hsb.extBut b o (Nat.ne_of_lt (Heap.lt_size e)) (Heap.get?_push_of_some _ e)
  have J : Inv (lamCx1 X p A outer s1 HZ E scope f c') [] (some v :: σ) HZ { s1 with heap := h1, toks := s1.toks + ([(p, u)] : List (Str × Value)).length } :=
    lam1_start I L nN eB hr.hd (fun y c e o ho => e0.bs _ _ (hc y c e o ho)) rv hns kp
  refine PySem.W.kla_codeExpr (wpAny_mono ((hw A outer s1 HZ f c' (hr.deeper _)).r [] _ J) (fun v s' hq => ?_) fun e s' hq => hq)
  obtain ⟨w', H', J', rv, q⟩ := hq
  exact ⟨w', H', J'.os, J'.bare, J'.base, J'.hok, rv, q⟩
theorem frs_none {h base : Heap} : ∀ {l : List Env}, h.FunFrames base l → ∀ {g : Heap}, (∀ b ∈ frs l, g.get? b = none) → h.FunFrames g l
  | [], _, _, _ => trivial
  | env :: r, ⟨hk, ⟨L, o, hf, _, ho, hd⟩, hr⟩, g, z => ⟨hk, ⟨L, o, hf, z L (by unfold frs; rw [List.filterMap_cons, hf]; exact List.mem_cons_self), ho, hd⟩, frs_none hr fun b hb => z b (by unfold frs; rw [List.filterMap_cons, hf]; exact List.mem_cons_of_mem _ hb)⟩
/-- the largest base: all that is neither tracked nor a frame -/
def bigB (X : Cx) (s : Shared) (H : Hp) : Heap := PySem.W.hideAll (hidT s.heap H) (frs X.stack)
theorem bigB_sz : (bigB X s H).objs.size = s.heap.objs.size := (PySem.W.hideAll_size _ _).trans (hidT_size _ _)
theorem of_bigB {b : Addr} {o : Obj} (e : (bigB X s H).get? b = some o) : s.heap.get? b = some o ∧ H b = none := of_hidT (PySem.W.of_hideAll _ e)
theorem bigB_get {b : Addr} {o : Obj} (e : s.heap.get? b = some o) (n : H b = none) (nf : b ∉ frs X.stack) : (bigB X s H).get? b = some o := PySem.W.hideAll_get _ (hidT_get e n) nf
theorem bigB_wide (I : Inv X pins σ H s) : Wide X.K X.mg X.base (bigB X s H) :=
  ⟨I.ok.mod, fun b o e => bigB_get (I.bs b o e).1 (I.bs b o e).2 (fun hb => by
    have z := (I.stack.mem hb).1
    rw [e] at z
    exact nomatch z), Nat.le_trans (Nat.le_trans I.ok.bsz I.sz) (Nat.le_of_eq bigB_sz.symm)⟩
theorem bigB_env0 (I : Inv X pins σ H s) : Env0 X.prog X.w X.K X.mg (bigB X s H) X.A X.stack s H := by
  have le := (bigB_wide I).le
  obtain ⟨mb, b1, b2⟩ := I.ok.mod.blt
  exact ⟨I.ok.frames, ⟨I.ok.mod.kin.keeps le, I.ok.mod.glob.keeps le, ⟨mb, b1.keeps le, b2⟩, I.ok.mod.nolimit.keeps le⟩, fun b o e => of_bigB e, Nat.le_of_eq bigB_sz, frs_none I.stack fun b hb => PySem.W.hideAll_none _ hb, I.stkFree, I.hok, I.bare⟩
end
section
variable {X : Cx} {σ : L2.St} {H : Hp} {Q : VK}
/-- a def that gets a lambda with one parameter keeps its promise over every larger base -/
def OverG (P : Program) (w : World) (K : PySem.W.Frag) (mg : Str → Option Value) (base : Heap) (j : Nat) (x : Str) (ps : List Str) (sp : Heap → Sp) : Prop := ∀ base', Wide K mg base base' → DefG P w K mg base' j x ps (sp base')
/-- x(e, lambda p: body) -/
theorem eLam1 {T : List (Addr × Str)} {x p a1 a2 : Str} {c P : Addr} {j k m : Nat} {params : Arguments} {body e : Expr} {scope : Scope} {p0 lpos pos : Pos} {sp : Heap → Sp} {W : WX} (st : Stmt) (N : List Str) (G : OverG X.prog X.w X.K X.mg X.base j x [a1, a2] sp)
    (TB : LamX.TabB X.base X.mg c P) (hcode : X.env.code = .ref c) (hmT : (P, X.env.qual ++ "<lambda>") ∈ T) (hu : ∀ q ∈ T, q.1 = P → q.2 = X.env.qual ++ "<lambda>") (hr : Room m X.A) (tk : Takes X W)
    (h : wE X e σ H fun v H1 => LamX.Tabs T H1 ∧ ∀ (H2 : Hp) (base' : Heap) (f c' : Addr), LamX.ExtN H1 H2 → LamX.Tabs T H2 → H2 c' = some (LamX.CodeO c' (X.env.qual ++ "<lambda>")) →
      LamV X.prog X.w X.K X.mg base' (k + 1) [p] (spLam1 X p k scope body σ c') f → sp base' [v, .ref f] H2 Q fun c d H' => W c d σ H')
    (hj : j ≤ m := by decide) (hsc : X.env.scope = defScope st := by rfl) (hN : X.N = N := by rfl) (hfn : X.fn = fun _ => true := by rfl) (hL : lamSB1 p (defScope st) scope = true := by decide +kernel) (nN : p ∉ N := by decide) (hdef : defaultsOf params X.env = ([], []) := by rfl)
    (hbind : ∀ (q : Str) (cl : List (Str × Addr)) (pm cv ctv u : Value), bindArgs (PySem.W.kla_fn "<lambda>" q params body scope cl pm cv ctv) ⟨[u], []⟩ = pure [(p, u)] := by exact fun _ _ _ _ _ _ => rfl)
    (he : starEach [e, .Lambda params body scope lpos] X.env = (false, eval e X.env) :: starEach [.Lambda params body scope lpos] X.env := by rfl)
    (hg : Gl X x := by rfl) (hdb : (x == ("__debug__" : Str)) = false := by decide) :
    wE X (.Call (.Name x p0) [e, .Lambda params body scope lpos] [] pos) σ H Q := by
  have L : LamS1 p X.env.scope scope := lamS1_by (by rw [hsc]; exact hL)
  have nX : p ∉ X.N := by rw [hN]; exact nN
  refine ⟨fun pins s I => ?_⟩
  obtain ⟨g, gd, _, hm, hkp, _⟩ := (G X.base ⟨I.ok.mod, fun _ _ e => e, Nat.le_refl _⟩).ex
  refine wpAny_Call_Name_kw (ld_glob I hg hm ?_ hdb)
  refine PySem.W.callWith_K (h₀ := X.base) I.ok.mod.kin hkp ?_ he (by rfl)
  rw [he]
  show wpAny _ _ (spliced ((false, eval e X.env) :: backTo pos (starEach [.Lambda params body scope lpos] X.env))) _ _ s
  refine Calls.spliced_cons (thn (h.r pins s I) fun u s1 ⟨v, H1, I1, r1, hT, q1⟩ => ?_)
  show wpAny _ _ (spliced ((false, eval (.Lambda params body scope lpos) X.env) :: backTo pos (starEach [] X.env))) _ _ s1
  refine Calls.spliced_cons (LamX.lam_make2 I1 TB hcode hmT hu hT hdef (lam1_has L I1.ok) fun f c' pm ctv H2 s2 I2 eN T2 hf hfn2 hfr hco => ?_)
  refine Calls.spliced_nil ⟨I2.kIn, ?_⟩
  have wd := bigB_wide I2
  have hB : (bigB X s2 H2).get? f = some (PySem.W.kla_obj "<lambda>" (X.env.qual ++ "<lambda>") params body scope (cloFrom X.env.cells scope.names []) pm c' ctv) := bigB_get hf hfn2 hfr
  have hc : ∀ y c, X.env.cells.lookup y = some c → ∀ o, s2.heap.get? c = some o → (bigB X s2 H2).get? c = some o := fun y c e o ho => bigB_get ho (I2.freeC y c e) fun hb => by
    rcases List.mem_cons.mp (I2.stkSub c hb) with z | z
    · exact I2.cne y c e z
    · obtain ⟨_, o', ho', _⟩ := I2.ok.funs.mem z
      exact absurd (Nat.lt_of_lt_of_le (Heap.lt_size ho') (I2.ok.cab y c (by rw [hfn]) e)) (Nat.lt_irrefl _)
  have lv : LamV X.prog X.w X.K X.mg (bigB X s2 H2) (k + 1) [p] (spLam1 X p k scope body σ c') f :=
    ⟨_, _, _, _, hB, lam1_ok I2 L nX wd hB hc, .all fun us hl => by
      obtain ⟨u, rfl⟩ : ∃ u, us = [u] := by
        match us, hl with
        | [u], _ => exact ⟨u, rfl⟩
      exact hbind _ _ _ _ _ u⟩
  obtain ⟨g', gd', F, hm', _, ⟨hb, _⟩⟩ := (G _ wd).ex
  obtain rfl : g = g' := by
    rw [hm] at hm'
    cases hm'
    rfl
  refine wpAny_call (codeAny_mono (F.run X.A X.stack s2 H2 ⟨[u, .ref f], []⟩ [u, .ref f] [v, .ref f] Q (fun c d H' => W c d σ H') (hr.mono hj) (bigB_env0 I2) (by simpa using hb s2 [u, .ref f] I2.kIn rfl) (.cons r1 (.cons rfl .nil)) (q1 H2 _ f c' eN T2 hco lv)) fun r s3 hq => ?_)
  cases r with
  | error e => exact passAt tk σ pins H2 s2 e s3 I2 hq
  | ok fl =>
    cases fl with
    | ret u => exact I2.after hq
    | next => exact False.elim hq
    | brk => exact False.elim hq
    | cont => exact False.elim hq
end
end BR

namespace BR
open PySem PySem.Spec PyProof.Rows L2
/-! ### an instance that is being filled, field by field -/
section
variable {X : Cx} {D' : Ends} {σ : L2.St} {H H' H0 : Hp} {R : Rp} {S : Reg} {m dx C : Addr} {fs : List (Str × V)} {ds : List (Str × D)}
theorem putF_new {f : Str} {y : V} : ∀ {fs : List (Str × V)}, (∀ p ∈ fs, p.1 ≠ f) → putF f y fs = fs ++ [(f, y)]
  | [], _ => rfl
  | (g, v) :: r, h => by rw [putF_ne (h _ List.mem_cons_self), putF_new fun p hp => h p (List.mem_cons_of_mem _ hp)]; rfl
structure Mak (R : Rp) (S : Reg) (H0 H : Hp) (m dx C : Addr) (fs : List (Str × V)) (ds : List (Str × D)) : Prop where
  m0 : H0 m = none
  at_ : H m = some (.ins C dx fs)
  s0 : Same H0 H
  l0 : Live S H0
  fl : IsF R (fun a => S a ∨ a = m) H fs ds
theorem IsF.appF {T : Reg} {f : Str} {y : V} {e : D} : ∀ {fs : List (Str × V)} {ds : List (Str × D)}, IsF R T H fs ds → Is R T H y e → IsF R T H (fs ++ [(f, y)]) (ds ++ [(f, e)])
  | _, _, .nil, i => .cons i .nil
  | _, _, .cons a b, i => .cons a (IsF.appF b i)
theorem Mak.start (m0 : H0 m = none) (hm : H m = some (.ins C dx [])) (s0 : Same H0 H) (l0 : Live S H0) : Mak R S H0 H m dx C [] [] := ⟨m0, hm, s0, l0, .nil⟩
theorem Mak.live (M : Mak R S H0 H m dx C fs ds) : Live (fun a => S a ∨ a = m) H := live_or (M.l0.up M.s0) (by rw [M.at_]; exact fun z => by cases z)
theorem Mak.read (M : Mak R S H0 H m dx C fs ds) {x : V} {d : D} (h : Is R S H0 x d) : Is R (fun a => S a ∨ a = m) H x d := (h.regN fun a z => z.imp id fun e => by rw [e]; exact M.m0).up M.s0
theorem Mak.readP (M : Mak R S H0 H m dx C fs ds) {x : V} {p q : Int} (h : IsP R S H0 x p q) : IsP R (fun a => S a ∨ a = m) H x p q := h.imp M.read M.read
theorem Mak.up (M : Mak R S H0 H m dx C fs ds) (s : Same H H') : Mak R S H0 H' m dx C fs ds := ⟨M.m0, s _ _ M.at_, M.s0.trans s, M.l0, by exact IsF.kp (Kp.of s) M.fl⟩
theorem Mak.put (M : Mak R S H0 H m dx C fs ds) {f : Str} {y : V} {e : D} (i : Is R (fun a => S a ∨ a = m) H y e) (nf : f ∉ fs.map (·.1)) : Mak R S H0 (upd H m (.ins C dx (putF f y fs))) m dx C (fs ++ [(f, y)]) (ds ++ [(f, e)]) := by
  have kz : Kp (fun a => S a ∨ a = m) H (upd H m (.ins C dx (putF f y fs))) := kp_in (.inr rfl)
  exact ⟨M.m0, by rw [upd_same, putF_new (f := f) fun p hp z => nf (List.mem_map.mpr ⟨p, hp, z⟩)], fun b o e => by rw [upd_ne (ne_of_none e M.m0)]; exact M.s0 _ _ e, M.l0, IsF.appF (IsF.kp kz M.fl) (i.go kz)⟩
theorem Mak.done {c : Str} (M : Mak R S H0 H m dx C fs ds) (hC : R.CA c = C) : Is R S H (.ref m) (.obj c ds) := by
  subst hC
  exact .obj (M.l0.new M.m0) M.at_ (IsF.reg (fun a z => .inl z) M.fl)
/-- o.f = e in __init__ -/
theorem sMak {f : Str} {e : Expr} {p1 p2 pos : Pos} (c : Cls X.K C) (n : NoAttr X.K C f) (hs0 : σ[0]? = some (some (.ref m))) (M : Mak R S H0 H m dx C fs ds) (nf : f ∉ fs.map (·.1)) (n9 : fs.length < 1000)
    (h : wE X e σ H fun y H' => Same H H' ∧ ∃ ed, Is R (fun a => S a ∨ a = m) H' y ed ∧ (Mak R S H0 (upd H' m (.ins C dx (putF f y fs))) m dx C (fs ++ [(f, y)]) (ds ++ [(f, ed)]) → D'.nx σ (upd H' m (.ins C dx (putF f y fs)))))
    (hN : X.N[0]? = some ("self" : Str) := by rfl) (hv : Vis X.env.scope ("self" : Str) := by first | exact Or.inl rfl | exact Or.inr (Or.inl rfl) | exact Or.inr (Or.inr rfl))
    (hs : swapsWith e (some (.Attribute (.Name "self" p2) f p1)) pos.line X.env = pure false := by rfl) : wS X (.Assign [.Attribute (.Name "self" p2) f p1] e pos) D' σ H :=
  sFld (h.mono fun y H' ⟨s, ed, i, k⟩ => eV 0 hs0 ⟨m, C, dx, fs, rfl, s _ _ M.at_, c, n, n9, k ((M.up s).put i nf)⟩ hN hv (by decide) (by decide)) hs
end
theorem sAsg2 {X : Cx} {D' : Ends} {σ : L2.St} {H : Hp} {t1 t2 e : Expr} {pos : Pos} (h : wE X e σ H fun v H1 => wG X t1 v σ H1 fun σ1 H2 => wG X t2 v σ1 H2 D'.nx)
    (ha : (assignEach [t1, t2] X.env).map (·.2) = [assign t1 X.env, assign t2 X.env] := by rfl) (hw : swappedStores [t1, t2] e X.env = pure none := by rfl) : wS X (.Assign [t1, t2] e pos) D' σ H := uS (ps_asg2 (pE e) (pG t1) (pG t2) ha hw) h
/-! ### loose gates -/
def loD (l : G2 × G2) : D := .obj "Loose" [("low", gD l.1), ("high", gD l.2)]
/-- numbers that a gate may hold -/
structure Num (r : Rat) : Prop where
  lo : -1000000 ≤ r.num
  hi : r.num ≤ 1000000
  den : r.den ≤ 1000000
structure NumG (g : G2) : Prop where
  f : Num g.1
  a : Num g.2
  pos : 0 < g.1
theorem Num.sz {r : Rat} (h : Num r) : Sz 20 r := ⟨by have := h.lo; have := h.hi; show _ < 2 ^ 20; omega, by have := h.den; show _ < 2 ^ 20; omega⟩
theorem num_pos1 {r : Rat} (h : 0 < r) : 1 ≤ r.num := by
  have := (below_iff 0 r).mpr h
  have e : (0 : Rat).num * (r.den : Int) = 0 := by rw [show (0 : Rat).num = 0 from rfl, Int.zero_mul]
  rw [e, show ((0 : Rat).den : Int) = 1 from rfl, Int.mul_one] at this
  omega
theorem Num.due {r : Rat} (h : Num r) : dueF r.num r.den = none := by
  have := den_pos r
  have h1 := h.lo
  have h2 := h.hi
  have h3 := h.den
  unfold dueF
  rw [if_neg (by omega), if_neg (by omega), if_neg (by omega)]
theorem NumG.due {g : G2} (h : NumG g) : dueG g.1.num g.1.den g.2.num g.2.den = none := by
  have := num_pos1 h.pos
  unfold dueG
  rw [h.f.due, h.a.due, if_neg (by omega)]
  rfl
theorem maxR_or (r t : Rat) : maxR r t = r ∨ maxR r t = t := by
  unfold maxR
  split
  · exact .inr rfl
  · exact .inl rfl
theorem minR_or (r t : Rat) : minR r t = r ∨ minR r t = t := by
  unfold minR
  split
  · exact .inr rfl
  · exact .inl rfl
/-- what Loose(g, h) holds -/
def looQ (g h : G2) : G2 × G2 := ((minR g.1 h.1, minR g.2 h.2), (maxR g.1 h.1, maxR g.2 h.2))
theorem looQ_num {g h : G2} (a : NumG g) (b : NumG h) : NumG (looQ g h).1 ∧ NumG (looQ g h).2 := by
  have m1 := minR_or g.1 h.1
  have m2 := minR_or g.2 h.2
  have m3 := maxR_or g.1 h.1
  have m4 := maxR_or g.2 h.2
  refine ⟨⟨?_, ?_, ?_⟩, ⟨?_, ?_, ?_⟩⟩
  · show Num (minR g.1 h.1)
    rcases m1 with e | e <;> rw [e]
    · exact a.f
    · exact b.f
  · show Num (minR g.2 h.2)
    rcases m2 with e | e <;> rw [e]
    · exact a.a
    · exact b.a
  · show 0 < minR g.1 h.1
    rcases m1 with e | e <;> rw [e]
    · exact a.pos
    · exact b.pos
  · show Num (maxR g.1 h.1)
    rcases m3 with e | e <;> rw [e]
    · exact a.f
    · exact b.f
  · show Num (maxR g.2 h.2)
    rcases m4 with e | e <;> rw [e]
    · exact a.a
    · exact b.a
  · show 0 < maxR g.1 h.1
    rcases m3 with e | e <;> rw [e]
    · exact a.pos
    · exact b.pos
structure LooseAt (R : Rp) (S : Reg) (H : Hp) (v : V) (ls : List (G2 × G2)) : Prop where
  ex : ∃ d, Is R S H v d ∧ d.items = some (ls.map loD)
  lo : 1 ≤ ls.length
  hi : ls.length ≤ 4
  num : ∀ l ∈ ls, NumG l.1 ∧ NumG l.2
theorem LooseAt.go {R : Rp} {S : Reg} {H H' : Hp} {v : V} {ls : List (G2 × G2)} (h : LooseAt R S H v ls) (k : Kp S H H') : LooseAt R S H' v ls := { h with ex := h.ex.imp fun _ z => ⟨z.1.go k, z.2⟩ }
theorem LooseAt.up {R : Rp} {S : Reg} {H H' : Hp} {v : V} {ls : List (G2 × G2)} (h : LooseAt R S H v ls) (k : Same H H') : LooseAt R S H' v ls := h.go (Kp.of k)
/-- the fields of the class are plain -/
structure LooOk (R : Rp) : Prop where
  cl : Cls R.K (R.CA "Loose")
  n1 : NoAttr R.K (R.CA "Loose") "low"
  n2 : NoAttr R.K (R.CA "Loose") "high"
def spLooseI (R : Rp) : Sp := fun vs H Q _ => ∃ (S : Reg) (H0 : Hp) (m dx : Addr) (x y : V) (g h : G2), vs = [.ref m, x, y] ∧ Same H0 H ∧ H0 m = none ∧ H m = some (.ins (R.CA "Loose") dx []) ∧ Live S H0 ∧ Is R S H0 x (gD g) ∧ Is R S H0 y (gD h) ∧ NumG g ∧ NumG h ∧
  ∀ H', Same H0 H' → Is R S H' (.ref m) (loD (looQ g h)) → Q .non H'
def outV (a b : Rat) : List Rat := if a = b then [a] else [a, b]
def outG (l : G2 × G2) : List G2 := (outV l.1.1 l.2.1).flatMap fun f => (outV l.1.2 l.2.2).map fun a => (f, a)
theorem outV_mem {a b r : Rat} (h : r ∈ outV a b) : r = a ∨ r = b := by
  unfold outV at h
  split at h
  · exact .inl (by simpa using h)
  · simpa using h
theorem outG_num {l : G2 × G2} (a : NumG l.1) (b : NumG l.2) : ∀ g ∈ outG l, NumG g := fun g hg => by
  unfold outG at hg
  obtain ⟨f, hf, hg⟩ := List.mem_flatMap.mp hg
  obtain ⟨x, hx, rfl⟩ := List.mem_map.mp hg
  refine ⟨?_, ?_, ?_⟩
  · show Num f
    rcases outV_mem hf with e | e <;> rw [e]
    · exact a.f
    · exact b.f
  · show Num x
    rcases outV_mem hx with e | e <;> rw [e]
    · exact a.a
    · exact b.a
  · show 0 < f
    rcases outV_mem hf with e | e <;> rw [e]
    · exact a.pos
    · exact b.pos
theorem outV_len (a b : Rat) : (outV a b).length ≤ 2 := by
  unfold outV
  split <;> simp
theorem flat_len {α β : Type} (k : Nat) (f : α → List β) : ∀ (l : List α), (∀ a ∈ l, (f a).length ≤ k) → (l.flatMap f).length ≤ l.length * k
  | [], _ => by simp
  | a :: l, h => by
    rw [List.flatMap_cons, List.length_append, List.length_cons, Nat.succ_mul]
    have h1 := h a List.mem_cons_self
    have h2 := flat_len k f l fun b hb => h b (List.mem_cons_of_mem _ hb)
    omega
theorem outG_len (l : G2 × G2) : (outG l).length ≤ 4 := by
  have h1 := outV_len l.1.1 l.2.1
  have h2 := flat_len 2 (fun f => (outV l.1.2 l.2.2).map fun a => (f, a)) (outV l.1.1 l.2.1) fun f _ => by rw [List.length_map]; exact outV_len _ _
  unfold outG
  omega
def cornStep (fs : List (List G2)) (l : G2 × G2) : List (List G2) := fs.flatMap fun c => (outG l).map fun g => c ++ [g]
def cornQ (ls : List (G2 × G2)) : List (List G2) := ls.foldl cornStep [[]]
theorem cornQ_snoc (ls : List (G2 × G2)) (l : G2 × G2) : cornQ (ls ++ [l]) = cornStep (cornQ ls) l := by
  unfold cornQ
  rw [List.foldl_append]
  rfl
theorem cornQ_ind (P : List (G2 × G2) → Prop) (h0 : P []) (hs : ∀ ls l, P ls → P (ls ++ [l])) : ∀ ls, P ls := by
  intro ls
  have : ∀ n, P (ls.take n) := fun n => by
    induction n with
    | zero => rw [List.take_zero]; exact h0
    | succ n ih =>
      by_cases hn : n < ls.length
      · rw [← List.take_append_getElem hn]
        exact hs _ _ ih
      · rw [List.take_of_length_le (by omega)]
        rw [List.take_of_length_le (by omega)] at ih
        exact ih
  have := this ls.length
  rwa [List.take_length] at this
theorem cornQ_len (ls : List (G2 × G2)) : (cornQ ls).length ≤ 4 ^ ls.length := by
  refine cornQ_ind (fun ls => (cornQ ls).length ≤ 4 ^ ls.length) (by decide) (fun ls l ih => ?_) ls
  rw [cornQ_snoc, List.length_append, List.length_singleton, Nat.pow_succ]
  have h2 := flat_len 4 (fun c => (outG l).map fun g => c ++ [g]) (cornQ ls) fun f _ => by rw [List.length_map]; exact outG_len _
  have := Nat.mul_le_mul_right 4 ih
  show (cornStep (cornQ ls) l).length ≤ _
  unfold cornStep
  omega
theorem cornQ_mem (ls : List (G2 × G2)) : ∀ c ∈ cornQ ls, c.length = ls.length ∧ ((∀ l ∈ ls, NumG l.1 ∧ NumG l.2) → ∀ g ∈ c, NumG g) := by
  refine cornQ_ind (fun ls => ∀ c ∈ cornQ ls, c.length = ls.length ∧ ((∀ l ∈ ls, NumG l.1 ∧ NumG l.2) → ∀ g ∈ c, NumG g)) (fun c hc => ?_) (fun ls l ih c hc => ?_) ls
  · have e : c = [] := by simpa [cornQ] using hc
    rw [e]
    exact ⟨rfl, fun _ g hg => by simp at hg⟩
  · rw [cornQ_snoc] at hc
    obtain ⟨d, hd, hc⟩ := List.mem_flatMap.mp hc
    obtain ⟨g, hg, rfl⟩ := List.mem_map.mp hc
    obtain ⟨i1, i2⟩ := ih d hd
    refine ⟨by rw [List.length_append, List.length_append, i1]; rfl, fun h x hx => ?_⟩
    rcases List.mem_append.mp hx with hx | hx
    · exact i2 (fun l hl => h l (List.mem_append_left _ hl)) x hx
    · have e : x = g := by simpa using hx
      rw [e]
      have := h l (List.mem_append_right _ (List.mem_singleton.mpr rfl))
      exact outG_num this.1 this.2 g hg
def cornD (c : List G2) : D := .lst (c.map gD)
def spOuterV (R : Rp) : Sp := fun vs H Q _ => ∃ (S : Reg) (x y : V) (a b : Rat), vs = [x, y] ∧ Live S H ∧ Is R S H x (frac a) ∧ Is R S H y (frac b) ∧ ∀ v' H', Same H H' → Is R S H' v' (.lst ((outV a b).map frac)) → Q v' H'
def spOuterG (R : Rp) : Sp := fun vs H Q _ => ∃ (S : Reg) (x : V) (l : G2 × G2), vs = [x] ∧ Live S H ∧ Is R S H x (loD l) ∧ NumG l.1 ∧ NumG l.2 ∧ ∀ v' H', Same H H' → Is R S H' v' (cornD (outG l)) → Q v' H'
def spCorners (R : Rp) : Sp := fun vs H Q _ => ∃ (S : Reg) (v : V) (ls : List (G2 × G2)), vs = [v] ∧ Live S H ∧ LooseAt R S H v ls ∧ ∀ v' H', Same H H' → Is R S H' v' (.lst ((cornQ ls).map cornD)) → Q v' H'
/-- below of pairs that need not be in lowest terms -/
def spBelowI (R : Rp) : Sp := fun vs H Q _ => ∃ (S : Reg) (v u : V) (p q a b : Int) (n m : Nat), vs = [v, u] ∧ IsP R S H v p q ∧ IsP R S H u a b ∧ p.natAbs < 2 ^ n ∧ q.natAbs < 2 ^ n ∧ a.natAbs < 2 ^ m ∧ b.natAbs < 2 ^ m ∧ 0 < n ∧ 0 < m ∧ n + m ≤ 9000 ∧ Q (.bl (decide (p * b < a * q))) H
def spChkL (R : Rp) (C : Addr) : Sp := fun vs H Q E => ∃ (S : Reg) (v : V) (d : D) (ds : List D), vs = [v] ∧ Live S H ∧ Is R S H v d ∧ d.items = some ds ∧ (¬ (1 ≤ ds.length ∧ ds.length ≤ 4) → Gone "what" "count" C H (.str "loose") (.int ds.length) E) ∧ (1 ≤ ds.length → ds.length ≤ 4 → Q .non H)
/-! ### spreads -/
def spD (lo hi : Rat) (cl ch : List G2) : D := .obj "Spread" [("least", frac lo), ("greatest", frac hi), ("low", .tup (cl.map gD)), ("high", .tup (ch.map gD))]
def spSpreadI (R : Rp) : Sp := fun vs H Q _ => ∃ (S : Reg) (H0 : Hp) (m dx : Addr) (x y z t : V) (p q a b : Int) (n : Nat) (d1 d2 : D) (cl ch : List G2), vs = [.ref m, x, y, z, t] ∧ Same H0 H ∧ H0 m = none ∧ H m = some (.ins (R.CA "Spread") dx []) ∧ Live S H0 ∧ IsP R S H0 x p q ∧ IsP R S H0 y a b ∧
  0 < q ∧ 0 < b ∧ p.natAbs < 2 ^ n ∧ q.natAbs < 2 ^ n ∧ a.natAbs < 2 ^ n ∧ b.natAbs < 2 ^ n ∧ n ≤ 9000 ∧ Is R S H0 z d1 ∧ d1.items = some (cl.map gD) ∧ Is R S H0 t d2 ∧ d2.items = some (ch.map gD) ∧
  ∀ H', Same H0 H' → Is R S H' (.ref m) (spD (mkQ p q) (mkQ a b) cl ch) → Q .non H'
structure SprOk (R : Rp) : Prop where
  cl : Cls R.K (R.CA "Spread")
  n1 : NoAttr R.K (R.CA "Spread") "least"
  n2 : NoAttr R.K (R.CA "Spread") "greatest"
  n3 : NoAttr R.K (R.CA "Spread") "low"
  n4 : NoAttr R.K (R.CA "Spread") "high"
/-! ### what two clauses over two lists make -/
def pickT {α β : Type} (fs : List α) (as : List β) (g : α → β → D) (i j : Nat) : Option D := (fs[i]?).bind fun f => (as[j]?).map (g f)
theorem add_pickT {α β : Type} (fs : List α) (as : List β) (g : α → β → D) : ∀ i, i ≤ fs.length → addQ (fun _ => as.length) (pickT fs as g) i = (fs.take i).flatMap fun f => as.map (g f)
  | 0, _ => by
    rw [List.take_zero]
    rfl
  | i + 1, h => by
    rw [addQ_s, add_pickT fs as g i (by omega), ← List.take_append_getElem (show i < fs.length by omega), List.flatMap_append, List.flatMap_singleton]
    congr 1
    have e : pickT fs as g i = fun j => (as[j]?).bind fun a => some (g fs[i] a) := by
      funext j
      unfold pickT
      rw [List.getElem?_eq_getElem (show i < fs.length by omega)]
      show (as[j]?).map (g fs[i]) = _
      cases as[j]? <;> rfl
    rw [e, filterMap_ix as fun a => some (g fs[i] a)]
    exact congrFun List.filterMap_eq_map' as
theorem add_pickT_len {α β : Type} (fs : List α) (as : List β) (g : α → β → D) (i : Nat) (h : i < fs.length) : (addQ (fun _ => as.length) (pickT fs as g) i).length + as.length ≤ fs.length * as.length := by
  rw [add_pickT fs as g i (by omega)]
  have h2 := flat_len as.length (fun f => as.map (g f)) (fs.take i) fun f _ => by rw [List.length_map]; exact Nat.le_refl _
  rw [List.length_take, Nat.min_eq_left (by omega)] at h2
  have h3 : (i + 1) * as.length ≤ fs.length * as.length := Nat.mul_le_mul_right _ h
  rw [Nat.succ_mul] at h3
  omega
end BR

namespace BR
open PySem PySem.Spec PyProof.Rows L2
/-! ### the least and the greatest of corners -/
def loC (val : List G2 → Rat) (cs : List (List G2)) : List G2 := cs.foldl (fun b c => if val c < val b then c else b) (cs.headD [])
def hiC (val : List G2 → Rat) (cs : List (List G2)) : List G2 := cs.foldl (fun b c => if val b < val c then c else b) (cs.headD [])
abbrev TWt := List G2 → Int × Int
def valT (wt : TWt) (c : List G2) : Rat := mkQ (wt c).1 (wt c).2
def valD (wt : TWt) (c : List G2) : D := .tup [.tup [.int (wt c).1, .int (wt c).2], cornD c]
theorem outV_pos (a b : Rat) : 0 < (outV a b).length := by
  unfold outV
  split <;> simp
theorem outG_pos (l : G2 × G2) : outG l ≠ [] := fun z => by
  obtain ⟨f, hf⟩ := List.exists_mem_of_length_pos (outV_pos l.1.1 l.2.1)
  obtain ⟨a, ha⟩ := List.exists_mem_of_length_pos (outV_pos l.1.2 l.2.2)
  have h : (f, a) ∈ outG l := List.mem_flatMap.mpr ⟨f, hf, List.mem_map.mpr ⟨a, ha, rfl⟩⟩
  rw [z] at h
  cases h
theorem cornQ_pos (ls : List (G2 × G2)) : cornQ ls ≠ [] := by
  refine cornQ_ind (fun ls => cornQ ls ≠ []) (fun z => by cases z) (fun ls l ih => ?_) ls
  rw [cornQ_snoc]
  intro z
  obtain ⟨c, hc⟩ := List.exists_mem_of_ne_nil _ ih
  obtain ⟨g, hg⟩ := List.exists_mem_of_ne_nil _ (outG_pos l)
  have h : c ++ [g] ∈ cornStep (cornQ ls) l := List.mem_flatMap.mpr ⟨c, hc, List.mem_map.mpr ⟨g, hg, rfl⟩⟩
  rw [z] at h
  cases h
theorem fold_mem {α : Type} (p : α → α → Bool) : ∀ (l : List α) (b : α), l.foldl (fun b c => if p b c = true then c else b) b = b ∨ l.foldl (fun b c => if p b c = true then c else b) b ∈ l
  | [], b => .inl rfl
  | c :: l, b => by
    rw [List.foldl_cons]
    rcases fold_mem p l (if p b c = true then c else b) with e | e
    · rw [e]
      split
      · exact .inr List.mem_cons_self
      · exact .inl rfl
    · exact .inr (List.mem_cons_of_mem _ e)
theorem loI_mem (val : List G2 → Rat) (cs l : List (List G2)) (hc : cs ≠ []) (h : ∀ c ∈ l, c ∈ cs) : l.foldl (fun b c => if val c < val b then c else b) (cs.headD []) ∈ cs := by
  have h0 : cs.headD [] ∈ cs := by
    cases cs with
    | nil => exact absurd rfl hc
    | cons a r => exact List.mem_cons_self
  have e := fold_mem (fun b c => decide (val c < val b)) l (cs.headD [])
  simp only [decide_eq_true_eq] at e
  rcases e with e | e
  · rw [e]; exact h0
  · exact h _ e
theorem hiI_mem (val : List G2 → Rat) (cs l : List (List G2)) (hc : cs ≠ []) (h : ∀ c ∈ l, c ∈ cs) : l.foldl (fun b c => if val b < val c then c else b) (cs.headD []) ∈ cs := by
  have h0 : cs.headD [] ∈ cs := by
    cases cs with
    | nil => exact absurd rfl hc
    | cons a r => exact List.mem_cons_self
  have e := fold_mem (fun b c => decide (val b < val c)) l (cs.headD [])
  simp only [decide_eq_true_eq] at e
  rcases e with e | e
  · rw [e]; exact h0
  · exact h _ e
theorem loC_mem (val : List G2 → Rat) {cs : List (List G2)} (hc : cs ≠ []) : loC val cs ∈ cs := loI_mem val cs cs hc fun _ h => h
theorem hiC_mem (val : List G2 → Rat) {cs : List (List G2)} (hc : cs ≠ []) : hiC val cs ∈ cs := hiI_mem val cs cs hc fun _ h => h
def spSpreadOf (P : Program) (w : World) (mg : Str → Option Value) (R : Rp) (base : Heap) : Sp := fun vs H Q _ => ∃ (S : Reg) (v : V) (f : Addr) (ls : List (G2 × G2)) (wt : TWt) (n : Nat) (spL : Sp), vs = [v, .ref f] ∧ Live S H ∧ LooseAt R S H v ls ∧ LamV P w R.K mg base 4 ["corner"] spL f ∧
  (∀ c ∈ cornQ ls, 0 < (wt c).2 ∧ (wt c).1.natAbs < 2 ^ n ∧ (wt c).2.natAbs < 2 ^ n) ∧ 0 < n ∧ n ≤ 4000 ∧
  (∀ (S' : Reg) (u : V) (c : List G2) (H1 : Hp) (Q' : VK) (E' : XK), Same H H1 → (∀ a, S' a → S a ∨ H a = none) → Live S' H1 → Is R S' H1 u (cornD c) → c ∈ cornQ ls → (∀ v' H', Same H1 H' → Is R S' H' v' (.tup [.int (wt c).1, .int (wt c).2]) → Q' v' H') → spL [u] H1 Q' E') ∧
  ∀ v' H', Same H H' → Is R S H' v' (spD (valT wt (loC (valT wt) (cornQ ls))) (valT wt (hiC (valT wt) (cornQ ls))) (loC (valT wt) (cornQ ls)) (hiC (valT wt) (cornQ ls))) → Q v' H'
end BR

namespace BR
open PySem PySem.Spec PyProof.Rows L2
/-! ### spread -/
def spPassAll (R : Rp) : Sp := fun vs H Q _ => ∃ (S : Reg) (v u t : V) (d : D) (gs : List G2) (os : List Int) (p q : Int) (kk : Nat), vs = [v, u, t] ∧ Live S H ∧ Is R S H v d ∧ d.items = some (gs.map gD) ∧ (∀ g ∈ gs, Sz 20 g.1 ∧ Sz 20 g.2) ∧ OrdAt R S H u gs.length os ∧ os ≠ [] ∧ os.length ≤ 8 ∧
  IsP R S H t p q ∧ Tz kk (p, q) ∧ 0 < kk ∧ kk ≤ 3000 ∧ ∀ v' H', Same H H' → Is R S H' v' (.tup [.int (valI gs (p, q) (nlQ os)).1, .int (valI gs (p, q) (nlQ os)).2]) → Q v' H'
/-- what an order gives for p / q, not in lowest terms -/
def wtQ (os : List Int) (p q : Int) : TWt := fun c => valI c (p, q) (nlQ os)
theorem wtQ_sz {ls : List (G2 × G2)} (num : ∀ l ∈ ls, NumG l.1 ∧ NumG l.2) {os : List Int} {p q : Int} {kk : Nat} (q0 : 0 < q) (hz : Tz kk (p, q)) : ∀ c ∈ cornQ ls, 0 < (wtQ os p q c).2 ∧ (wtQ os p q c).1.natAbs < 2 ^ (41 * os.length + kk) ∧ (wtQ os p q c).2.natAbs < 2 ^ (41 * os.length + kk) := fun c hc => by
  have hn := (cornQ_mem ls c hc).2 num
  have z := valI_sz (gs := c) (n := 20) (by decide) (fun g hg => ⟨(hn g hg).f.sz, (hn g hg).a.sz⟩) hz (nlQ os)
  have e : (nlQ os).length = os.length := by unfold nlQ; rw [List.length_map]
  rw [e] at z
  exact ⟨(valI_val c (t := (p, q)) q0 (nlQ os)).1, z.tt, z.bb⟩
def sprQ (wt : TWt) (ls : List (G2 × G2)) : D := spD (valT wt (loC (valT wt) (cornQ ls))) (valT wt (hiC (valT wt) (cornQ ls))) (loC (valT wt) (cornQ ls)) (hiC (valT wt) (cornQ ls))
def spSpread (T : List (Addr × Str)) (R : Rp) : Sp := fun vs H Q _ => ∃ (v u t : V) (ls : List (G2 × G2)) (os : List Int) (p q : Int) (kk : Nat), vs = [v, u, t] ∧ LooseAt R (fun _ => False) H v ls ∧ OrdAt R (fun _ => False) H u ls.length os ∧ IsP R (fun _ => False) H t p q ∧ 0 < q ∧ Tz kk (p, q) ∧ 0 < kk ∧ kk ≤ 3000 ∧ Tabs T H ∧
  ∀ v' H', ExtN H H' → Tabs T H' → Is R (fun _ => False) H' v' (sprQ (wtQ os p q) ls) → Q v' H'
section
variable {R : Rp} {S : Reg} {H H' : Hp} {v : V}
theorem LooseAt.en {ls : List (G2 × G2)} (h : LooseAt R S H v ls) (e : ExtN H H') : LooseAt R S H' v ls := { h with ex := h.ex.imp fun _ z => ⟨z.1.en e, z.2⟩ }
theorem IsP.en {p q : Int} (h : IsP R S H v p q) (e : ExtN H H') : IsP R S H' v p q := Or.imp (fun z => Is.en z e) (fun z => Is.en z e) h
theorem LooseAt.regN {ls : List (G2 × G2)} {T : Reg} (h : LooseAt R S H v ls) (k : ∀ a, T a → S a ∨ H a = none) : LooseAt R T H v ls := { h with ex := h.ex.imp fun _ z => ⟨z.1.regN k, z.2⟩ }
theorem IsP.regN {p q : Int} {T : Reg} (h : IsP R S H v p q) (k : ∀ a, T a → S a ∨ H a = none) : IsP R T H v p q := Or.imp (fun z => Is.regN k z) (fun z => Is.regN k z) h
end
end BR

namespace BR
open PySem PySem.Spec PyProof.Rows L2
/-! ### the law's own loose gates -/
structure G9 (g : G2) : Prop where
  n1 : g.1.num.natAbs ≤ 9
  d1 : g.1.den ≤ 9
  n2 : g.2.num.natAbs ≤ 9
  d2 : g.2.den ≤ 4
  pos : 0 < g.1
structure LG (l : G2 × G2) : Prop where
  lo : G9 l.1
  hi : G9 l.2
  le1 : l.1.1 ≤ l.2.1
  le2 : l.1.2 ≤ l.2.2
theorem G9.num {g : G2} (h : G9 g) : NumG g := ⟨⟨by have := h.n1; omega, by have := h.n1; omega, by have := h.d1; omega⟩, ⟨by have := h.n2; omega, by have := h.n2; omega, by have := h.d2; omega⟩, h.pos⟩
theorem G9.sz {g : G2} (h : G9 g) : Sz 4 g.1 ∧ Sz 4 g.2 := ⟨⟨by have := h.n1; show _ < 16; omega, by have := h.d1; show _ < 16; omega⟩, ⟨by have := h.n2; show _ < 16; omega, by have := h.d2; show _ < 16; omega⟩⟩
theorem low_fD {f : F4} (l : LowF f) : fD f = vD (f2 f) := by
  unfold fD vD f2 frac
  rw [← l.p, ← l.q, ← l.a, ← l.b]
theorem cg_G9 {f : F4} (c : CG 0 f) (l : LowF f) : G9 (f2 f) := by
  have h1 := c.p1
  have h2 := c.p9
  have h3 := c.q9
  have h4 := c.q1
  have h5 := l.a9
  have h6 := l.b4
  have e1 := l.p
  have e2 := l.q
  have e3 := l.a
  have e4 := l.b
  refine ⟨?_, ?_, ?_, ?_, mkQ_pos (by omega) (by omega)⟩
  · show (mkQ f.p f.q).num.natAbs ≤ 9
    omega
  · show (mkQ f.p f.q).den ≤ 9
    omega
  · show (mkQ f.a f.b).num.natAbs ≤ 9
    omega
  · show (mkQ f.a f.b).den ≤ 4
    omega
theorem maxR_if (a b : Rat) : maxR a b = if b < a then a else b := by
  unfold maxR
  by_cases h : a < b
  · rw [if_pos h, if_neg (fun z => absurd (Rat.le_of_lt z) (Rat.not_le.mpr h))]
  · rw [if_neg h]
    by_cases k : b < a
    · rw [if_pos k]
    · rw [if_neg k]
      exact Rat.le_antisymm (Rat.not_lt.mp k) (Rat.not_lt.mp h)
/-- the two bounds of each number, in order -/
def prD (g h : G2) : List D := [.lst [frac (minR g.1 h.1), frac (maxR g.1 h.1)], .lst [frac (minR g.2 h.2), frac (maxR g.2 h.2)]]
theorem prD_s (g h : G2) (j : Nat) (hj : j < 2) : ∃ rj : G2 → Rat, (∀ g : G2, ([frac g.1, frac g.2] : List D)[j]? = some (frac (rj g))) ∧ (∀ g : G2, G9 g → Sz 4 (rj g)) ∧ (prD g h).take (j + 1) = (prD g h).take j ++ [.lst [frac (minR (rj g) (rj h)), frac (maxR (rj g) (rj h))]] := by
  match j, hj with
  | 0, _ => exact ⟨fun g => g.1, fun _ => rfl, fun _ z => z.sz.1, rfl⟩
  | 1, _ => exact ⟨fun g => g.2, fun _ => rfl, fun _ z => z.sz.2, rfl⟩
end BR

namespace BR
open PySem PySem.Spec PyProof.Rows L2
/-! ### the law's helpers over loose gates -/
theorem looQ_self {l : G2 × G2} (h1 : l.1.1 ≤ l.2.1) (h2 : l.1.2 ≤ l.2.2) : looQ l.1 l.2 = l := by
  have e1 : ∀ {a b : Rat}, a ≤ b → minR a b = a ∧ maxR a b = b := fun {a b} h => by
    refine ⟨?_, ?_⟩
    · unfold minR
      rw [if_neg (Rat.not_lt.mpr h)]
    · rw [maxR_if, if_neg (Rat.not_lt.mpr h)]
  unfold looQ
  rw [(e1 h1).1, (e1 h1).2, (e1 h2).1, (e1 h2).2]
end BR

namespace BR
open PySem PySem.Spec PyProof.Rows L2
/-! ### the law's own corners -/
theorem outV_iff {a b r : Rat} : r ∈ outV a b ↔ r = a ∨ r = b := by
  refine ⟨outV_mem, fun h => ?_⟩
  unfold outV
  by_cases c : a = b
  · rw [if_pos c]
    rcases h with h | h
    · rw [h]; exact List.mem_singleton.mpr rfl
    · rw [h, c]; exact List.mem_singleton.mpr rfl
  · rw [if_neg c]
    rcases h with h | h
    · rw [h]; exact List.mem_cons_self
    · rw [h]; exact List.mem_cons_of_mem _ (List.mem_singleton.mpr rfl)
theorem outG_iff {l : G2 × G2} {g : G2} : g ∈ outG l ↔ (g.1 = l.1.1 ∨ g.1 = l.2.1) ∧ (g.2 = l.1.2 ∨ g.2 = l.2.2) := by
  unfold outG
  rw [List.mem_flatMap]
  refine ⟨fun ⟨f, hf, hg⟩ => ?_, fun ⟨h1, h2⟩ => ⟨g.1, outV_iff.mpr h1, List.mem_map.mpr ⟨g.2, outV_iff.mpr h2, rfl⟩⟩⟩
  obtain ⟨a, ha, rfl⟩ := List.mem_map.mp hg
  exact ⟨outV_iff.mp hf, outV_iff.mp ha⟩
end BR

namespace BR
open PySem PySem.Spec PyProof.Rows L2
/-! ### gates between the bounds -/
theorem cornQ_iff (ls : List (G2 × G2)) : ∀ c, c ∈ cornQ ls ↔ c.length = ls.length ∧ ∀ i (h : i < c.length) (k : i < ls.length), c[i] ∈ outG ls[i] := by
  refine cornQ_ind (fun ls => ∀ c, c ∈ cornQ ls ↔ c.length = ls.length ∧ ∀ i (h : i < c.length) (k : i < ls.length), c[i] ∈ outG ls[i]) (fun c => ?_) (fun ls l ih c => ?_) ls
  · refine ⟨fun h => ?_, fun ⟨h, _⟩ => ?_⟩
    · have e : c = [] := by simpa [cornQ] using h
      rw [e]
      exact ⟨rfl, fun i h => absurd h (by simp)⟩
    · have e : c = [] := List.length_eq_zero_iff.mp h
      rw [e]
      exact List.mem_singleton.mpr rfl
  · rw [cornQ_snoc]
    unfold cornStep
    rw [List.mem_flatMap]
    refine ⟨fun ⟨d, hd, h⟩ => ?_, fun ⟨h1, h2⟩ => ?_⟩
    · obtain ⟨g, hg, rfl⟩ := List.mem_map.mp h
      obtain ⟨i1, i2⟩ := (ih d).mp hd
      refine ⟨by rw [List.length_append, List.length_append, i1]; rfl, fun i hi hk => ?_⟩
      by_cases c : i < d.length
      · rw [List.getElem_append_left c, List.getElem_append_left (by omega)]
        exact i2 i c (by omega)
      · rw [List.length_append] at hi
        have hi : i < d.length + 1 := hi
        have e : i = d.length := by omega
        subst e
        rw [List.getElem_append_right (Nat.le_refl _), List.getElem_append_right (by omega)]
        simpa using hg
    · rw [List.length_append] at h1
      have h1 : c.length = ls.length + 1 := h1
      have ec : c = c.take ls.length ++ [c[ls.length]] := by
        rw [List.take_append_getElem (show ls.length < c.length by omega), List.take_of_length_le (by omega)]
      refine ⟨c.take ls.length, (ih _).mpr ⟨by rw [List.length_take]; omega, fun i hi hk => ?_⟩, List.mem_map.mpr ⟨c[ls.length], ?_, ec.symm⟩⟩
      · have q := h2 i (by omega) (by rw [List.length_append]; exact Nat.lt_succ_of_lt hk)
        rw [List.getElem_append_left hk] at q
        rw [List.getElem_take]
        exact q
      · have q := h2 ls.length (by omega) (by rw [List.length_append]; exact Nat.lt_succ_self _)
        rw [List.getElem_append_right (Nat.le_refl _)] at q
        simpa using q
end BR

namespace BR
open PySem PySem.Spec PyProof.Rows L2
/-! ### shares between two bounds -/
end BR

namespace BR
open PySem PySem.Spec PyProof.Rows L2
/-! ### own == of alike objects, whatever they hold -/
theorem objP_ins {R : Rp} {S : Reg} {H : Hp} {v : V} {c : Str} {l : List (Str × D)} (h : Is R S H v (.obj c l)) : ∃ a dx fs, v = .ref a ∧ H a = some (.ins (R.CA c) dx fs) := by
  cases h with
  | obj n e _ => exact ⟨_, _, _, rfl, e⟩
section
variable {X : Cx} {R : Rp}
end
theorem gD_depth (c : List G2) : D.deps (c.map gD) ≤ 0 := D.deps_le fun d hd => by
  obtain ⟨g, _, rfl⟩ := List.mem_map.mp hd
  exact Nat.le_refl _
theorem gD_objs (c : List G2) : D.objss (FaO "Gate") (c.map gD) := D.objss_of fun d hd => by
  obtain ⟨g, _, rfl⟩ := List.mem_map.mp hd
  exact ⟨rfl, _, _, rfl⟩
end BR

namespace BR
open PySem PySem.Spec PyProof.Rows L2
/-! ### zip of two things walked in any way (a list and a tuple) -/
section
variable {prog : Program} {w : World} {A : Around} {E : Value → Shared → Prop} {s : Shared} {z TI TO i1 i2 l1 l2 : Addr} {k1 k2 : Nat} {xs ys : Array Value} {x y a b : Value} {I1 I2 : Heap → Nat → Prop} {C1 C2 : Heap → Array Value → Prop}
end
end BR

namespace BR
open PySem PySem.Spec PyProof.Rows L2
section
variable {prog : Program} {w : World} {A : Around} {E : Value → Shared → Prop} {s : Shared} {z TI TO i1 i2 l1 l2 : Addr} {k1 k2 : Nat} {xs ys : Array Value} {x y a b : Value} {I1 I2 : Heap → Nat → Prop} {C1 C2 : Heap → Array Value → Prop}
end
end BR

namespace BR
open PySem PySem.Spec PyProof.Rows L2
end BR

namespace BR
open PySem PySem.Spec PyProof.Rows L2
theorem Sz.wide {n m : Nat} {r : Rat} (h : Sz n r) (k : n ≤ m) : Sz m r := ⟨Nat.lt_of_lt_of_le h.num (Nat.pow_le_pow_right (by decide) k), Nat.lt_of_lt_of_le h.den (Nat.pow_le_pow_right (by decide) k)⟩
end BR

namespace BR
open PySem PySem.Spec PyProof.Rows L2
def fX (os : List Int) (r : Rat) : List G2 → Rat := fun c => thrX c os r
theorem valT_fX {os : List Int} (h0 : ∀ i ∈ os, 0 ≤ i) {p q : Int} (q0 : 0 < q) : valT (wtQ os p q) = fX os (mkQ p q) := by
  funext c
  obtain ⟨_, e⟩ := valI_val c (t := (p, q)) q0 (nlQ os)
  rw [toI_nl h0] at e
  exact e
theorem sprQ_fX {os : List Int} (h0 : ∀ i ∈ os, 0 ≤ i) {p q : Int} (q0 : 0 < q) (ls : List (G2 × G2)) : sprQ (wtQ os p q) ls = spD (thrX (loC (fX os (mkQ p q)) (cornQ ls)) os (mkQ p q)) (thrX (hiC (fX os (mkQ p q)) (cornQ ls)) os (mkQ p q)) (loC (fX os (mkQ p q)) (cornQ ls)) (hiC (fX os (mkQ p q)) (cornQ ls)) := by
  unfold sprQ
  rw [valT_fX h0 q0]
  rfl
end BR

namespace BR
open PySem PySem.Spec PyProof.Rows L2
/-! ### differences of two orders between the bounds -/
/-- an order's result less another one's -/
def dX (os ot : List Int) (r : Rat) (c : List G2) : Rat := thrX c os r - thrX c ot r
/-! ### orders of the same gates end with the same bottom -/
/-! ### the law's steps from fractions that may not be in lowest terms -/
end BR

namespace BR
open PySem PySem.Spec PyProof.Rows L2
/-! ### surely best, or a doubt -/
def dbtD (c : List G2) (e : D) : D := .obj "Doubt" [("corner", .tup (c.map gD)), ("exchange", e)]
structure DbtOk (R : Rp) : Prop where
  cl : Cls R.K (R.CA "Doubt")
  n1 : NoAttr R.K (R.CA "Doubt") "corner"
  n2 : NoAttr R.K (R.CA "Doubt") "exchange"
def spDoubtI (R : Rp) : Sp := fun vs H Q _ => ∃ (S : Reg) (H0 : Hp) (m dx : Addr) (x y : V) (d1 : D) (c : List G2) (e : D), vs = [.ref m, x, y] ∧ Same H0 H ∧ H0 m = none ∧ H m = some (.ins (R.CA "Doubt") dx []) ∧ Live S H0 ∧ Is R S H0 x d1 ∧ d1.items = some (c.map gD) ∧ Is R S H0 y e ∧
  ∀ H', Same H0 H' → Is R S H' (.ref m) (dbtD c e) → Q .non H'
end BR

namespace BR
open PySem PySem.Spec PyProof.Rows L2
/-! ### loose gates close together -/
structure G12 (g : G2) : Prop where
  n1 : g.1.num.natAbs ≤ 120
  d1 : g.1.den ≤ 120
  n2 : g.2.num.natAbs ≤ 120
  d2 : g.2.den ≤ 120
  pos : 0 < g.1
structure LW (l : G2 × G2) : Prop where
  lo : G12 l.1
  hi : G12 l.2
  le1 : l.1.1 ≤ l.2.1
  le2 : l.1.2 ≤ l.2.2
theorem G9.wide {g : G2} (h : G9 g) : G12 g := ⟨by have := h.n1; omega, by have := h.d1; omega, by have := h.n2; omega, by have := h.d2; omega, h.pos⟩
theorem LG.wide {l : G2 × G2} (h : LG l) : LW l := ⟨h.lo.wide, h.hi.wide, h.le1, h.le2⟩
theorem G12.num {g : G2} (h : G12 g) : NumG g := ⟨⟨by have := h.n1; omega, by have := h.n1; omega, by have := h.d1; omega⟩, ⟨by have := h.n2; omega, by have := h.n2; omega, by have := h.d2; omega⟩, h.pos⟩
theorem G12.sz {g : G2} (h : G12 g) : Sz 8 g.1 ∧ Sz 8 g.2 := ⟨⟨by have := h.n1; show _ < 256; omega, by have := h.d1; show _ < 256; omega⟩, ⟨by have := h.n2; show _ < 256; omega, by have := h.d2; show _ < 256; omega⟩⟩
end BR

namespace BR
open PySem PySem.Spec PyProof.Rows L2
section
variable {P : Program} {w : World} {K : PySem.W.Frag} {mg : Str → Option Value} {base : Heap} {k : Nat} {x qual : Str} {st : Stmt} {N ps : List Str} {sp : Sp}
end
end BR

namespace BR
open PySem PySem.Spec PyProof.Rows L2
/-! ### bounds without room, and one gate with room -/
def fixL (gs : List G2) : List (G2 × G2) := gs.map fun g => (g, g)
theorem fixL_len (gs : List G2) : (fixL gs).length = gs.length := List.length_map ..
theorem fixL_at (gs : List G2) (i : Nat) (h : i < gs.length) {k : i < (fixL gs).length} : (fixL gs)[i] = (gs[i], gs[i]) := List.getElem_map ..
theorem outG_self (g h : G2) : h ∈ outG (g, g) ↔ h = g := by
  rw [outG_iff]
  refine ⟨fun ⟨a, b⟩ => Prod.ext (a.elim id id) (b.elim id id), fun e => ?_⟩
  subst e
  exact ⟨.inl rfl, .inl rfl⟩
theorem cornQ_fix (gs c : List G2) : c ∈ cornQ (fixL gs) ↔ c = gs := by
  rw [cornQ_iff]
  refine ⟨fun ⟨h1, h2⟩ => ?_, fun e => ?_⟩
  · rw [fixL_len] at h1
    refine List.ext_getElem h1 fun i a b => ?_
    have q := h2 i a (by rw [fixL_len]; exact b)
    rw [fixL_at gs i b] at q
    exact (outG_self _ _).mp q
  · subst e
    refine ⟨(fixL_len c).symm, fun i a b => ?_⟩
    rw [fixL_at c i a]
    exact (outG_self _ _).mpr rfl
theorem loC_fix (val : List G2 → Rat) (gs : List G2) : loC val (cornQ (fixL gs)) = gs := (cornQ_fix gs _).mp (loC_mem val (cornQ_pos _))
theorem hiC_fix (val : List G2 → Rat) (gs : List G2) : hiC val (cornQ (fixL gs)) = gs := (cornQ_fix gs _).mp (hiC_mem val (cornQ_pos _))
/-! ### a bound ties two orders -/
/-! ### the helpers of a law over slacks and bounds -/
end BR

namespace BR
open PySem PySem.Spec PyProof.Rows L2
/-! ### calls with keywords only -/
def prm {α : Type} (g : List Nat) (ws : List α) : List α := g.filterMap fun i => ws[i]?
theorem prm_vals {zs : List V} {ws : List Value} (r : Vals zs ws) : ∀ g : List Nat, Vals (prm g zs) (prm g ws)
  | [] => .nil
  | i :: g => by
    unfold prm
    rw [List.filterMap_cons, List.filterMap_cons]
    cases e : zs[i]? with
    | none =>
      rw [Vals.none_of r e]
      exact prm_vals r g
    | some x =>
      obtain ⟨u, e1, e2⟩ := Vals.get r e
      rw [e1]
      exact .cons e2 (prm_vals r g)
/-- the def at f, called with n values by place and the others by the names ks, which stand at the places g -/
structure KwB (K : PySem.W.Frag) (f : Addr) (ps : List Str) (n : Nat) (ks : List Str) (g : List Nat) : Prop where
  ex : ∃ oc od fd osl, K.lookup f = some ⟨oc, od, .func fd, osl⟩ ∧ ∀ us ws : List Value, us.length = n → ws.length = ks.length → bindArgs fd ⟨us, ks.zip ws⟩ = pure (ps.zip (us ++ prm g ws))
theorem KwB.kbn {K : PySem.W.Frag} {f : Addr} {fd : FuncData} {ps ks : List Str} {n : Nat} {g : List Nat} (B : KwB K f ps n ks g) (b : BndL K f fd ps) : KBn K fd ps n ks (fun us ws => us ++ prm g ws) (fun vs zs => vs ++ prm g zs) := by
  obtain ⟨oc, od, fd', osl, l, h⟩ := B.ex
  obtain ⟨oc2, od2, osl2, l2⟩ := b.lk
  rw [l] at l2
  have e : fd' = fd := by
    have := Option.some.inj l2
    injection this with _ _ e3 _
    injection e3
  subst e
  exact ⟨fun s us ws _ h1 h2 => BindsTo.of_eq (h us ws h1 h2), fun r1 r2 => r1.append (prm_vals r2 g)⟩
structure wK (X : Cx) (kws : List Keyword) (σ : L2.St) (H : Hp) (Q : List V → Hp → Prop) : Prop where
  r : ∀ (pos : Pos) pins s, Inv X pins σ H s → wpAny (model X.prog X.w) X.A (evalAll ((backToKw pos (keywordEach kws X.env)).map (·.2))) (AP X pins σ Q) X.xe s
structure KwI (K : PySem.W.Frag) (C : Addr) (ps ks : List Str) (g : List Nat) : Prop where
  ex : ∃ f, PySem.W.findIn K (.ref C) "__init__" = some (some (.ref f)) ∧ KwB K f ps 1 ks g
section
open PySem.W
variable {K : PySem.W.Frag} {h : Heap} {mg : Str → Option Value} {x m : Str} {f C : Addr} {ps ks : List Str} {g : List Nat} {od : Option Addr} {sl : Array (Option Value)} {oc : Value} {fd : FuncData}
theorem kwI_mk (ks : List Str) (g : List Nat) (b : ∀ us ws : List Value, us.length = 1 → ws.length = ks.length → bindArgs fd ⟨us, ks.zip ws⟩ = pure (ps.zip (us ++ prm g ws))) (a : findIn K (.ref C) "__init__" = some (some (.ref f))) (l : K.lookup f = some ⟨oc, od, .func fd, sl⟩) : KwI K C ps ks g :=
  ⟨f, a, oc, od, fd, sl, l, b⟩
end
section
variable {X : Cx} {σ : L2.St} {H : Hp} {Q : VK} {k j n : Nat} {x m : Str} {C : Addr} {ps ks : List Str} {sp : Sp} {W : WX} {p1 p2 pos kpos : Pos} {e o : Expr} {kws : List Keyword} {nm : Option Str} {g : List Nat}
theorem kNil {T : List V → Hp → Prop} (h : T [] H) : wK X [] σ H T := ⟨fun _ _ _ I => wpAny_evalAll_nil ⟨[], H, I, .nil, h⟩⟩
theorem kCons {T : List V → Hp → Prop} (h : wE X e σ H fun x H1 => wK X kws σ H1 fun xs H2 => T (x :: xs) H2) : wK X (⟨nm, e, kpos⟩ :: kws) σ H T := by
  refine ⟨fun pos pins s I => ?_⟩
  show wpAny _ _ (evalAll ((do let v ← eval e X.env; standAt pos; pure v) :: (backToKw pos (keywordEach kws X.env)).map (·.2))) _ _ s
  refine wpAny_evalAll_cons (wpAny_bind (thn (h.r pins s I) fun u s1 ⟨x, H1, I1, r1, q1⟩ => wpAny_bind (wpAny_standAt (wpAny_pure ?_))))
  exact thn (q1.r pos pins s1 I1) fun us s2 ⟨xs, H2, I2, r2, q2⟩ => ⟨x :: xs, H2, I2, .cons r1 r2, q2⟩
theorem run_madeK {W : WX} {f : Addr} {fd : FuncData} {pins : List (Addr × Obj)} {s : Shared} {us ws : List Value} {vs zs : List V} {gg : List Value → List Value → List Value} {gV : List V → List V → List V} (M : L2.Mk X.K C f) (F : FnOk X.prog X.w X.K X.mg X.base (L2.CX X.prog X.w) k f fd ps sp) (hr : Room (k + 1) X.A) (hb : KBn X.K fd ps (n + 1) ks gg gV) (tk : Takes X W)
    (I : Inv X pins σ H s) (r : Vals vs us) (rz : Vals zs ws) (l1 : vs.length = n) (l2 : zs.length = ks.length)
    (h : ∀ n d, H n = none → H d = none → d ≠ n → sp (gV (.ref n :: vs) zs) (upd (upd H d (.own n)) n (.ins C d [])) (fun v H2 => v = .non ∧ Q (.ref n) H2) fun c d H' => W c d σ H') :
    wpAny (model X.prog X.w) X.A (call (.ref C) us (ks.zip ws)) (EP X pins σ Q) X.xe s := by
  have q := h (s.heap.objs.size + 1) s.heap.objs.size (I.hok.fresh (Nat.le_succ _)) (I.hok.fresh (Nat.le_refl _)) (Nat.ne_of_lt (Nat.lt_succ_self _))
  have J := Inv.made (C := C) I
  have r1 : Vals (V.ref (s.heap.objs.size + 1) :: vs) (Value.ref (s.heap.objs.size + 1) :: us) := .cons rfl r
  have r2 := hb.rel r1 rz
  have n1 : (Value.ref (s.heap.objs.size + 1) :: us).length = n + 1 := by rw [List.length_cons, ← r.length, l1]
  refine wpAny_call (make_map (f := f) I.kIn M.makes M.init (beq_iff_eq.mp M.fn) (codeAny_mono (F.run _ X.stack _ _ ⟨Value.ref (s.heap.objs.size + 1) :: us, ks.zip ws⟩ (gg (Value.ref (s.heap.objs.size + 1) :: us) ws) _ _ (WE W σ) (hr.make C us (ks.zip ws)) (J.env0.make C us (ks.zip ws)) (hb.to _ (Value.ref (s.heap.objs.size + 1) :: us) ws J.kIn n1 (rz.length.symm.trans l2)) r2 q) fun z s' y => ?_))
  cases z with
  | error er => exact passAt tk σ pins _ _ er s' J y
  | ok fl =>
    cases fl with
    | ret u =>
      obtain ⟨v, H', I3, rv, ev, q3⟩ := J.after y
      subst ev
      exact ⟨rv, V.ref (s.heap.objs.size + 1), H', I3, rfl, q3⟩
    | next => exact False.elim y
    | brk => exact False.elim y
    | cont => exact False.elim y
/-- C(k = v, ..) -/
theorem eMakeK (G : MakeG X.prog X.w X.K X.mg X.base k x C ps sp) (B : KwI X.K C ps ks g) (hr : Room j X.A) (tk : Takes X W)
    (h : wK X kws σ H fun zs H1 => zs.length = ks.length ∧ ∀ n d, H1 n = none → H1 d = none → d ≠ n → sp (.ref n :: prm g zs) (upd (upd H1 d (.own n)) n (.ins C d [])) (fun v H2 => v = .non ∧ Q (.ref n) H2) fun c d H' => W c d σ H') (hk : k + 1 ≤ j := by decide) (hg : Gl X x := by rfl)
    (hall : (backToKw pos (keywordEach kws X.env)).all (·.1.isSome) = true := by rfl) (hks : (backToKw pos (keywordEach kws X.env)).filterMap (·.1) = ks := by rfl) (hdb : (x == ("__debug__" : Str)) = false := by decide)
    (hpl : ((backTo pos (starEach [] X.env)).any (·.1) || (backToKw pos (keywordEach kws X.env)).any (·.1.isNone)) = false := by rfl) :
    wE X (.Call (.Name x p1) [] kws pos) σ H Q := by
  obtain ⟨f, fd, M, F, hm, hb⟩ := G.ex
  obtain ⟨f', hi, B⟩ := B.ex
  have hi2 := M.init
  rw [hi] at hi2
  cases hi2
  refine ⟨fun pins s I => ?_⟩
  refine wpAny_Call_Name_kw (ld_glob I hg hm ?_ hdb)
  refine PySem.W.callWith_KW0 (h₀ := X.base) I.ok.mod.kin M.kp hall ?_ hpl
  refine thn (h.r pos pins s I) fun ws s2 ⟨zs, H2, I2, rz, l2, q2⟩ => ⟨I2.kIn, ?_⟩
  rw [hks]
  exact run_madeK (us := []) (vs := []) M F (hr.mono hk) (B.kbn hb) tk I2 .nil rz rfl l2 q2
end
end BR

namespace BR
open PySem PySem.Spec PyProof.Rows L2
/-! ### == of tuples whose elements are held against one another by own ==, alike or not -/
section
open PySem.SeqAt AutoSeq1 MeetsSeq MeetsSeq2 MeetsSeq3 SeqRoads2 GQ
variable {prog : Program} {w : World} {A : Around} {R : Result → Shared → Prop}
theorem tuple_eqD (l b : Addr) (items items2 : Array Value) (n n2 : Nat) (dd dd2 : Option Addr) (sl sl2 : Array (Option Value)) (I : Nat → Shared → Prop)
    (turn : ∀ i (h1 : i < items.size) (h2 : i < items2.size) s, I i s → wpAny (model prog w) A.in1 (eqBool items[i] items2[i]) (fun r s' => if r = true then I (i + 1) s' else R (.ok (.ret (.bool false))) s') (fun e s' => R (.error e) s') s)
    (fin : ∀ s, I (min items.size items2.size) s → R (.ok (.ret (.bool (items.size == items2.size)))) s) {s : Shared} (hl1 : s.heap.get? l = some { cls := .type "tuple", dict := dd, data := .seq items n, slots := sl }) (hb1 : s.heap.get? b = some { cls := .type "tuple", dict := dd2, data := .seq items2 n2, slots := sl2 }) (h : I 0 s) :
    wpAny (model prog w) A.in1 (Builtin.«tuple.__eq__» ⟨[.ref l, .ref b], []⟩) (FinOf prog w A R) (fun e s' => R (.error e) s') s := by
  have f2 := AutoSeq1.sub_tuple_tuple
  have hZ : (items.toList.zip items2.toList).length = min items.size items2.size := by simp
  have h0 := h
  obtain ⟨hp, g, d, tk, os⟩ := s
  wp_walk using wpAny_loadPart' hl1, wpAny_loadPart' hb1, wpAny_forIn_list _ (fun rest b s' => b.1 = none ∧ ∃ i, rest = (items.toList.zip items2.toList).drop i ∧ i ≤ min items.size items2.size ∧ I i s') _
  case turn =>
    rintro ⟨y, x⟩ rest b s' ⟨hb', i, hz, hi, hI⟩
    have hlt : i < (items.toList.zip items2.toList).length := by
      rcases Nat.lt_or_ge i (items.toList.zip items2.toList).length with h' | h'
      · exact h'
      · rw [List.drop_of_length_le h'] at hz; cases hz
    have hm : i < min items.size items2.size := hZ ▸ hlt
    have h1 : i < items.size := Nat.lt_of_lt_of_le hm (Nat.min_le_left _ _)
    have h2 : i < items2.size := Nat.lt_of_lt_of_le hm (Nat.min_le_right _ _)
    rw [List.drop_eq_getElem_cons hlt] at hz
    injection hz with hyx hrest
    have hy : y = items[i] := by have := congrArg Prod.fst hyx; simpa using this
    have hx : x = items2[i] := by have := congrArg Prod.snd hyx; simpa using this
    subst hy hx
    refine wpAny_bind (wpAny_mono (turn i h1 h2 s' hI) (fun r s2 q2 => ?_) fun _ _ x => x)
    cases r with
    | true =>
      wp_walk
      exact ⟨rfl, i + 1, hrest, hm, by simpa using q2⟩
    | false =>
      have q3 : R (.ok (.ret (.bool false))) s2 := by simpa using q2
      wp_walk
      exact q3
  case fin =>
    rintro ⟨b1, b2⟩ s' ⟨hb', i, hz, hi, hI⟩
    simp only at hb'
    subst hb'
    have hge : min items.size items2.size ≤ i := by
      rcases Nat.lt_or_ge i (items.toList.zip items2.toList).length with h' | h'
      · rw [List.drop_eq_getElem_cons h'] at hz; cases hz
      · exact hZ ▸ h'
    have hi' : i = min items.size items2.size := by omega
    have hR : R (.ok (.ret (.bool (items.size == items2.size)))) s' := fin s' (hi' ▸ hI)
    wp_walk
    simpa [Builtin.Tuple.tupleCompareSizes] using hR
  case h =>
    exact ⟨rfl, 0, rfl, Nat.zero_le _, h0⟩
theorem rc_tupD {E : Value → Shared → Prop} {s : Shared} {l b : Addr} {items items2 : Array Value} {Q : Value → Shared → Prop} (hu : A.units < cLine) (I : Nat → Shared → Prop)
    (hl : s.heap.IsTuple l items) (hb : s.heap.IsTuple b items2)
    (turn : ∀ i (h1 : i < items.size) (h2 : i < items2.size) s, I i s → wpAny (model prog w) A.in1 (eqBool items[i] items2[i]) (fun r s' => if r = true then I (i + 1) s' else Q (.bool false) s') E s)
    (fin : ∀ s, I (min items.size items2.size) s → Q (.bool (items.size == items2.size)) s) (h : I 0 s) : wpAny (model prog w) A (richCompare .Eq (.ref l) (.ref b)) Q E s := by
  obtain ⟨⟨cls, dd, data, sl⟩, ho, hc, n, hd⟩ := id hl
  obtain ⟨⟨cls2, dd2, data2, sl2⟩, ho2, hc2, n2, hd2⟩ := id hb
  simp only at hc hd hc2 hd2
  subst hc hd hc2 hd2
  refine wpAny_richCompare_same_room (op := .Eq) ⟨_, ho, rfl⟩ ⟨_, ho2, rfl⟩ F.slot_tuple_eq (call_here F.slot_tuple_eq ⟨_, ho, rfl⟩ F.entry_tuple_eq (F.args_tuple_eq_2 _ _) ?_) hu
  refine tuple_eqD (R := wants (fun v s' => v ≠ .notImplemented ∧ Q v s') E) l b items items2 n n2 dd dd2 sl sl2 I (fun i h1 h2 s2 q => wpAny_mono (turn i h1 h2 s2 q) (fun r s3 z => ?_) fun _ _ e => e) (fun s' q => ⟨(fun x => nomatch x), fin s' q⟩) ho ho2 h
  cases r with
  | true => simpa using z
  | false =>
    rw [if_neg (by decide)]
    exact ⟨(fun x => nomatch x), by simpa using z⟩
end

/-- == gives b for what D says, and only makes objects -/
def EqV (X : Cx) (n : Nat) (D : V → V → Hp → Bool → Prop) : Prop :=
  ∀ (A : Around) (pins : List (Addr × Obj)) (s : Shared) (σ : L2.St) (H : Hp) (x y : V) (u v : Value) (b : Bool), Sub X n A → Inv X pins σ H s → RelV x u → RelV y v → D x y H b →
    wpAny (model X.prog X.w) A (eqBool u v) (fun r s' => r = b ∧ ∃ H', Inv X pins σ H' s' ∧ Same H H') X.xe s
def MonV (D : V → V → Hp → Bool → Prop) : Prop := ∀ x y H H' b, Same H H' → D x y H b → D x y H' b
/-- item by item, until two differ -/
def PrsV (D : V → V → Hp → Bool → Prop) (H : Hp) (b : Bool) : List V → List V → Prop
  | [], [] => b = true
  | x :: xs, y :: ys => ∃ c, D x y H c ∧ if c = true then PrsV D H b xs ys else b = false
  | _, _ => b = false
def rEqV (K : PySem.W.Frag) (D : V → V → Hp → Bool → Prop) : R2 := fun x y H Q => ∃ a c xs ys b, x = .ref a ∧ y = .ref c ∧ SqT K H a xs ∧ SqT K H c ys ∧ PrsV D H b xs ys ∧ ∀ H', Same H H' → Q (.bl b) H'
section
variable {X : Cx} {n : Nat} {D : V → V → Hp → Bool → Prop}
theorem op_eqV (hD : MonV D) (E : EqV X n D) (hr : Room (n + 1) X.A) : OpR X (compareOp .Eq) (rEqV X.K D) := by
  intro pins s σ H x y v u Q I rx ry h
  obtain ⟨a, c, xs, ys, b, rfl, rfl, ha, hc, p, q⟩ := h
  cases rx
  cases ry
  obtain ⟨its, r, e, z⟩ := I.tuple ha
  obtain ⟨its2, r2, e2, z2⟩ := I.tuple hc
  have l1 := r.length
  have l2 := r2.length
  show wpAny (model X.prog X.w) X.A (richCompare .Eq (.ref a) (.ref c)) _ _ _
  refine rc_tupD (I := fun i s' => ∃ H', Inv X pins σ H' s' ∧ Same H H' ∧ PrsV D H b (xs.drop i) (ys.drop i)) hr.units0 e e2 (fun i h1 h2 s' k => ?_) (fun s' k => ?_) ⟨H, I, Same.refl _, by simpa using p⟩
  · obtain ⟨H1, I1, s1, p1⟩ := k
    have h1' : i < its.length := by simpa using h1
    have h2' : i < its2.length := by simpa using h2
    have k1 : i < xs.length := by omega
    have k2 : i < ys.length := by omega
    rw [List.drop_eq_getElem_cons k1, List.drop_eq_getElem_cons k2] at p1
    obtain ⟨d, hd, p2⟩ := p1
    obtain ⟨u1, hu, ru⟩ := r.get (List.getElem?_eq_getElem k1)
    obtain ⟨v1, hv, rv⟩ := r2.get (List.getElem?_eq_getElem k2)
    have g1 : its.toArray[i] = u1 := by
      rw [List.getElem?_eq_getElem h1'] at hu
      simpa using Option.some.inj hu
    have g2 : its2.toArray[i] = v1 := by
      rw [List.getElem?_eq_getElem h2'] at hv
      simpa using Option.some.inj hv
    rw [g1, g2]
    refine wpAny_mono (E X.A.in1 pins s' σ H1 _ _ u1 v1 d (Sub.in1 ⟨hr, rfl⟩) I1 ru rv (hD _ _ _ _ _ s1 hd)) (fun t s2 z => ?_) fun _ _ e => e
    obtain ⟨rfl, H2, I2, s2'⟩ := z
    cases t with
    | true =>
      rw [if_pos rfl] at p2 ⊢
      exact ⟨H2, I2, s1.trans s2', p2⟩
    | false =>
      rw [if_neg (by decide)] at p2 ⊢
      subst p2
      exact ⟨.bl false, H2, I2, rfl, q H2 (s1.trans s2')⟩
  · obtain ⟨H1, I1, s1, p1⟩ := k
    have eb : b = (its.toArray.size == its2.toArray.size) := by
      rw [List.size_toArray, List.size_toArray] at p1 ⊢
      rcases Nat.lt_trichotomy its.length its2.length with w | w | w
      · rw [Nat.min_eq_left (Nat.le_of_lt w), List.drop_eq_nil_of_le (by omega)] at p1
        have k2 : its.length < ys.length := by omega
        rw [List.drop_eq_getElem_cons k2] at p1
        have p1 : b = false := p1
        rw [p1]
        exact (beq_eq_false_iff_ne.mpr (by omega)).symm
      · rw [w, Nat.min_self, List.drop_eq_nil_of_le (by omega), List.drop_eq_nil_of_le (by omega)] at p1
        have p1 : b = true := p1
        rw [p1, w]
        exact (beq_self_eq_true _).symm
      · rw [Nat.min_eq_right (Nat.le_of_lt w), List.drop_eq_nil_of_le (as := ys) (by omega)] at p1
        have k2 : its2.length < xs.length := by omega
        rw [List.drop_eq_getElem_cons k2] at p1
        have p1 : b = false := p1
        rw [p1]
        exact (beq_eq_false_iff_ne.mpr (by omega)).symm
    rw [← eb]
    exact ⟨.bl b, H1, I1, rfl, q H1 s1⟩
end
/-! ### two fractions at one place -/
theorem frac_uni {X : Cx} {R : Rp} (hK : R.K = X.K) {pins : List (Addr × Obj)} {s : Shared} {σ : L2.St} {H : Hp} {S S' : Reg} {v : V} {r t : Rat} (I : Inv X pins σ H s) (h : Is R S H v (frac r)) (h' : Is R S' H v (frac t)) : r = t := by
  obtain ⟨a, xs, e, hs, ax⟩ := h.tupE
  obtain ⟨a', xs', e', hs', ax'⟩ := h'.tupE
  subst e
  cases e'
  rw [hK] at hs hs'
  obtain ⟨its, rv, e1, _⟩ := I.tuple hs
  obtain ⟨its', rv', e2, _⟩ := I.tuple hs'
  have eq : its = its' := by
    obtain ⟨o, o1, o2, n, o3⟩ := e1
    obtain ⟨p, p1, p2, m, p3⟩ := e2
    rw [o1] at p1
    cases p1
    rw [o3] at p3
    injection p3 with p3 _
    simpa using p3
  subst eq
  have x1 : xs = [.int r.num, .int (r.den : Int)] := IsA.of_ints (is := [r.num, (r.den : Int)]) ax
  have x2 : xs' = [.int t.num, .int (t.den : Int)] := IsA.of_ints (is := [t.num, (t.den : Int)]) ax'
  rw [x1] at rv
  rw [x2] at rv'
  cases rv with
  | cons q1 rv =>
  cases rv with
  | cons q2 rv =>
  cases rv
  cases rv' with
  | cons q3 rv' =>
  cases rv' with
  | cons q4 rv' =>
  cases rv'
  obtain ⟨k1, z1⟩ := q1
  obtain ⟨k2, z2⟩ := q2
  obtain ⟨k3, z3⟩ := q3
  obtain ⟨k4, z4⟩ := q4
  rw [z1] at z3
  rw [z2] at z4
  have f1 : r.num = t.num := by injection z3
  have f2 : (r.den : Int) = t.den := by injection z4
  exact Rat.ext f1 (by omega)
theorem faD_uni {X : Cx} {R : Rp} (hK : R.K = X.K) {pins : List (Addr × Obj)} {s : Shared} {σ : L2.St} {H : Hp} {S S' : Reg} {v : V} {c : Str} {g h : G2} (I : Inv X pins σ H s) (k : Is R S H v (faD c g.1 g.2)) (k' : Is R S' H v (faD c h.1 h.2)) : g = h := by
  cases k with
  | obj n e hf =>
  cases k' with
  | obj n' e' hf' =>
  rw [e] at e'
  cases e'
  cases hf with
  | cons x1 hf =>
  cases hf with
  | cons x2 hf =>
  cases hf' with
  | cons y1 hf' =>
  cases hf' with
  | cons y2 hf' =>
  exact Prod.ext (frac_uni hK I x1 y1) (frac_uni hK I x2 y2)
/-- two gates (or two lines) -/
def DFa (R : Rp) (c : Str) (x y : V) (H : Hp) (b : Bool) : Prop := ∃ (S S' : Reg) (g h : G2), Is R S H x (faD c g.1 g.2) ∧ Is R S' H y (faD c h.1 h.2) ∧ (b = true ↔ g = h)
theorem monV_fa {R : Rp} {c : Str} : MonV (DFa R c) := fun _ _ _ _ _ e ⟨S, S', g, h, i, j, k⟩ => ⟨S, S', g, h, i.up e, j.up e, k⟩
theorem eqV_fa {X : Cx} {R : Rp} {c : Str} {k : Nat} (hK : R.K = X.K) (G : MethG X.prog X.w X.K X.mg X.base k (R.CA c) "__eq__" ["self", "other"] (spEqF R X.mg c)) (T : EqC R X.mg c) (tk : Takes X W0) : EqV X k (DFa R c) := by
  intro A pins s σ H x y u v b sb I rx ry d
  obtain ⟨S, S', g, h, i, j, e⟩ := d
  obtain ⟨a, dx, fs, rfl, ha⟩ := faD_ins i
  obtain ⟨a', dx', fs', rfl, ha'⟩ := faD_ins j
  by_cases q : a = a'
  · subst q
    have gh := faD_uni hK I i j
    have eb : b = true := e.mpr gh
    subst eb
    cases rx
    cases ry
    exact SeqAt.EqAt.same _ _ _ _ _ ⟨rfl, H, I, Same.refl _⟩
  · refine wpAny_mono (eqb_own G tk (Q := fun w H' => w = .bl b ∧ Same H H') sb I rx ry ⟨⟨a, a', rfl, rfl, q⟩, ?_⟩) (fun t s' z => ?_) fun _ _ e => e
    · have w := ownQ (mg := X.mg) (g := id) (Q := fun w H' => w = .bl b ∧ Same H H') i T (.inl rfl) j ⟨?_, Same.refl _⟩
      · rw [hK] at w
        exact w
      · congr 1
        rw [id]
        cases b with
        | true =>
          have gh := e.mp rfl
          subst gh
          exact decide_eq_true ⟨rfl, rfl, rfl⟩
        | false =>
          refine decide_eq_false fun z => ?_
          have : (false : Bool) = true := e.mpr (Prod.ext z.2.1 z.2.2)
          cases this
    · obtain ⟨H', I', z1, z2⟩ := z
      cases z1
      exact ⟨rfl, H', I', z2⟩
theorem prsV_fa {R : Rp} {c : Str} {S S' : Reg} {H : Hp} : ∀ {gs hs : List G2} {xs ys : List V} {b : Bool}, IsA R S H xs (gs.map fun g => faD c g.1 g.2) → IsA R S' H ys (hs.map fun g => faD c g.1 g.2) → (b = true ↔ gs = hs) → PrsV (DFa R c) H b xs ys
  | [], [], _, _, b, .nil, .nil, e => e.mpr rfl
  | [], _ :: _, _, _, b, .nil, .cons _ _, e => by
    cases b with
    | true => exact absurd (e.mp rfl) (by simp)
    | false => rfl
  | _ :: _, [], _, _, b, .cons _ _, .nil, e => by
    cases b with
    | true => exact absurd (e.mp rfl) (by simp)
    | false => rfl
  | g :: gs, h :: hs, _, _, b, .cons x xs, .cons y ys, e => by
    refine ⟨decide (g = h), ⟨S, S', g, h, x, y, by simp⟩, ?_⟩
    by_cases q : g = h
    · rw [if_pos (by simp [q])]
      exact prsV_fa xs ys (by rw [e, q]; simp)
    · rw [if_neg (by simp [q])]
      cases b with
      | true =>
        have := e.mp rfl
        simp at this
        exact absurd this.1 q
      | false => rfl
/-- own == of two of a class, alike or not -/
def spEqV {α : Type} (R : Rp) (d : α → D) : Sp := fun vs H Q _ => ∃ (S S' : Reg) (x y : V) (l l' : α), vs = [x, y] ∧ Is R S H x (d l) ∧ Is R S' H y (d l') ∧ ∀ H' b, Same H H' → (b = true ↔ l = l') → Q (.bl b) H'
def spT (t : Rat × Rat × List G2 × List G2) : D := spD t.1 t.2.1 t.2.2.1 t.2.2.2
def exT (t : Int × Int × Int × Rat) : D := exDI t.1 t.2.1 t.2.2.1 t.2.2.2
def dbT (t : List G2 × (Int × Int × Int × Rat)) : D := dbtD t.1 (exT t.2)
theorem ownV {α : Type} {R : Rp} {S S' : Reg} {H : Hp} {x y : V} {d : α → D} {c : Str} {f : α → List (Str × D)} (ed : ∀ l, d l = .obj c (f l)) {l l' : α} {g : Bool → Bool} {Q : VK} (h : Is R S H x (d l)) (h' : Is R S' H y (d l')) (q : ∀ H' b, Same H H' → (b = true ↔ l = l') → Q (.bl (g b)) H') : rOwn R.K (R.CA c) (spEqV R d) g x y H Q := by
  have k := h
  have k' := h'
  rw [ed] at k k'
  obtain ⟨a, dx, fs, rfl, e⟩ := objP_ins k
  obtain ⟨a', dx', fs', rfl, e'⟩ := objP_ins k'
  exact ⟨a, dx, fs, rfl, e, .inl ⟨a', _, dx', fs', rfl, e', (show EqTo R c c from .inl rfl).nf⟩, S, S', _, _, l, l', rfl, h, h', fun H' b s i => ⟨_, rfl, q H' b s i⟩⟩
end BR

namespace BR
open PySem PySem.Spec PyProof.Rows L2
/-! ### x(lambda p: body, e, ..): the lambda first -/
section
variable {X : Cx} {σ : L2.St} {H : Hp} {Q : VK}
theorem fs_sub (ok : X.Ok) {b : Addr} (n : b ∉ frs X.stack) : b ∉ X.fs := fun z => n (by
  rcases ok.stk with e | ⟨e, hf⟩
  · rw [e]
    exact z
  · rw [e]
    unfold frs
    rw [List.filterMap_cons, hf]
    exact List.mem_cons_of_mem _ z)
theorem Inv.pinned {pins : List (Addr × Obj)} {s : Shared} {f : Addr} {o : Obj} (I : Inv X pins σ H s) (e : s.heap.get? f = some o) (n : H f = none) (nl : f ≠ X.env.locals) (nf : f ∉ X.fs) (nc : ∀ v, o.data ≠ .cell v) : Inv X ((f, o) :: pins) σ H s :=
by
  have h : ∀ p ∈ X.pn ++ (f, o) :: pins, s.heap.get? p.1 = some p.2 ∧ H p.1 = none ∧ p.1 ≠ X.env.locals ∧ p.1 ∉ X.fs ∧ ∀ v, p.2.data ≠ .cell v := fun p hp => by
    rcases List.mem_append.mp hp with z | z
    · exact I.pin p (List.mem_append_left _ z)
    · rcases List.mem_cons.mp z with z | z
      · rw [z]
        exact ⟨e, n, nl, nf, nc⟩
      · exact I.pin p (List.mem_append_right _ z)
  exact { I with pin := h }
theorem Inv.unpin {pins : List (Addr × Obj)} {s : Shared} {q : Addr × Obj} (I : Inv X (q :: pins) σ H s) : Inv X pins σ H s ∧ s.heap.get? q.1 = some q.2 ∧ H q.1 = none := by
  obtain ⟨a, b, _⟩ := I.pin q (List.mem_append_right _ List.mem_cons_self)
  exact ⟨{ I with pin := fun p hp => I.pin p (by
    rcases List.mem_append.mp hp with z | z
    · exact List.mem_append_left _ z
    · exact List.mem_append_right _ (List.mem_cons_of_mem _ z)) }, a, b⟩
theorem eLamF {T : List (Addr × Str)} {x p : Str} {ps : List Str} {c P : Addr} {j k m : Nat} {params : Arguments} {body : Expr} {es : List Expr} {scope : Scope} {p0 lpos pos : Pos} {sp : Heap → Sp} {W : WX} (st : Stmt) (N : List Str) (G : OverG X.prog X.w X.K X.mg X.base j x ps sp)
    (TB : LamX.TabB X.base X.mg c P) (hcode : X.env.code = .ref c) (hmT : (P, X.env.qual ++ "<lambda>") ∈ T) (hu : ∀ q ∈ T, q.1 = P → q.2 = X.env.qual ++ "<lambda>") (hr : Room m X.A) (tk : Takes X W)
    (h : LamX.Tabs T H ∧ ∀ (H2 : Hp) (f c' : Addr), LamX.ExtN H H2 → LamX.Tabs T H2 → H2 c' = some (LamX.CodeO c' (X.env.qual ++ "<lambda>")) →
      wA X es σ H2 fun vs H4 => vs.length + 1 = ps.length ∧ ∀ base' : Heap, LamV X.prog X.w X.K X.mg base' (k + 1) [p] (spLam1 X p k scope body σ c') f → sp base' (.ref f :: vs) H4 Q fun c d H' => W c d σ H')
    (hj : j ≤ m := by decide) (hsc : X.env.scope = defScope st := by rfl) (hN : X.N = N := by rfl) (hfn : X.fn = fun _ => true := by rfl) (hL : lamSB1 p (defScope st) scope = true := by decide +kernel) (nN : p ∉ N := by decide) (hdef : defaultsOf params X.env = ([], []) := by rfl)
    (hbind : ∀ (q : Str) (cl : List (Str × Addr)) (pm cv ctv u : Value), bindArgs (PySem.W.kla_fn "<lambda>" q params body scope cl pm cv ctv) ⟨[u], []⟩ = pure [(p, u)] := by exact fun _ _ _ _ _ _ => rfl)
    (he : starEach (.Lambda params body scope lpos :: es) X.env = (false, eval (.Lambda params body scope lpos) X.env) :: starEach es X.env := by rfl) (hpl : (backTo pos (starEach es X.env)).any (·.1) = false := by rfl)
    (hg : Gl X x := by rfl) (hdb : (x == ("__debug__" : Str)) = false := by decide) :
    wE X (.Call (.Name x p0) (.Lambda params body scope lpos :: es) [] pos) σ H Q := by
  have L : LamS1 p X.env.scope scope := lamS1_by (by rw [hsc]; exact hL)
  have nX : p ∉ X.N := by rw [hN]; exact nN
  obtain ⟨hT, q1⟩ := h
  refine ⟨fun pins s I => ?_⟩
  obtain ⟨g, gd, _, hm, hkp, _⟩ := (G X.base ⟨I.ok.mod, fun _ _ e => e, Nat.le_refl _⟩).ex
  refine wpAny_Call_Name_kw (ld_glob I hg hm ?_ hdb)
  refine PySem.W.callWith_K (h₀ := X.base) I.ok.mod.kin hkp ?_ he hpl
  rw [he]
  show wpAny _ _ (spliced ((false, eval (.Lambda params body scope lpos) X.env) :: backTo pos (starEach es X.env))) _ _ s
  refine Calls.spliced_cons (LamX.lam_make2 I TB hcode hmT hu hT hdef (lam1_has L I.ok) fun f c' pm ctv H2 s2 I2 eN T2 hf hfn2 hfr hco => ?_)
  have nl : f ≠ X.env.locals := fun z => by
    obtain ⟨m2, ⟨o, es, ep, ho, hd, _⟩, _⟩ := I2.loc
    rw [← z, hf] at ho
    cases ho
    cases hd
  have I2p := Inv.pinned I2 hf hfn2 nl (fs_sub I2.ok hfr) (fun v => by intro z; cases z)
  refine wpAny_mono ((q1 H2 f c' eN T2 hco).r pos _ s2 I2p) (fun us s4 z => ?_) fun _ _ e => e
  obtain ⟨vs, H4, I4p, rvs, ln, q4⟩ := z
  obtain ⟨I4, hf4, hfn4⟩ := Inv.unpin I4p
  refine ⟨I4.kIn, ?_⟩
  have wd := bigB_wide I4
  have hB : (bigB X s4 H4).get? f = some (PySem.W.kla_obj "<lambda>" (X.env.qual ++ "<lambda>") params body scope (cloFrom X.env.cells scope.names []) pm c' ctv) := bigB_get hf4 hfn4 hfr
  have hc : ∀ y c, X.env.cells.lookup y = some c → ∀ o, s4.heap.get? c = some o → (bigB X s4 H4).get? c = some o := fun y c e o ho => bigB_get ho (I4.freeC y c e) fun hb => by
    rcases List.mem_cons.mp (I4.stkSub c hb) with z | z
    · exact I4.cne y c e z
    · obtain ⟨_, o', ho', _⟩ := I4.ok.funs.mem z
      exact absurd (Nat.lt_of_lt_of_le (Heap.lt_size ho') (I4.ok.cab y c (by rw [hfn]) e)) (Nat.lt_irrefl _)
  have lv : LamV X.prog X.w X.K X.mg (bigB X s4 H4) (k + 1) [p] (spLam1 X p k scope body σ c') f :=
    ⟨_, _, _, _, hB, lam1_ok I4 L nX wd hB hc, .all fun us hl => by
      obtain ⟨u, rfl⟩ : ∃ u, us = [u] := by
        match us, hl with
        | [u], _ => exact ⟨u, rfl⟩
      exact hbind _ _ _ _ _ u⟩
  obtain ⟨g', gd', F, hm', _, ⟨hb, _⟩⟩ := (G _ wd).ex
  obtain rfl : g = g' := by
    rw [hm] at hm'
    cases hm'
    rfl
  have lu : (Value.ref f :: us).length = ps.length := by
    rw [List.length_cons, ← rvs.length]
    exact ln
  have b := hb s4 (.ref f :: us) I4.kIn (by rw [List.append_nil]; exact lu)
  rw [List.append_nil] at b
  refine wpAny_call (codeAny_mono (F.run X.A X.stack s4 H4 ⟨.ref f :: us, []⟩ (.ref f :: us) (.ref f :: vs) Q (fun c d H' => W c d σ H') (hr.mono hj) (bigB_env0 I4) b (.cons rfl rvs) (q4 _ lv)) fun r s3 hq => ?_)
  cases r with
  | error e => exact passAt tk σ pins H4 s4 e s3 I4 hq
  | ok fl =>
    cases fl with
    | ret u => exact I4.after hq
    | next => exact False.elim hq
    | brk => exact False.elim hq
    | cont => exact False.elim hq
end
theorem MethG.wide {P : Program} {w : World} {K : PySem.W.Frag} {mg : Str → Option Value} {base base' : Heap} {k : Nat} {C : Addr} {m : Str} {ps : List Str} {sp : Sp} (G : MethG P w K mg base k C m ps sp) (W : Wide K mg base base') : MethG P w K mg base' k C m ps sp := by
  obtain ⟨f, fd, hc, hm, F, h⟩ := G.ex
  exact ⟨f, fd, hc, hm, FnOk.wide F W, h⟩
end BR

namespace BR
open PySem PySem.Spec PyProof.Rows L2
def top (i : Nat) : Stmt := PySem.Challenge.pw_bestround_k36_loose_gates_and_results.main.body.getD i (.Pass ⟨0, 0, 0, 0⟩)
abbrev s_BadCount_init : Stmt := inClass (top 3) 0
def N_BadCount_init : List Str := ["self", "what", "count"]
theorem sc_BadCount_init : FnScope N_BadCount_init ["self", "what", "count"] (defScope s_BadCount_init) := ⟨rfl, rfl, rfl, by decide +kernel, rfl, by decide +kernel, by decide +kernel⟩
abbrev s_check_fraction : Stmt := top 8
def N_check_fraction : List Str := ["fraction", "top", "bottom", "number"]
theorem sc_check_fraction : FnScope N_check_fraction ["fraction"] (defScope s_check_fraction) := ⟨rfl, rfl, rfl, by decide +kernel, rfl, by decide +kernel, by decide +kernel⟩
abbrev s_check_loose : Stmt := top 9
def N_check_loose : List Str := ["some"]
theorem sc_check_loose : FnScope N_check_loose ["some"] (defScope s_check_loose) := ⟨rfl, rfl, rfl, by decide +kernel, rfl, by decide +kernel, by decide +kernel⟩
abbrev s_is_number : Stmt := top 10
def N_is_number : List Str := ["thing"]
theorem sc_is_number : FnScope N_is_number ["thing"] (defScope s_is_number) := ⟨rfl, rfl, rfl, by decide +kernel, rfl, by decide +kernel, by decide +kernel⟩
abbrev s_is_order : Stmt := top 11
def N_is_order : List Str := ["order", "many", "seen", "index"]
theorem sc_is_order : FnScope N_is_order ["order", "many"] (defScope s_is_order) := ⟨rfl, rfl, rfl, by decide +kernel, rfl, by decide +kernel, by decide +kernel⟩
abbrev s_check_order : Stmt := top 12
def N_check_order : List Str := ["gates", "order"]
theorem sc_check_order : FnScope N_check_order ["gates", "order"] (defScope s_check_order) := ⟨rfl, rfl, rfl, by decide +kernel, rfl, by decide +kernel, by decide +kernel⟩
abbrev s_common_divisor : Stmt := top 14
def N_common_divisor : List Str := ["one", "other"]
theorem sc_common_divisor : FnScope N_common_divisor ["one", "other"] (defScope s_common_divisor) := ⟨rfl, rfl, rfl, by decide +kernel, rfl, by decide +kernel, by decide +kernel⟩
abbrev s_lowest : Stmt := top 15
def N_lowest : List Str := ["fraction", "top", "bottom", "divisor"]
theorem sc_lowest : FnScope N_lowest ["fraction"] (defScope s_lowest) := ⟨rfl, rfl, rfl, by decide +kernel, rfl, by decide +kernel, by decide +kernel⟩
abbrev s_below : Stmt := top 16
def N_below : List Str := ["one", "other"]
theorem sc_below : FnScope N_below ["one", "other"] (defScope s_below) := ⟨rfl, rfl, rfl, by decide +kernel, rfl, by decide +kernel, by decide +kernel⟩
abbrev s_smaller : Stmt := top 17
def N_smaller : List Str := ["one", "other"]
theorem sc_smaller : FnScope N_smaller ["one", "other"] (defScope s_smaller) := ⟨rfl, rfl, rfl, by decide +kernel, rfl, by decide +kernel, by decide +kernel⟩
abbrev s_greater : Stmt := top 18
def N_greater : List Str := ["one", "other"]
theorem sc_greater : FnScope N_greater ["one", "other"] (defScope s_greater) := ⟨rfl, rfl, rfl, by decide +kernel, rfl, by decide +kernel, by decide +kernel⟩
abbrev s_Gate_init : Stmt := inClass (top 20) 0
def N_Gate_init : List Str := ["self", "factor", "amount"]
theorem sc_Gate_init : FnScope N_Gate_init ["self", "factor", "amount"] (defScope s_Gate_init) := ⟨rfl, rfl, rfl, by decide +kernel, rfl, by decide +kernel, by decide +kernel⟩
abbrev s_Gate_eq : Stmt := inClass (top 20) 1
def N_Gate_eq : List Str := ["self", "other"]
theorem sc_Gate_eq : FnScope N_Gate_eq ["self", "other"] (defScope s_Gate_eq) := ⟨rfl, rfl, rfl, by decide +kernel, rfl, by decide +kernel, by decide +kernel⟩
abbrev s_Line_init : Stmt := inClass (top 21) 0
def N_Line_init : List Str := ["self", "factor", "amount"]
theorem sc_Line_init : FnScope N_Line_init ["self", "factor", "amount"] (defScope s_Line_init) := ⟨rfl, rfl, rfl, by decide +kernel, rfl, by decide +kernel, by decide +kernel⟩
abbrev s_Line_eq : Stmt := inClass (top 21) 1
def N_Line_eq : List Str := ["self", "other"]
theorem sc_Line_eq : FnScope N_Line_eq ["self", "other"] (defScope s_Line_eq) := ⟨rfl, rfl, rfl, by decide +kernel, rfl, by decide +kernel, by decide +kernel⟩
abbrev s_step_of : Stmt := top 23
def N_step_of : List Str := ["gate", "top", "bottom", "lift", "scale"]
theorem sc_step_of : FnScope N_step_of ["gate"] (defScope s_step_of) := ⟨rfl, rfl, rfl, by decide +kernel, rfl, by decide +kernel, by decide +kernel⟩
abbrev s_passed : Stmt := top 24
def N_passed : List Str := ["step", "fraction", "stretch", "lift", "scale", "top", "bottom"]
theorem sc_passed : FnScope N_passed ["step", "fraction"] (defScope s_passed) := ⟨rfl, rfl, rfl, by decide +kernel, rfl, by decide +kernel, by decide +kernel⟩
abbrev s_passed_all : Stmt := top 25
def N_passed_all : List Str := ["gates", "order", "fraction", "index"]
theorem sc_passed_all : FnScope N_passed_all ["gates", "order", "fraction"] (defScope s_passed_all) := ⟨rfl, rfl, rfl, by decide +kernel, rfl, by decide +kernel, by decide +kernel⟩
abbrev s_Exchange_init : Stmt := inClass (top 27) 0
def N_Exchange_init : List Str := ["self", "begin", "middle", "end", "worth"]
theorem sc_Exchange_init : FnScope N_Exchange_init ["self", "begin", "middle", "end", "worth"] (defScope s_Exchange_init) := ⟨rfl, rfl, rfl, by decide +kernel, rfl, by decide +kernel, by decide +kernel⟩
abbrev s_Exchange_eq : Stmt := inClass (top 27) 1
def N_Exchange_eq : List Str := ["self", "other"]
theorem sc_Exchange_eq : FnScope N_Exchange_eq ["self", "other"] (defScope s_Exchange_eq) := ⟨rfl, rfl, rfl, by decide +kernel, rfl, by decide +kernel, by decide +kernel⟩
abbrev s_Loose_init : Stmt := inClass (top 29) 0
def N_Loose_init : List Str := ["self", "low", "high"]
theorem sc_Loose_init : FnScope N_Loose_init ["self", "low", "high"] (defScope s_Loose_init) := ⟨rfl, rfl, rfl, by decide +kernel, rfl, by decide +kernel, by decide +kernel⟩
abbrev s_Loose_eq : Stmt := inClass (top 29) 1
def N_Loose_eq : List Str := ["self", "other"]
theorem sc_Loose_eq : FnScope N_Loose_eq ["self", "other"] (defScope s_Loose_eq) := ⟨rfl, rfl, rfl, by decide +kernel, rfl, by decide +kernel, by decide +kernel⟩
abbrev s_Spread_init : Stmt := inClass (top 30) 0
def N_Spread_init : List Str := ["self", "least", "greatest", "low", "high"]
theorem sc_Spread_init : FnScope N_Spread_init ["self", "least", "greatest", "low", "high"] (defScope s_Spread_init) := ⟨rfl, rfl, rfl, by decide +kernel, rfl, by decide +kernel, by decide +kernel⟩
abbrev s_Spread_eq : Stmt := inClass (top 30) 1
def N_Spread_eq : List Str := ["self", "other"]
theorem sc_Spread_eq : FnScope N_Spread_eq ["self", "other"] (defScope s_Spread_eq) := ⟨rfl, rfl, rfl, by decide +kernel, rfl, by decide +kernel, by decide +kernel⟩
abbrev s_Doubt_init : Stmt := inClass (top 31) 0
def N_Doubt_init : List Str := ["self", "corner", "exchange"]
theorem sc_Doubt_init : FnScope N_Doubt_init ["self", "corner", "exchange"] (defScope s_Doubt_init) := ⟨rfl, rfl, rfl, by decide +kernel, rfl, by decide +kernel, by decide +kernel⟩
abbrev s_Doubt_eq : Stmt := inClass (top 31) 1
def N_Doubt_eq : List Str := ["self", "other"]
theorem sc_Doubt_eq : FnScope N_Doubt_eq ["self", "other"] (defScope s_Doubt_eq) := ⟨rfl, rfl, rfl, by decide +kernel, rfl, by decide +kernel, by decide +kernel⟩
abbrev s_outer_values : Stmt := top 32
def N_outer_values : List Str := ["low", "high"]
theorem sc_outer_values : FnScope N_outer_values ["low", "high"] (defScope s_outer_values) := ⟨rfl, rfl, rfl, by decide +kernel, rfl, by decide +kernel, by decide +kernel⟩
abbrev s_outer_gates : Stmt := top 33
def N_outer_gates : List Str := ["loose", "factor", "amount"]
theorem sc_outer_gates : FnScope N_outer_gates ["loose"] (defScope s_outer_gates) := ⟨rfl, rfl, rfl, by decide +kernel, rfl, by decide +kernel, by decide +kernel⟩
abbrev s_corners : Stmt := top 34
def N_corners : List Str := ["some", "found", "loose", "outer", "corner", "gate"]
theorem sc_corners : FnScope N_corners ["some"] (defScope s_corners) := ⟨rfl, rfl, rfl, by decide +kernel, rfl, by decide +kernel, by decide +kernel⟩
abbrev s_spread_of : Stmt := top 35
def N_spread_of : List Str := ["some", "worth_at", "valued", "low", "high", "found", "corner"]
theorem sc_spread_of : FnScope N_spread_of ["some", "worth_at"] (defScope s_spread_of) := ⟨rfl, rfl, rfl, by decide +kernel, rfl, by decide +kernel, by decide +kernel⟩
abbrev s_spread : Stmt := top 36
def N_spread : List Str := ["some", "order", "x"]
theorem sc_spread : FnScope N_spread ["some", "order", "x"] (defScope s_spread) := ⟨rfl, rfl, rfl, by decide +kernel, rfl, by decide +kernel, by decide +kernel⟩
abbrev s_Solved_init : Stmt := inClass (top 38) 0
def N_Solved_init : List Str := ["self", "line", "order"]
theorem sc_Solved_init : FnScope N_Solved_init ["self", "line", "order"] (defScope s_Solved_init) := ⟨rfl, rfl, rfl, by decide +kernel, rfl, by decide +kernel, by decide +kernel⟩
abbrev s_Solved_eq : Stmt := inClass (top 38) 1
def N_Solved_eq : List Str := ["self", "other"]
theorem sc_Solved_eq : FnScope N_Solved_eq ["self", "other"] (defScope s_Solved_eq) := ⟨rfl, rfl, rfl, by decide +kernel, rfl, by decide +kernel, by decide +kernel⟩
abbrev s__law_cell : Stmt := top 40
def N__law_cell : List Str := ["_law_script", "_law_index"]
theorem sc__law_cell : FnScope N__law_cell ["_law_script", "_law_index"] (defScope s__law_cell) := ⟨rfl, rfl, rfl, by decide +kernel, rfl, by decide +kernel, by decide +kernel⟩
abbrev s__law_rng : Stmt := top 41
def N__law_rng : List Str := ["_law_cell_here"]
theorem sc__law_rng : FnScope N__law_rng ["_law_cell_here"] (defScope s__law_rng) := ⟨rfl, rfl, rfl, by decide +kernel, rfl, by decide +kernel, by decide +kernel⟩
abbrev s__law_draw : Stmt := top 42
def N__law_draw : List Str := ["_law_rng_here", "_law_limit", "_law_digit", "_law_mixed"]
theorem sc__law_draw : FnScope N__law_draw ["_law_rng_here", "_law_limit"] (defScope s__law_draw) := ⟨rfl, rfl, rfl, by decide +kernel, rfl, by decide +kernel, by decide +kernel⟩
abbrev s__law_pick : Stmt := top 43
def N__law_pick : List Str := ["_law_rng_here", "_law_items"]
theorem sc__law_pick : FnScope N__law_pick ["_law_rng_here", "_law_items"] (defScope s__law_pick) := ⟨rfl, rfl, rfl, by decide +kernel, rfl, by decide +kernel, by decide +kernel⟩
abbrev s__law_fraction : Stmt := top 44
def N__law_fraction : List Str := ["_law_top", "_law_bottom", "_law_one", "_law_other"]
theorem sc__law_fraction : FnScope N__law_fraction ["_law_top", "_law_bottom"] (defScope s__law_fraction) := ⟨rfl, rfl, rfl, by decide +kernel, rfl, by decide +kernel, by decide +kernel⟩
abbrev s__law_random_gate : Stmt := top 45
def N__law_random_gate : List Str := ["_law_rng_here", "_law_some", "_law_factor", "_law_amount"]
theorem sc__law_random_gate : FnScope N__law_random_gate ["_law_rng_here"] (defScope s__law_random_gate) := ⟨rfl, rfl, rfl, by decide +kernel, rfl, by decide +kernel, by decide +kernel⟩
abbrev s__law_made : Stmt := top 46
def N__law_made : List Str := ["_law_gates", "_law_factor", "_law_amount"]
theorem sc__law_made : FnScope N__law_made ["_law_gates"] (defScope s__law_made) := ⟨rfl, rfl, rfl, by decide +kernel, rfl, by decide +kernel, by decide +kernel⟩
abbrev s__law_less : Stmt := top 47
def N__law_less : List Str := ["_law_one", "_law_other"]
theorem sc__law_less : FnScope N__law_less ["_law_one", "_law_other"] (defScope s__law_less) := ⟨rfl, rfl, rfl, by decide +kernel, rfl, by decide +kernel, by decide +kernel⟩
abbrev s__law_loose_holds : Stmt := top 48
def N__law_loose_holds : List Str := ["_law_one", "_law_other", "_law_made_here", "_law_pairs", "_law_place", "_law_some", "_law_lower", "_law_upper", "_law_wider"]
theorem sc__law_loose_holds : FnScope N__law_loose_holds ["_law_one", "_law_other"] (defScope s__law_loose_holds) := ⟨rfl, rfl, rfl, by decide +kernel, rfl, by decide +kernel, by decide +kernel⟩
abbrev s__law_differ : Stmt := top 49
def N__law_differ : List Str := ["_law_make", "_law_facts", "_law_others", "_law_made_here", "_law_index", "_law_other"]
theorem sc__law_differ : FnScope N__law_differ ["_law_make", "_law_facts", "_law_others"] (defScope s__law_differ) := ⟨rfl, rfl, rfl, by decide +kernel, rfl, by decide +kernel, by decide +kernel⟩
abbrev s__law_results_hold : Stmt := top 50
def N__law_results_hold : List Str := ["_law_gates", "_law_first", "_law_second", "_law_spread_made", "_law_move", "_law_doubt", "_law_solved"]
theorem sc__law_results_hold : FnScope N__law_results_hold ["_law_gates"] (defScope s__law_results_hold) := ⟨rfl, rfl, rfl, by decide +kernel, rfl, by decide +kernel, by decide +kernel⟩
abbrev s__law_equality_holds : Stmt := top 51
def N__law_equality_holds : List Str := ["_law_gates", "_law_one", "_law_other", "_law_move", "_law_second", "_law_facts", "_law_others", "_law_lines"]
theorem sc__law_equality_holds : FnScope N__law_equality_holds ["_law_gates"] (defScope s__law_equality_holds) := ⟨rfl, rfl, rfl, by decide +kernel, rfl, by decide +kernel, by decide +kernel⟩
abbrev s_law : Stmt := top 52
def N_law : List Str := ["_law_script", "_law_cell_here", "_law_rng_here", "_law_one", "_law_other", "_law_gates", "_law_expected"]
theorem sc_law : FnScope N_law ["_law_script"] (defScope s_law) := ⟨rfl, rfl, rfl, by decide +kernel, rfl, by decide +kernel, by decide +kernel⟩
/-! lowest -/
section
variable {P : Program} {w : World} {K : PySem.W.Frag} {mg : Str → Option Value} {base : Heap} {R : Rp}
theorem ok_gcd (A : DefAt K mg "common_divisor" s_common_divisor ["one", "other"]) : DefG P w K mg base 1 "common_divisor" ["one", "other"] spGcd := by
  obtain ⟨f, fd, F, hm, hb⟩ := A.ex
  refine ⟨f, fd, okN F sc_common_divisor (fun vs H Q E h => ?_) fun X H vs Q E hX hr tk h => ?_, hm, F.kp, hb⟩
  · obtain ⟨a, b, rfl, _⟩ := h
    rfl
  · obtain ⟨cdv, A, outer, s, rfl⟩ := hX
    have hN := sc_common_divisor.nd
    obtain ⟨a, b, rfl, hb, q⟩ := h
    refine bCons (sWhile (fun m σ H' => ∃ x y : Int, σ = [some (.int x), some (.int y)] ∧ H' = H ∧ Int.gcd x y = Int.gcd a b ∧ 0 ≤ y ∧ (y = 0 → 0 ≤ x) ∧ m = y.natAbs) b.natAbs ⟨a, b, rfl, rfl, rfl, by omega, by omega, rfl⟩ ?_)
    rintro m σ H' ⟨x, y, rfl, rfl, g, h1, h2, rfl⟩
    refine tTru (eV 1 rfl ⟨_, rfl, ?_⟩)
    by_cases hy : y = 0
    · subst hy
      refine iteF ?_
      refine bOne (sRet (eV 0 rfl ?_))
      have e : (Int.gcd a b : Int) = x := by
        rw [← g, Int.gcd_zero_right]
        have := h2 rfl
        omega
      rw [e] at q
      exact q
    · have e : (y != 0) = true := by simpa using hy
      rw [e]
      refine iteT ?_
      refine bOne (sPar 0 1 (aCons (eV 1 rfl (aCons (eOp op_mod (eV 0 rfl (eV 1 rfl ⟨_, _, rfl, rfl, (by omega), aNil ⟨_, _, rfl, ?_⟩⟩)))))))
      have l1 : 0 ≤ x % y := Int.emod_nonneg _ hy
      have l2 : x % y < y := Int.emod_lt_of_pos _ (by omega)
      exact ⟨(x % y).natAbs, by omega, y, x % y, rfl, rfl, (gcd_step x y).trans g, l1, fun _ => by omega, rfl⟩
theorem ok_low (hK : R.K = K) (A : DefAt K mg "lowest" s_lowest ["fraction"]) (G1 : DefG P w K mg base 1 "common_divisor" ["one", "other"] spGcd) : DefG P w K mg base 2 "lowest" ["fraction"] (spLow R) := by
  subst hK
  obtain ⟨f, fd, F, hm, hb⟩ := A.ex
  refine ⟨f, fd, okN F sc_lowest (fun vs H Q E h => ?_) fun X H vs Q E hX hr tk h => ?_, hm, F.kp, hb⟩
  · obtain ⟨S, v, p, q, n, rfl, _⟩ := h
    rfl
  · obtain ⟨cdv, A, outer, s, rfl⟩ := hX
    have hN := sc_lowest.nd
    obtain ⟨S, v, p, q, n, rfl, hS, hv, hq, pn, qn, hn, k⟩ := h
    refine bCons (sAsg (eV 0 rfl (gP hv (gsCons (gN 1 (gsCons (gN 2 (gsNil ?_))))))))
    · refine bCons (sSet 3 (eCall G1 hr tk (aCons (eV 1 rfl (aCons (eV 2 rfl (aNil ⟨p, q, rfl, hq, ?_⟩)))))))
      have gp := gcd_pos (p := p) hq
      have gl := gcd_le (p := p) hq
      have dv : ∀ z : Int, CDivW z (Int.gcd p q : Int) := fun z => ⟨gp, Nat.lt_of_lt_of_le (log2_small (show (Int.gcd p q : Int).natAbs < 2 ^ n by omega) (by omega)) hn⟩
      refine bOne (sRet (eTup (aCons (eOp op_fdivW (eV 1 rfl (eV 3 rfl ⟨_, _, rfl, rfl, dv _, ?_⟩))))))
      refine aCons (eOp op_fdivW (eV 2 rfl (eV 3 rfl ⟨_, _, rfl, rfl, dv _, aNil ⟨by show 2 ≤ sizeLine; decide, fun t ht => ?_⟩⟩)))
      refine k _ _ (same_new ht) ?_ (mkQ_sz hq pn qn)
      unfold frac
      rw [mkQ_num hq, mkQ_den hq]
      exact Is.newT hS ht (IsA.ints (is := [_, _]))
end
/-! gate -/
section
variable {P : Program} {w : World} {K : PySem.W.Frag} {mg : Str → Option Value} {base : Heap} {R : Rp}
theorem ok_bci {C : Addr} (A : ErrI K mg "BadCount" "BadCount.__init__" C s_BadCount_init ["self", "what", "count"]) (n1 : PySem.W.findIn K (.ref C) "what" = some none) (n2 : PySem.W.findIn K (.ref C) "count" = some none) :
    ErrG P w K mg base 1 "BadCount" C ["self", "what", "count"] (spErr2 "what" "count" C) := by
  obtain ⟨er, f, fd, iC, tI, F, hb⟩ := A
  refine ⟨er, f, fd, iC, tI, okN F sc_BadCount_init (fun vs H Q E h => ?_) fun X H vs Q E hX hr tk h => ?_, hb⟩
  · obtain ⟨a, v, u, rfl, _⟩ := h
    rfl
  · obtain ⟨cdv, A, outer, s, rfl⟩ := hX
    obtain ⟨a, v, u, rfl, ha, k⟩ := h
    refine bCons (sOst (eV 1 rfl (eV 0 rfl ⟨a, C, rfl, er.ox, n1, .inl ⟨ha, fun dx hd hne => ?_⟩⟩)))
    refine bOne (sOst (eV 2 rfl (eV 0 rfl ⟨a, C, rfl, er.ox, n2, .inr ⟨dx, _, upd_same, by rw [upd_ne hne, upd_same], by show 1 ≤ 900; decide, k dx hd hne⟩⟩)))
theorem ok_chk {C : Addr} (hK : R.K = K) (A : DefAt K mg "check_fraction" s_check_fraction ["fraction"]) (mgN : mg "GREATEST_NUMBER" = some (.int 1000000 0) ∨ ∃ t, mg "GREATEST_NUMBER" = some (.int 1000000 t)) (GE : ErrG P w K mg base 1 "BadCount" C ["self", "what", "count"] (spErr2 "what" "count" C)) :
    DefG P w K mg base 3 "check_fraction" ["fraction"] (spChk R C) := by
  subst hK
  obtain ⟨f, fd, F, hm, hb⟩ := A.ex
  have gN : ∃ t, mg "GREATEST_NUMBER" = some (.int 1000000 t) := by
    rcases mgN with z | z
    · exact ⟨_, z⟩
    · exact z
  obtain ⟨tn, gN⟩ := gN
  refine ⟨f, fd, okR F sc_check_fraction (fun vs H Q E h => ?_) fun X H vs Q E hX hr tk po h => ?_, hm, F.kp, hb⟩
  · obtain ⟨S, v, p, q, rfl, _⟩ := h
    rfl
  · obtain ⟨cdv, A, outer, s, rfl⟩ := hX
    have hN := sc_check_fraction.nd
    obtain ⟨S, v, p, q, rfl, hS, hv, kE, kQ⟩ := h
    refine bCons (sAsg (eV 0 rfl (gP hv (gsCons (BR.gN 1 (gsCons (BR.gN 2 (gsNil ?_))))))))
    · refine bCons (sIf (tCmp op_lt (eV 2 rfl (eI ⟨_, _, rfl, rfl, _, rfl, ?_⟩))))
      by_cases hq : q < 1
      · rw [decide_eq_true hq]
        refine iteT (bOne ?_)
        refine raise2 GE hr tk (aCons (eStr (aCons (eV 2 rfl (aNil ⟨_, _, rfl, ?_⟩)))))
        exact kE "bottom" q (by unfold dueF; rw [if_pos hq])
      · rw [decide_eq_false hq]
        refine iteF (bNil ?_)
        refine bOne (sFor (hp := po) (iT (eTup (aCons (eV 1 rfl (aCons (eV 2 rfl (aNil ⟨by show 2 ≤ sizeLine; decide, fun t ht => ?_⟩))))))))
        refine ⟨t, rfl, ⟨_, SqT.of upd_same⟩, 2, _, _, walk_tup (xs := [.int p, .int q]), fun i σ H' => (∃ a b c d, σ = [a, b, c, d]) ∧ Same H H' ∧ H' t = some (.tup [.int p, .int q]) ∧ (0 < i → -1000000 ≤ p ∧ p ≤ 1000000) ∧ (1 < i → -1000000 ≤ q ∧ q ≤ 1000000), ?_, ?_, ?_, ?_⟩
        · exact ⟨⟨_, _, _, _, rfl⟩, same_new ht, upd_same, by omega, by omega⟩
        · rintro i σ H' hi ⟨_, _, h, _⟩
          exact SqT.of h
        · rintro i x σ H' H2 hi ⟨⟨a, b, c, d, rfl⟩, s1, h1, h2, h3⟩ ⟨rfl, hx⟩
          have hx' : ∃ n : Int, x = .int n ∧ [p, q][i]? = some n := by
            have e : ([V.int p, V.int q] : List V) = [p, q].map V.int := rfl
            rw [e, List.getElem?_map] at hx
            cases z : [p, q][i]? with
            | none => rw [z] at hx; cases hx
            | some n => rw [z] at hx; cases hx; exact ⟨n, rfl, rfl⟩
          obtain ⟨n, rfl, hn⟩ := hx'
          refine BR.gN 3 (bOne (sIf (tNot (tChain op_le op_le (eUn un_neg (eGl (v := .int 1000000) gN ⟨_, rfl⟩ ⟨_, rfl, eV 3 rfl ⟨_, _, rfl, rfl, _, rfl, ?_⟩⟩))))))
          have bad : ¬ (-1000000 ≤ n ∧ n ≤ 1000000) → ∀ (t : Str), t = "number" → Gone "what" "count" C H2 (.str t) (.int n) E := fun z t et d H3 s3 hd he => by
            subst et
            refine kE "number" n ?_ d H3 (s1.trans s3) (s1.free hd) he
            unfold dueF
            rw [if_neg hq]
            match i, hi, hn with
            | 0, _, hn =>
              have e : p = n := Option.some.inj hn
              rw [e, if_pos z]
            | 1, _, hn =>
              have e : q = n := Option.some.inj hn
              rw [if_neg (by have := h2 (by omega); simpa using this), e, if_pos z]
          by_cases c1 : (-1000000 : Int) ≤ n
          · have : decide ((-1000000 : Int) ≤ n) = true := decide_eq_true c1
            rw [this]
            refine iteT (eGl (v := .int 1000000) gN ⟨_, rfl⟩ ⟨_, _, rfl, rfl, _, rfl, ?_⟩)
            by_cases c2 : n ≤ 1000000
            · rw [decide_eq_true c2]
              refine iteF (bNil ⟨⟨_, _, _, _, rfl⟩, s1, h1, ?_, ?_⟩)
              · intro _
                match i, hi, hn with
                | 0, _, hn =>
                  have e : p = n := Option.some.inj hn
                  omega
                | 1, _, _ => exact h2 (by omega)
              · intro z
                match i, hi, hn with
                | 0, _, _ => omega
                | 1, _, hn =>
                  have e : q = n := Option.some.inj hn
                  omega
            · rw [decide_eq_false c2]
              refine iteT (bOne (raise2 GE hr tk (aCons (eStr (aCons (eV 3 rfl (aNil ⟨_, _, rfl, ?_⟩)))))))
              exact bad (by omega) _ rfl
          · have : decide ((-1000000 : Int) ≤ n) = false := decide_eq_false c1
            rw [this]
            refine iteF ⟨_, rfl, iteT (bOne (raise2 GE hr tk (aCons (eStr (aCons (eV 3 rfl (aNil ⟨_, _, rfl, ?_⟩)))))))⟩
            exact bad (by omega) _ rfl
        · rintro σ H' ⟨_, s1, _, h2, h3⟩
          refine kQ ?_ H' s1
          unfold dueF
          rw [if_neg hq, if_neg (by have := h2 (by omega); simpa using this), if_neg (by have := h3 (by omega); simpa using this)]
theorem ok_gate {C CE : Addr} (hK : R.K = K) (hC : R.CA "Gate" = C) (A : InitAt K mg "Gate" "Gate.__init__" C s_Gate_init ["self", "factor", "amount"]) (c : Cls K C) (n1 : NoAttr K C "factor") (n2 : NoAttr K C "amount")
    (G1 : DefG P w K mg base 3 "check_fraction" ["fraction"] (spChk R CE)) (G2 : DefG P w K mg base 2 "lowest" ["fraction"] (spLow R)) (GE : ErrG P w K mg base 1 "BadCount" CE ["self", "what", "count"] (spErr2 "what" "count" CE)) :
    MakeG P w K mg base 4 "Gate" C ["self", "factor", "amount"] (spGate R CE) := by
  subst hK
  subst hC
  obtain ⟨f, fd, M, F, hm, hb⟩ := A.ex
  refine ⟨f, fd, M, okR F sc_Gate_init (fun vs H Q E h => ?_) fun X H vs Q E hX hr tk po h => ?_, hm, hb⟩
  · obtain ⟨S, H0, n, dx, x, y, p, q, a, b, rfl, _⟩ := h
    rfl
  · obtain ⟨cdv, A, outer, s, rfl⟩ := hX
    have hN := sc_Gate_init.nd
    obtain ⟨S, H0, n, dx, x, y, p, q, a, b, rfl, s0, n0, hn, l0, hx, hy, kE, kQ⟩ := h
    have l1 : Live S H := l0.up s0
    refine bCons <| sExpr <| eCall G1 hr tk <| aCons <| eV 1 rfl <| aNil ⟨S, x, p, q, rfl, l1, hx.up s0, fun t k e => (kE t k (by unfold dueG; rw [e]; rfl)).same s0, fun e1 H1 s1 => ?_⟩
    refine bCons <| sExpr <| eCall G1 hr tk <| aCons <| eV 2 rfl <| aNil ⟨S, y, a, b, rfl, l1.up s1, hy.up (s0.trans s1), fun t k e => (kE t k (by unfold dueG; rw [e1, e]; rfl)).same (s0.trans s1), fun e2 H2 s2 => ?_⟩
    have s02 := s0.trans (s1.trans s2)
    refine bCons <| sIf <| tCmp op_lt <| eIx ix_seq <| eV 1 rfl <| eI <| ixP (i := 0) (hx.up s02) rfl <| eI ⟨_, _, rfl, rfl, _, rfl, ?_⟩
    by_cases c1 : p < 1
    · rw [decide_eq_true c1]
      refine iteT <| bOne <| raise2 GE hr tk <| aCons <| eStr <| aCons <| eIx ix_seq <| eV 1 rfl <| eI <| ixP (i := 0) (hx.up s02) rfl <| aNil ⟨_, _, rfl, ?_⟩
      exact (kE "factor" p (by unfold dueG; rw [e1, e2]; simp [c1])).same s02
    · rw [decide_eq_false c1]
      refine iteF <| bNil ?_
      obtain ⟨b1, b2, b3, b4⟩ := dueF_none e1
      obtain ⟨d1, d2, d3, d4⟩ := dueF_none e2
      have t20 : (2 : Nat) ^ 20 = 1048576 := by decide
      refine bCons <| sFld <| eCall G2 hr tk <| aCons <| eV 1 rfl <| aNil ⟨S, x, p, q, 20, rfl, l0.up s02, hx.up s02, by omega, by omega, by omega, by omega, fun v3 H3 s3 f3 z3 => ?_⟩
      have hn3 : H3 n = some (.ins (R.CA "Gate") dx []) := s3 _ _ (s2 _ _ (s1 _ _ hn))
      refine eV 0 rfl ⟨n, _, dx, [], rfl, hn3, c, n1, by show 0 < 1000; decide, ?_⟩
      have s04 : Same H0 (upd H3 n (.ins (R.CA "Gate") dx (putF "factor" v3 []))) := fun b o e => by
        rw [upd_ne (ne_of_none e n0)]
        exact s3 _ _ (s02 _ _ e)
      have f4 := Is.kpI (kpI_upd (C' := R.CA "Gate") (dx' := dx) (fs' := putF "factor" v3 []) hn3) f3 rfl
      refine bOne <| sFld <| eCall G2 hr tk <| aCons <| eV 2 rfl <| aNil ⟨S, y, a, b, 20, rfl, l0.up s04, hy.up s04, by omega, by omega, by omega, by omega, fun v5 H5 s5 f5 z5 => ?_⟩
      have hn5 : H5 n = some (.ins (R.CA "Gate") dx (putF "factor" v3 [])) := s5 _ _ upd_same
      refine eV 0 rfl ⟨n, _, dx, _, rfl, hn5, c, n2, by show 1 < 1000; decide, ?_⟩
      refine kQ (by unfold dueG; rw [e1, e2]; simp [c1]) _ ?_ ?_ z3 z5 (mkQ_pos (by omega) (by omega))
      · intro b o e
        rw [upd_ne (ne_of_none e n0)]
        exact s5 _ _ (s04 _ _ e)
      · refine .obj (l0.new n0) upd_same ?_
        have ep : putF "amount" v5 (putF "factor" v3 []) = ([("factor", v3), ("amount", v5)] : List (Str × V)) := by
          show (if ("factor" : Str) = "amount" then _ else _) = _
          rw [if_neg (by decide +kernel)]
          rfl
        rw [ep]
        have k6 := kpI_upd (C' := R.CA "Gate") (dx' := dx) (fs' := ([("factor", v3), ("amount", v5)] : List (Str × V))) hn5
        exact .cons (Is.kpI k6 (f4.up s5) rfl) (.cons (Is.kpI k6 f5 rfl) .nil)
end
/-! drawC -/
section
variable {P : Program} {w : World} {K : PySem.W.Frag} {mg : Str → Option Value} {base : Heap} {R : Rp}
theorem ok_rng (A : DefAt K mg "_law_rng" s__law_rng ["_law_cell_here"]) (mA : mg "abs" = none) : DefG P w K mg base 1 "_law_rng" ["_law_cell_here"] spSource := by
  obtain ⟨f, fd, F, hm, hb⟩ := A.ex
  refine ⟨f, fd, okN F sc__law_rng (fun vs H Q E h => ?_) fun X H vs Q E hX hr tk h => ?_, hm, F.kp, hb⟩
  · obtain ⟨n, rfl, _⟩ := h
    rfl
  · obtain ⟨cdv, A, outer, s, rfl⟩ := hX
    obtain ⟨n, rfl, k⟩ := h
    refine bOne <| sRet <| eLst <| aCons <| eCB call_abs mA <| aCons <| eV 0 rfl <| aNil ⟨_, rfl, ?_⟩
    refine aCons <| eOp op_mod <| eV 0 rfl <| eI ⟨_, _, rfl, rfl, by show (0 : Int) < 2147483629; decide, ?_⟩
    refine aCons <| eI <| aNil ⟨by show 3 ≤ sizeLine; decide, fun p hp => k p _ (same_new hp) hp ?_⟩
    have m0 : 0 ≤ n % 2147483629 := Int.emod_nonneg _ (by decide)
    have m1 : n % 2147483629 < 2147483629 := Int.emod_lt_of_pos _ (by decide)
    refine ⟨if n < 0 then -n else n, ⟨(n % 2147483629).toNat, by omega⟩, 0, ?_⟩
    show _ = some (HO.lst [_, .int (((n % 2147483629).toNat : Nat) : Int), _])
    rw [Int.toNat_of_nonneg m0]
    exact upd_same
theorem ok_drawC (hK : R.K = K) (A : DefAt K mg "_law_draw" s__law_draw ["_law_rng_here", "_law_limit"]) : DefG P w K mg base 1 "_law_draw" ["_law_rng_here", "_law_limit"] spDraw := by
  subst hK
  obtain ⟨f, fd, F, hm, hb⟩ := A.ex
  refine ⟨f, fd, okN F sc__law_draw (fun vs H Q E h => ?_) fun X H vs Q E hX hr tk h => ?_, hm, F.kp, hb⟩
  · obtain ⟨s, n, rfl, _⟩ := h
    rfl
  · obtain ⟨cdv, A, outer, sh, rfl⟩ := hX
    have hN := sc__law_draw.nd
    obtain ⟨s, n, rfl, hs, hn, hl, k⟩ := h
    obtain ⟨a, bF, c, e⟩ := id hs
    obtain ⟨b, hbF⟩ : ∃ b : Int, b = (bF.val : Nat) := ⟨_, rfl⟩
    rw [← hbF] at e
    have ix : ∀ {H : Hp} {Q : VK} {xs : List V} {i : Nat} {j : Int}, H s = some (.lst xs) → xs[i]? = some (.int j) → Q (.int j) H → rIx R.K (.ref s) (.int (i : Nat)) H Q := fun h1 h2 q => .inl ⟨s, _, _, _, rfl, rfl, SqL.of h1, atI_nat h2, q⟩
    refine bCons <| sIf <| tCmp op_ge <| eIx ix_seq <| eV 0 rfl <| eI <| ix (i := 0) e rfl <| eOp op_pow <| eI <| eI ⟨_, _, rfl, rfl, ⟨by decide, by decide, by decide⟩, _, _, rfl, rfl, _, rfl, ?_⟩
    refine ite2 (fun c1 => ?_) (fun c1 => ?_)
    · refine bCons <| sSet 2 <| eOp op_mod <| eIx ix_seq <| eV 0 rfl <| eI <| ix (i := 0) e rfl <| eV 1 rfl ⟨_, _, rfl, rfl, hn, ?_⟩
      refine bCons <| sAsg <| eOp op_fdivW <| eIx ix_seq <| eV 0 rfl <| eI <| ix (i := 0) e rfl <| eV 1 rfl ⟨_, _, rfl, rfl, ⟨hn, hl⟩, ?_⟩
      refine gSb set_list <| eV 0 rfl <| eI ⟨s, _, 0, 0, rfl, rfl, e, rfl, ?_⟩
      exact bOne <| sRet <| eV 2 rfl <| k _ _ (hbF ▸ Dr.upd hs _ bF _) (Int.emod_nonneg _ (by omega)) (Int.emod_lt_of_pos _ hn)
    · refine bNil <| bCons <| sAsg <| eOp op_add <| eIx ix_seq <| eV 0 rfl <| eI <| ix (i := 2) e rfl <| eI ⟨_, _, rfl, rfl, ?_⟩
      refine gSb set_list <| eV 0 rfl <| eI ⟨s, _, 2, 2, rfl, rfl, e, rfl, ?_⟩
      have e2 : upd H s (.lst ([V.int a, V.int b, V.int c].set 2 (.int (c + 1)))) s = some (.lst [.int a, .int b, .int (c + 1)]) := upd_same
      refine bCons <| sSet 3 <| eOp op_mod <| eOp op_mul <| eOp op_add <| eOp op_add <| eIx ix_seq <| eV 0 rfl <| eI <| ix (i := 1) e2 rfl <| eOp op_mul <| eI <| eIx ix_seq <| eV 0 rfl <| eI <| ix (i := 2) e2 rfl ⟨_, _, rfl, rfl, .inl (by decide), _, _, rfl, rfl, ?_⟩
      refine eI ⟨_, _, rfl, rfl, eI ⟨_, _, rfl, rfl, .inr (by decide), eI ⟨_, _, rfl, rfl, by show (0 : Int) < 2147483647; decide, ?_⟩⟩⟩
      have m0 : 0 ≤ (b + 7919 * (c + 1) + 1) * 48271 % 2147483647 := Int.emod_nonneg _ (by decide)
      have m1 : (b + 7919 * (c + 1) + 1) * 48271 % 2147483647 < 2147483647 := Int.emod_lt_of_pos _ (by decide)
      generalize hm : (b + 7919 * (c + 1) + 1) * 48271 % 2147483647 = m at m0 m1 ⊢
      refine bCons <| sSet 3 <| eOp op_mod <| eOp op_mul <| eV 3 rfl <| eOp op_add <| eOp op_fdiv <| eV 3 rfl <| eI ⟨_, _, rfl, rfl, ⟨by decide, by decide⟩, eI ⟨_, _, rfl, rfl, _, _, rfl, rfl, .inl ⟨by omega, by omega⟩, eI ⟨_, _, rfl, rfl, by show (0 : Int) < 2147483587; decide, ?_⟩⟩⟩
      refine bOne <| sRet <| eOp op_mod <| eOp op_mod <| eOp op_add <| eOp op_fdiv <| eV 3 rfl <| eI ⟨_, _, rfl, rfl, ⟨by decide, by decide⟩, ?_⟩
      refine eOp op_mul <| eOp op_mod <| eV 3 rfl <| eI ⟨_, _, rfl, rfl, by show (0 : Int) < 7919; decide, eI ⟨_, _, rfl, rfl, .inr (by decide), _, _, rfl, rfl, eI ⟨_, _, rfl, rfl, by show (0 : Int) < 2147483399; decide, eV 1 rfl ⟨_, _, rfl, rfl, hn, ?_⟩⟩⟩⟩
      exact k _ _ (hbF ▸ Dr.upd hs _ bF _) (Int.emod_nonneg _ (by omega)) (Int.emod_lt_of_pos _ hn)
theorem ok_pickC (hK : R.K = K) (A : DefAt K mg "_law_pick" s__law_pick ["_law_rng_here", "_law_items"]) (mL : mg "len" = none) (G1 : DefG P w K mg base 1 "_law_draw" ["_law_rng_here", "_law_limit"] spDraw) :
    DefG P w K mg base 2 "_law_pick" ["_law_rng_here", "_law_items"] (spPick R) := by
  subst hK
  obtain ⟨f, fd, F, hm, hb⟩ := A.ex
  refine ⟨f, fd, okN F sc__law_pick (fun vs H Q E h => ?_) fun X H vs Q E hX hr tk h => ?_, hm, F.kp, hb⟩
  · obtain ⟨s, l, ds, rfl, _⟩ := h
    rfl
  · obtain ⟨cdv, A, outer, sh, rfl⟩ := hX
    obtain ⟨s, l, ds, rfl, hs, hl, h0, h1, k⟩ := h
    obtain ⟨a, xs, rfl, _, ea, ia⟩ := id hl.lstE
    have hx := ia.len
    refine bOne <| sRet <| eIx ix_seq <| eV 1 rfl <| eCall G1 hr tk <| aCons <| eV 0 rfl <| aCons <| eCB call_len_seq mL <| aCons <| eV 1 rfl <| aNil ⟨a, xs, rfl, .inl (SqL.of ea), ?_⟩
    refine aNil ⟨s, _, rfl, hs, by omega, ?_, fun r H' d r0 r1 => ?_⟩
    · have : ((xs.length : Int)).natAbs ≤ 1000 := by omega
      exact Nat.lt_of_le_of_lt (Nat.log2_le_self _) (by omega)
    · have e : r = ((r.toNat : Nat) : Int) := by omega
      have hi : r.toNat < ds.length := by omega
      rw [e]
      exact ixD (hl.dr d) rfl (List.getElem?_eq_getElem hi) fun x ix => k r.toNat _ x H' d (List.getElem?_eq_getElem hi) ix
end
/-! lowC -/
section
variable {P : Program} {w : World} {K : PySem.W.Frag} {mg : Str → Option Value} {base : Heap} {R : Rp}
theorem ok_lowC (hK : R.K = K) (A : DefAt K mg "_law_fraction" s__law_fraction ["_law_top", "_law_bottom"]) (mA : mg "abs" = none) : DefG P w K mg base 1 "_law_fraction" ["_law_top", "_law_bottom"] (spLow2 R) := by
  subst hK
  obtain ⟨f, fd, F, hm, hb⟩ := A.ex
  refine ⟨f, fd, okN F sc__law_fraction (fun vs H Q E h => ?_) fun X H vs Q E hX hr tk h => ?_, hm, F.kp, hb⟩
  · obtain ⟨S, a, b, n, rfl, _⟩ := h
    rfl
  · obtain ⟨cdv, A, outer, s, rfl⟩ := hX
    have hN := sc__law_fraction.nd
    obtain ⟨S, a, b, n, rfl, hS, b0, an, bn, h9, k⟩ := h
    refine bCons <| sPar 2 3 <| aCons <| eCB call_abs mA <| aCons <| eV 0 rfl <| aNil ⟨_, rfl, aCons <| eCB call_abs mA <| aCons <| eV 1 rfl <| aNil ⟨_, rfl, aNil ⟨_, _, rfl, ?_⟩⟩⟩
    rw [if_neg (show ¬ b < 0 by omega)]
    refine bCons (sWhile (fun m σ H' => ∃ x y : Int, σ = [some (.int a), some (.int b), some (.int x), some (.int y)] ∧ H' = H ∧ Int.gcd x y = Int.gcd a b ∧ 0 ≤ y ∧ 0 ≤ x ∧ m = y.natAbs) b.natAbs ⟨_, b, rfl, rfl, ?_, by omega, ?_, rfl⟩ ?_)
    · split
      · rw [Int.neg_gcd]
      · rfl
    · split <;> omega
    rintro m σ H' ⟨x, y, rfl, rfl, g, h1, h2, rfl⟩
    refine tCmp op_gt <| eV 3 rfl <| eI ⟨_, _, rfl, rfl, _, rfl, ?_⟩
    by_cases hy : 0 < y
    · rw [decide_eq_true hy]
      refine iteT <| bOne <| sPar 2 3 <| aCons <| eV 3 rfl <| aCons <| eOp op_mod <| eV 2 rfl <| eV 3 rfl ⟨_, _, rfl, rfl, hy, aNil ⟨_, _, rfl, ?_⟩⟩
      have l1 : 0 ≤ x % y := Int.emod_nonneg _ (by omega)
      have l2 : x % y < y := Int.emod_lt_of_pos _ hy
      exact ⟨(x % y).natAbs, by omega, y, x % y, rfl, rfl, (gcd_step x y).trans g, l1, h1, rfl⟩
    · rw [decide_eq_false hy]
      have y0 : y = 0 := by omega
      subst y0
      have e : x = (Int.gcd a b : Int) := by
        rw [← g, Int.gcd_zero_right]
        omega
      subst e
      have gp := gcd_pos (p := a) b0
      have gl := gcd_le (p := a) b0
      have dv : ∀ z : Int, CDivW z (Int.gcd a b : Int) := fun z => ⟨gp, Nat.lt_of_lt_of_le (log2_small (show (Int.gcd a b : Int).natAbs < 2 ^ n by omega) (by omega)) h9⟩
      refine iteF <| bOne <| sRet <| eTup <| aCons <| eOp op_fdivW <| eV 0 rfl <| eV 2 rfl ⟨_, _, rfl, rfl, dv _, ?_⟩
      refine aCons <| eOp op_fdivW <| eV 1 rfl <| eV 2 rfl ⟨_, _, rfl, rfl, dv _, aNil ⟨by show 2 ≤ sizeLine; decide, fun t ht => ?_⟩⟩
      refine k _ _ (same_new ht) ?_ (mkQ_sz b0 an bn)
      unfold frac
      rw [mkQ_num b0, mkQ_den b0]
      exact Is.newT hS ht (IsA.ints (is := [_, _]))
end
end BR

namespace BR
open PySem PySem.Spec PyProof.Rows L2
section
variable {P : Program} {w : World} {K : PySem.W.Frag} {mg : Str → Option Value} {base : Heap} {R : Rp}
theorem ok_belowP (hK : R.K = K) (A : DefAt K mg "below" s_below ["one", "other"]) : DefG P w K mg base 1 "below" ["one", "other"] (spBelow R) := by
  subst hK
  obtain ⟨f, fd, F, hm, hb⟩ := A.ex
  refine ⟨f, fd, okN F sc_below (fun vs H Q E h => ?_) fun X H vs Q E hX hr tk h => ?_, hm, F.kp, hb⟩
  · obtain ⟨S, v, u, n, r, t, rfl, _⟩ := h
    rfl
  · obtain ⟨cdv, A, outer, sh, rfl⟩ := hX
    obtain ⟨S, v, u, n, r, t, rfl, hv, hu, z1, z2, n0, n9, k⟩ := h
    refine bOne <| sRet <| eCmp op_lt <| eOp op_mulW <| eIx ix_seq <| eV 0 rfl <| eI <| ixP (i := 0) (.inl hv) rfl <| eIx ix_seq <| eV 1 rfl <| eI <| ixP (i := 1) (.inl hu) rfl ⟨_, _, rfl, rfl, mulW z1.num (show ((t.den : Int)).natAbs < 2 ^ n from z2.den) n0 n0 (by omega), ?_⟩
    refine eOp op_mulW <| eIx ix_seq <| eV 1 rfl <| eI <| ixP (i := 0) (.inl hu) rfl <| eIx ix_seq <| eV 0 rfl <| eI <| ixP (i := 1) (.inl hv) rfl ⟨_, _, rfl, rfl, mulW z2.num (show ((r.den : Int)).natAbs < 2 ^ n from z1.den) n0 n0 (by omega), _, _, rfl, rfl, ?_⟩
    have e : decide (r.num * (t.den : Int) < t.num * (r.den : Int)) = decide (r < t) := by
      by_cases c : r < t
      · rw [decide_eq_true c, decide_eq_true ((below_iff r t).mpr c)]
      · rw [decide_eq_false c, decide_eq_false (fun z => c ((below_iff r t).mp z))]
    rw [← e] at k
    exact k
end
section
variable {P : Program} {w : World} {K : PySem.W.Frag} {mg : Str → Option Value} {base : Heap} {R : Rp}
theorem ok_greater (hK : R.K = K) (A : DefAt K mg "greater" s_greater ["one", "other"]) (Gb : DefG P w K mg base 1 "below" ["one", "other"] (spBelow R)) (Gl : DefG P w K mg base 2 "lowest" ["fraction"] (spLow R)) : DefG P w K mg base 3 "greater" ["one", "other"] (spMax2 R maxR) := by
  subst hK
  obtain ⟨f, fd, F, hm, hb⟩ := A.ex
  refine ⟨f, fd, okN F sc_greater (fun vs H Q E h => ?_) fun X H vs Q E hX hr tk h => ?_, hm, F.kp, hb⟩
  · obtain ⟨S, v, u, n, r, t, rfl, _⟩ := h
    rfl
  · obtain ⟨cdv, A, outer, s, rfl⟩ := hX
    obtain ⟨S, v, u, n, r, t, rfl, hS, hv, hu, zr, zt, n0, n9, k⟩ := h
    refine bOne <| sRet <| eIf <| tVal <| eCall Gb hr tk <| aCons <| eV 0 rfl <| aCons <| eV 1 rfl <| aNil ⟨S, v, u, n, r, t, rfl, hv, hu, zr, zt, n0, n9, _, rfl, ?_⟩
    by_cases c : r < t
    · rw [decide_eq_true c]
      refine iteT <| eCall Gl hr tk <| aCons <| eV 1 rfl <| aNil ⟨S, u, t.num, t.den, n, rfl, hS, .inl hu, den_pos t, zt.num, zt.den, by omega, fun v' H' s' i' _ => k _ _ s' ?_⟩
      unfold maxR
      rw [if_pos c]
      rw [mkQ_self] at i'
      exact i'
    · rw [decide_eq_false c]
      refine iteF <| eCall Gl hr tk <| aCons <| eV 0 rfl <| aNil ⟨S, v, r.num, r.den, n, rfl, hS, .inl hv, den_pos r, zr.num, zr.den, by omega, fun v' H' s' i' _ => k _ _ s' ?_⟩
      unfold maxR
      rw [if_neg c]
      rw [mkQ_self] at i'
      exact i'
theorem ok_smaller (hK : R.K = K) (A : DefAt K mg "smaller" s_smaller ["one", "other"]) (Gb : DefG P w K mg base 1 "below" ["one", "other"] (spBelow R)) (Gl : DefG P w K mg base 2 "lowest" ["fraction"] (spLow R)) : DefG P w K mg base 3 "smaller" ["one", "other"] (spMax2 R minR) := by
  subst hK
  obtain ⟨f, fd, F, hm, hb⟩ := A.ex
  refine ⟨f, fd, okN F sc_smaller (fun vs H Q E h => ?_) fun X H vs Q E hX hr tk h => ?_, hm, F.kp, hb⟩
  · obtain ⟨S, v, u, n, r, t, rfl, _⟩ := h
    rfl
  · obtain ⟨cdv, A, outer, s, rfl⟩ := hX
    obtain ⟨S, v, u, n, r, t, rfl, hS, hv, hu, zr, zt, n0, n9, k⟩ := h
    refine bOne <| sRet <| eIf <| tVal <| eCall Gb hr tk <| aCons <| eV 1 rfl <| aCons <| eV 0 rfl <| aNil ⟨S, u, v, n, t, r, rfl, hu, hv, zt, zr, n0, n9, _, rfl, ?_⟩
    by_cases c : t < r
    · rw [decide_eq_true c]
      refine iteT <| eCall Gl hr tk <| aCons <| eV 1 rfl <| aNil ⟨S, u, t.num, t.den, n, rfl, hS, .inl hu, den_pos t, zt.num, zt.den, by omega, fun v' H' s' i' _ => k _ _ s' ?_⟩
      unfold minR
      rw [if_pos c]
      rw [mkQ_self] at i'
      exact i'
    · rw [decide_eq_false c]
      refine iteF <| eCall Gl hr tk <| aCons <| eV 0 rfl <| aNil ⟨S, v, r.num, r.den, n, rfl, hS, .inl hv, den_pos r, zr.num, zr.den, by omega, fun v' H' s' i' _ => k _ _ s' ?_⟩
      unfold minR
      rw [if_neg c]
      rw [mkQ_self] at i'
      exact i'
end
end BR

namespace BR
open PySem PySem.Spec PyProof.Rows L2
section
variable {P : Program} {w : World} {K : PySem.W.Frag} {mg : Str → Option Value} {base : Heap} {R : Rp}
theorem ok_chkL {C : Addr} (hK : R.K = K) (A : DefAt K mg "check_loose" s_check_loose ["some"]) (mM : ∃ t, mg "MOST_LOOSE" = some (.int 4 t)) (mL : mg "len" = none) (GE : ErrG P w K mg base 1 "BadCount" C ["self", "what", "count"] (spErr2 "what" "count" C)) :
    DefG P w K mg base 3 "check_loose" ["some"] (spChkL R C) := by
  subst hK
  obtain ⟨f, fd, F, hm, hb⟩ := A.ex
  obtain ⟨t4, mM⟩ := mM
  refine ⟨f, fd, okR F sc_check_loose (fun vs H Q E h => ?_) fun X H vs Q E hX hr tk po h => ?_, hm, F.kp, hb⟩
  · obtain ⟨S, v, d, ds, rfl, _⟩ := h
    rfl
  · obtain ⟨cdv, A, outer, s, rfl⟩ := hX
    obtain ⟨S, v, d, ds, rfl, hS, hv, hd, kE, kQ⟩ := h
    refine bOne <| sIf <| tNot <| tChain op_le op_le <| eI <| eCB call_lenO mL <| aCons <| eV 0 rfl <| aNil <| lenOf hv hd ⟨_, _, rfl, rfl, _, rfl, ?_⟩
    by_cases c1 : (1 : Int) ≤ (ds.length : Int)
    · rw [decide_eq_true c1]
      refine iteT <| eGl (v := .int 4) mM ⟨_, rfl⟩ ⟨_, _, rfl, rfl, _, rfl, ?_⟩
      by_cases c2 : (ds.length : Int) ≤ (4 : Int)
      · rw [decide_eq_true c2]
        exact iteF <| bNil <| kQ (by omega) (by omega)
      · rw [decide_eq_false c2]
        exact iteT <| bOne <| raise2 GE hr tk <| aCons <| eStr <| aCons <| eCB call_lenO mL <| aCons <| eV 0 rfl <| aNil <| lenOf hv hd <| aNil ⟨_, _, rfl, kE (by omega)⟩
    · rw [decide_eq_false c1]
      exact iteF ⟨_, rfl, iteT <| bOne <| raise2 GE hr tk <| aCons <| eStr <| aCons <| eCB call_lenO mL <| aCons <| eV 0 rfl <| aNil <| lenOf hv hd <| aNil ⟨_, _, rfl, kE (by omega)⟩⟩
theorem ok_belowI (hK : R.K = K) (A : DefAt K mg "below" s_below ["one", "other"]) : DefG P w K mg base 1 "below" ["one", "other"] (spBelowI R) := by
  subst hK
  obtain ⟨f, fd, F, hm, hb⟩ := A.ex
  refine ⟨f, fd, okN F sc_below (fun vs H Q E h => ?_) fun X H vs Q E hX hr tk h => ?_, hm, F.kp, hb⟩
  · obtain ⟨S, v, u, p, q, a, b, n, m, rfl, _⟩ := h
    rfl
  · obtain ⟨cdv, A, outer, s, rfl⟩ := hX
    obtain ⟨S, v, u, p, q, a, b, n, m, rfl, hv, hu, zp, zq, za, zb, n0, m0, n9, k⟩ := h
    refine bOne <| sRet <| eCmp op_lt <| eOp op_mulW <| eIx ix_seq <| eV 0 rfl <| eI <| ixP (i := 0) hv rfl <| eIx ix_seq <| eV 1 rfl <| eI <| ixP (i := 1) hu rfl ⟨_, _, rfl, rfl, mulW zp zb n0 m0 n9, ?_⟩
    exact eOp op_mulW <| eIx ix_seq <| eV 1 rfl <| eI <| ixP (i := 0) hu rfl <| eIx ix_seq <| eV 0 rfl <| eI <| ixP (i := 1) hv rfl ⟨_, _, rfl, rfl, mulW za zq m0 n0 (by omega), _, _, rfl, rfl, k⟩
theorem ok_Loose {C CE : Addr} (hK : R.K = K) (hC : R.CA "Loose" = C) (fG : FAok R "Gate") (A : InitAt K mg "Loose" "Loose.__init__" C s_Loose_init ["self", "low", "high"]) (c : Cls K C) (n1 : NoAttr K C "low") (n2 : NoAttr K C "high")
    (GG : MakeG P w K mg base 4 "Gate" (R.CA "Gate") ["self", "factor", "amount"] (spGate R CE)) (Gs : DefG P w K mg base 3 "smaller" ["one", "other"] (spMax2 R minR)) (Gg : DefG P w K mg base 3 "greater" ["one", "other"] (spMax2 R maxR)) :
    MakeG P w K mg base 6 "Loose" C ["self", "low", "high"] (spLooseI R) := by
  subst hK
  subst hC
  obtain ⟨f, fd, M, F, hm, hb⟩ := A.ex
  refine ⟨f, fd, M, okN F sc_Loose_init (fun vs H Q E h => ?_) fun X H vs Q E hX hr tk h => ?_, hm, hb⟩
  · obtain ⟨S, H0, m, dx, x, y, g, h', rfl, _⟩ := h
    rfl
  · obtain ⟨cdv, A, outer, s, rfl⟩ := hX
    have hN := sc_Loose_init.nd
    obtain ⟨S, H0, m, dx, x, y, g, h', rfl, s0, m0, hm', l0, hx, hy, ng, nh, k⟩ := h
    have M0 : Mak R S H0 H m dx (R.CA "Loose") [] [] := .start m0 hm' s0 l0
    obtain ⟨nl, nu⟩ := looQ_num ng nh
    refine bCons <| sMak c n1 rfl M0 (by show _ ∉ ([] : List Str); simp) (by show 0 < 1000; decide) <| eGate GG hr tk <| aCons <| eCall Gs hr tk <| aCons <| eFld <| eV 1 rfl <| fldF (M0.read hx) fG fun v1 f1 => aCons <| eFld <| eV 2 rfl <| fldF (M0.read hy) fG fun v2 f2 => aNil ⟨_, v1, v2, 20, g.1, h'.1, rfl, M0.live, f1, f2, ng.f.sz, nh.f.sz, by decide, by decide, fun v3 H3 s3 i3 => ?_⟩
    have M3 := M0.up s3
    refine aCons <| eCall Gs hr tk <| aCons <| eFld <| eV 1 rfl <| fldM (M3.read hx) fG fun v4 f4 => aCons <| eFld <| eV 2 rfl <| fldM (M3.read hy) fG fun v5 f5 => aNil ⟨_, v4, v5, 20, g.2, h'.2, rfl, M3.live, f4, f5, ng.a.sz, nh.a.sz, by decide, by decide, fun v6 H6 s6 i6 => ?_⟩
    have M6 := M3.up s6
    refine aNil ⟨_, v3, v6, _, _, _, _, rfl, M6.live, .inl (i3.up s6), .inl i6, nl.due, fun v7 H7 s7 i7 _ _ _ => ?_⟩
    rw [mkQ_self, mkQ_self] at i7
    refine ⟨(s3.trans s6).trans s7, _, i7, fun M7 => ?_⟩
    refine bOne <| sMak c n2 rfl M7 (by show ("high" : Str) ∉ (["low"] : List Str); decide +kernel) (by show 1 < 1000; decide) <| eGate GG hr tk <| aCons <| eCall Gg hr tk <| aCons <| eFld <| eV 1 rfl <| fldF (M7.read hx) fG fun v1 f1 => aCons <| eFld <| eV 2 rfl <| fldF (M7.read hy) fG fun v2 f2 => aNil ⟨_, v1, v2, 20, g.1, h'.1, rfl, M7.live, f1, f2, ng.f.sz, nh.f.sz, by decide, by decide, fun v8 H8 s8 i8 => ?_⟩
    have M8 := M7.up s8
    refine aCons <| eCall Gg hr tk <| aCons <| eFld <| eV 1 rfl <| fldM (M8.read hx) fG fun v4 f4 => aCons <| eFld <| eV 2 rfl <| fldM (M8.read hy) fG fun v5 f5 => aNil ⟨_, v4, v5, 20, g.2, h'.2, rfl, M8.live, f4, f5, ng.a.sz, nh.a.sz, by decide, by decide, fun v9 H9 s9 i9 => ?_⟩
    have M9 := M8.up s9
    refine aNil ⟨_, v8, v9, _, _, _, _, rfl, M9.live, .inl (i8.up s9), .inl i9, nu.due, fun va Ha sa ia _ _ _ => ?_⟩
    rw [mkQ_self, mkQ_self] at ia
    exact ⟨(s8.trans s9).trans sa, _, ia, fun Ma => k _ Ma.s0 (Ma.done rfl)⟩
theorem ok_Spread {C : Addr} (hK : R.K = K) (hC : R.CA "Spread" = C) (A : InitAt K mg "Spread" "Spread.__init__" C s_Spread_init ["self", "least", "greatest", "low", "high"]) (c : Cls K C) (n1 : NoAttr K C "least") (n2 : NoAttr K C "greatest") (n3 : NoAttr K C "low") (n4 : NoAttr K C "high")
    (mT : mg "tuple" = none) (Gl : DefG P w K mg base 2 "lowest" ["fraction"] (spLow R)) : MakeG P w K mg base 3 "Spread" C ["self", "least", "greatest", "low", "high"] (spSpreadI R) := by
  subst hK
  subst hC
  obtain ⟨f, fd, M, F, hm, hb⟩ := A.ex
  refine ⟨f, fd, M, okN F sc_Spread_init (fun vs H Q E h => ?_) fun X H vs Q E hX hr tk h => ?_, hm, hb⟩
  · obtain ⟨S, H0, m, dx, x, y, z, t, p, q, a, b, n, d1, d2, cl, ch, rfl, _⟩ := h
    rfl
  · obtain ⟨cdv, A, outer, s, rfl⟩ := hX
    have hN := sc_Spread_init.nd
    obtain ⟨S, H0, m, dx, x, y, z, t, p, q, a, b, n, d1, d2, cl, ch, rfl, s0, m0, hm', l0, hx, hy, q0, b0, zp, zq, za, zb, n9, hz, e1, ht, e2, k⟩ := h
    have M0 : Mak R S H0 H m dx (R.CA "Spread") [] [] := .start m0 hm' s0 l0
    refine bCons <| sMak c n1 rfl M0 (by show _ ∉ ([] : List Str); simp) (by show 0 < 1000; decide) <| eCall Gl hr tk <| aCons <| eV 1 rfl <| aNil ⟨_, x, p, q, n, rfl, M0.live, M0.readP hx, q0, zp, zq, n9, fun v1 H1 s1 i1 _ => ⟨s1, _, i1, fun M1 => ?_⟩⟩
    refine bCons <| sMak c n2 rfl M1 (by show ("greatest" : Str) ∉ (["least"] : List Str); decide +kernel) (by show 1 < 1000; decide) <| eCall Gl hr tk <| aCons <| eV 2 rfl <| aNil ⟨_, y, a, b, n, rfl, M1.live, M1.readP hy, b0, za, zb, n9, fun v2 H2 s2 i2 _ => ⟨s2, _, i2, fun M2 => ?_⟩⟩
    refine bCons <| sMak c n3 rfl M2 (by show ("low" : Str) ∉ (["least", "greatest"] : List Str); decide +kernel) (by show 2 < 1000; decide) <| eCTy call_tupO mT <| aCons <| eV 3 rfl <| aNil <| tupOf (M2.read hz) e1 M2.live fun v3 H3 s3 i3 => ⟨s3, _, i3, fun M3 => ?_⟩
    refine bOne <| sMak c n4 rfl M3 (by show ("high" : Str) ∉ (["least", "greatest", "low"] : List Str); decide +kernel) (by show 3 < 1000; decide) <| eCTy call_tupO mT <| aCons <| eV 4 rfl <| aNil <| tupOf (M3.read ht) e2 M3.live fun v4 H4 s4 i4 => ⟨s4, _, i4, fun M4 => ?_⟩
    exact k _ M4.s0 (M4.done rfl)
end
end BR

namespace BR
open PySem PySem.Spec PyProof.Rows L2
section
variable {P : Program} {w : World} {K : PySem.W.Frag} {mg : Str → Option Value} {base : Heap} {R : Rp}
theorem ok_outerV (hK : R.K = K) (A : DefAt K mg "outer_values" s_outer_values ["low", "high"]) : DefG P w K mg base 1 "outer_values" ["low", "high"] (spOuterV R) := by
  subst hK
  obtain ⟨f, fd, F, hm, hb⟩ := A.ex
  refine ⟨f, fd, okN F sc_outer_values (fun vs H Q E h => ?_) fun X H vs Q E hX hr tk h => ?_, hm, F.kp, hb⟩
  · obtain ⟨S, x, y, a, b, rfl, _⟩ := h
    rfl
  · obtain ⟨cdv, A, outer, s, rfl⟩ := hX
    obtain ⟨S, x, y, a, b, rfl, hS, hx, hy, k⟩ := h
    refine bOne <| sRet <| eIf <| tCmp (op_eqD hr.units) <| eV 0 rfl <| eV 1 rfl <| eqD hx hy (okEq_frac _) (okEq_frac _) ⟨_, rfl, ?_⟩
    rw [eqv_frac]
    unfold outV at k
    by_cases c : a = b
    · rw [if_pos c] at k
      rw [decide_eq_true c]
      exact iteT <| eLstD R S [frac a] <| aCons <| eV 0 rfl <| aNil ⟨hS, .cons hx .nil, fun v H2 s2 i2 => k _ _ s2 i2⟩
    · rw [if_neg c] at k
      rw [decide_eq_false c]
      exact iteF <| eLstD R S [frac a, frac b] <| aCons <| eV 0 rfl <| aCons <| eV 1 rfl <| aNil ⟨hS, .cons hx (.cons hy .nil), fun v H2 s2 i2 => k _ _ s2 i2⟩
theorem fldLo {S : Reg} {H : Hp} {x : V} {l : G2 × G2} {Q : VK} (L : LooOk R) (h : Is R S H x (loD l)) (q : ∀ v, Is R S H v (gD l.1) → Q v H) : rFld R.K "low" x H Q := fldD h L.cl L.n1 lk0 q
theorem fldHi {S : Reg} {H : Hp} {x : V} {l : G2 × G2} {Q : VK} (L : LooOk R) (h : Is R S H x (loD l)) (q : ∀ v, Is R S H v (gD l.2) → Q v H) : rFld R.K "high" x H Q := fldD (f := ("high" : Str)) h L.cl L.n2 ((lk1 (g := ("low" : Str)) (f := ("high" : Str)) (by decide +kernel)).trans lk0) q
theorem ok_outerG {CE : Addr} (hK : R.K = K) (fG : FAok R "Gate") (LO : LooOk R) (A : DefAt K mg "outer_gates" s_outer_gates ["loose"]) (Gv : DefG P w K mg base 1 "outer_values" ["low", "high"] (spOuterV R))
    (GG : MakeG P w K mg base 4 "Gate" (R.CA "Gate") ["self", "factor", "amount"] (spGate R CE)) : DefG P w K mg base 6 "outer_gates" ["loose"] (spOuterG R) := by
  subst hK
  obtain ⟨f, fd, F, hm, hb⟩ := A.ex
  refine ⟨f, fd, okN F sc_outer_gates (fun vs H Q E h => ?_) fun X H vs Q E hX hr tk h => ?_, hm, F.kp, hb⟩
  · obtain ⟨S, x, l, rfl, _⟩ := h
    rfl
  · obtain ⟨cdv, A, outer, s, rfl⟩ := hX
    have hN := sc_outer_gates.nd
    obtain ⟨S, x, l, rfl, hS, hx, n1, n2, k⟩ := h
    refine bOne <| sRet <| eLc2 N_outer_gates s_outer_gates [("factor", 1), ("amount", 2)] [2] <| iW rfl <| eCall Gv hr tk <| aCons <| eFld <| eFld <| eV 0 rfl <| fldLo LO hx fun v1 f1 => fldF f1 fG fun v2 f2 => aCons <| eFld <| eFld <| eV 0 rfl <| fldHi LO hx fun v3 f3 => fldF f3 fG fun v4 f4 => aNil ⟨S, v2, v4, l.1.1, l.2.1, rfl, hS, f2, f4, fun v5 H5 s5 i5 => ⟨S, _, _, i5, rfl, fun J xs ix wk L hL => ?_⟩⟩
    have lx := ix.len
    rw [List.length_map] at lx
    rw [lx] at wk
    have hS5 := hS.up s5
    have hlen : (outV l.1.1 l.2.1).length * (outV l.1.2 l.2.2).length ≤ 4 := Nat.le_trans (Nat.mul_le_mul (outV_len _ _) (outV_len _ _)) (by decide)
    refine lc2F (R := R) (T := fun a => S a ∨ a = L) wk (fun _ => (outV l.1.2 l.2.2).length) (pickT (outV l.1.1 l.2.1) (outV l.1.2 l.2.2) fun f a => gD (f, a)) (fun i hi => by have := add_pickT_len (outV l.1.1 l.2.1) (outV l.1.2 l.2.2) (fun f a => gD (f, a)) i hi; omega) (fills_same (S := S) hL) (fun H4 h4 => Kp.of h4) ?_ ?_
    · rintro i y H4 H4' hi h4 ⟨rfl, hy⟩
      have h4 : Same H5 H4' := h4
      obtain ⟨dy, e1, iy⟩ := ix.getV hy
      rw [List.getElem?_map, List.getElem?_eq_getElem hi] at e1
      cases e1
      have rg : ∀ a, (S a ∨ a = L) → S a ∨ H5 a = none := fun a z => z.imp id fun e => by rw [e]; exact hL
      have iy4 : Is R (fun a => S a ∨ a = L) H4' y (frac (outV l.1.1 l.2.1)[i]) := (iy.regN rg).up h4
      have hx4 : Is R (fun a => S a ∨ a = L) H4' x (loD l) := ((hx.up s5).regN rg).up h4
      refine ⟨fun us hLn => ?_, Same.refl _⟩
      have lvT : Live (fun a => S a ∨ a = L) H4' := live_or (hS5.up h4) (by rw [hLn]; exact fun z => by cases z)
      intro s0 H0 C cl fp
      refine BR.gN 1 ⟨rfl, rfl, ?_⟩
      intro s0 H0 C cl fp
      refine iW rfl <| eCall Gv hr takes0 <| aCons <| eFld <| eFld <| eV 0 rfl <| fldLo LO hx4 fun v1 f1 => fldM f1 fG fun v2 f2 => aCons <| eFld <| eFld <| eV 0 rfl <| fldHi LO hx4 fun v3 f3 => fldM f3 fG fun v4 f4 => aNil ⟨_, v2, v4, l.1.2, l.2.2, rfl, lvT, f2, f4, fun v6 H6 s6 i6 => ⟨fun a => S a ∨ a = L, _, _, i6, rfl, fun J1 xs1 ix1 wk1 => ⟨s6, _, _, by have lz := ix1.len; rw [List.length_map] at lz; rw [lz] at wk1; exact wk1, fun H7 _ kp => kp, ?_⟩⟩⟩
      rintro j y1 H7 H7' hj h7 kp7 ⟨rfl, hy1⟩
      obtain ⟨dz, ez, iz⟩ := ix1.getV hy1
      rw [List.getElem?_map, List.getElem?_eq_getElem hj] at ez
      cases ez
      have h7 : Same H5 H7' := h7
      refine ⟨fun us7 hL7 => ?_, Same.refl _⟩
      have lv7 : Live (fun a => S a ∨ a = L) H7' := live_or (hS5.up h7) (by rw [hL7]; exact fun z => by cases z)
      intro s0 H0 C cl fp
      refine BR.gN 2 ⟨rfl, rfl, kTnil ⟨Same.refl _, (fun z => by cases z), fun _ => ⟨_, by unfold pickT; rw [List.getElem?_eq_getElem hi, List.getElem?_eq_getElem hj]; rfl, ?_⟩⟩⟩
      intro s0 H0 C cl fp
      have ng : NumG ((outV l.1.1 l.2.1)[i], (outV l.1.2 l.2.2)[j]) := outG_num n1 n2 _ (by
        unfold outG
        exact List.mem_flatMap.mpr ⟨_, List.getElem_mem hi, List.mem_map.mpr ⟨_, List.getElem_mem hj, rfl⟩⟩)
      refine eGate GG hr takes0 <| aCons <| eV 1 rfl <| aCons <| eV 2 rfl <| aNil ⟨_, y, y1, _, _, _, _, rfl, lv7, .inl ((iy4.up s6).go kp7), .inl (iz.go kp7), ng.due, fun v8 H8 s8 i8 _ _ _ => ⟨s8, ?_⟩⟩
      rw [mkQ_self, mkQ_self] at i8
      exact i8
    · intro H4 ys2 h4 hL4 ia4
      have iL := Is.filled hS5 hL hL4 ia4
      have ee := add_pickT (outV l.1.1 l.2.1) (outV l.1.2 l.2.2) (fun f a => gD (f, a)) _ (Nat.le_refl _)
      rw [List.take_length] at ee
      rw [ee] at iL
      refine k _ _ (s5.trans h4) ?_
      have e2 : cornD (outG l) = .lst ((outV l.1.1 l.2.1).flatMap fun f => (outV l.1.2 l.2.2).map fun a => gD (f, a)) := by
        unfold cornD outG
        rw [List.map_flatMap]
        simp only [List.map_map]
        rfl
      rw [e2]
      exact iL
end
end BR

namespace BR
open PySem PySem.Spec PyProof.Rows L2
section
variable {P : Program} {w : World} {K : PySem.W.Frag} {mg : Str → Option Value} {base : Heap} {R : Rp}
theorem ok_corners (hK : R.K = K) (A : DefAt K mg "corners" s_corners ["some"]) (Go : DefG P w K mg base 6 "outer_gates" ["loose"] (spOuterG R)) : DefG P w K mg base 7 "corners" ["some"] (spCorners R) := by
  subst hK
  obtain ⟨f, fd, F, hm, hb⟩ := A.ex
  refine ⟨f, fd, okN F sc_corners (fun vs H Q E h => ?_) fun X H vs Q E hX hr tk h => ?_, hm, F.kp, hb⟩
  · obtain ⟨S, v, ls, rfl, _⟩ := h
    rfl
  · obtain ⟨cdv, A, outer, s, rfl⟩ := hX
    have hN := sc_corners.nd
    obtain ⟨S, v, ls, rfl, hS, hl, k⟩ := h
    obtain ⟨d, il, el⟩ := hl.ex
    have l4 := hl.hi
    refine bCons <| sSet 1 <| eLstD R S [cornD []] <| aCons <| eLstD R S [] <| aNil ⟨hS, .nil, fun v1 H1 s1 i1 => aNil ⟨hS.up s1, .cons i1 .nil, fun v2 H2 s2 i2 => ?_⟩⟩
    have s12 := s1.trans s2
    have hS2 := hS.up s12
    refine bCons <| sFor <| iW rfl <| eV 0 rfl ⟨S, d, _, il.up s12, el, fun J xs ix wk => ⟨_, _, _, wk, fun i σ H' => (∃ vf b2 b3 b4 b5, σ = [some v, some vf, b2, b3, b4, b5] ∧ Is R S H' vf (.lst ((cornQ (ls.take i)).map cornD))) ∧ Same H2 H', ⟨⟨v2, _, _, _, _, rfl, by rw [List.take_zero]; exact i2⟩, Same.refl _⟩, fun i σ H' _ h => Kp.of h.2, ?_, ?_⟩⟩
    · rintro i x σ H3 H3' hi ⟨⟨vf, b2, b3, b4, b5, rfl, iv⟩, s3⟩ ⟨rfl, hx⟩
      have lx := ix.len
      rw [List.length_map] at lx
      have hi' : i < ls.length := by omega
      obtain ⟨dx, e1, i3⟩ := ix.getV hx
      rw [List.getElem?_map, List.getElem?_eq_getElem hi'] at e1
      cases e1
      obtain ⟨n1, n2⟩ := hl.num _ (List.getElem_mem hi')
      refine BR.gN 2 <| bCons <| sSet 3 <| eCall Go hr tk <| aCons <| eV 2 rfl <| aNil ⟨S, x, ls[i], rfl, hS2.up s3, i3.up s3, n1, n2, fun v4 H4 s4 i4 => ?_⟩
      have hS4 := (hS2.up s3).up s4
      refine bOne <| sLc2 1 N_corners s_corners [("corner", 4), ("gate", 5)] [5] <| iW rfl <| eV 1 rfl ⟨S, _, _, iv.up s4, rfl, fun J2 xs2 ix2 wk2 L hL => ?_⟩
      have lx2 := ix2.len
      rw [List.length_map] at lx2
      rw [lx2] at wk2
      have hc := cornQ_len (ls.take i)
      rw [List.length_take, Nat.min_eq_left (by omega)] at hc
      have h64 : (cornQ (ls.take i)).length * (outG ls[i]).length ≤ 256 := Nat.le_trans (Nat.mul_le_mul (Nat.le_trans hc (Nat.pow_le_pow_right (by decide) (show i ≤ 3 by omega))) (outG_len _)) (by decide)
      refine lc2F (R := R) (T := fun a => S a ∨ a = L) wk2 (fun _ => (outG ls[i]).length) (pickT (cornQ (ls.take i)) (outG ls[i]) fun c g => cornD (c ++ [g])) (fun j hj => by have := add_pickT_len (cornQ (ls.take i)) (outG ls[i]) (fun c g => cornD (c ++ [g])) j hj; omega) (fills_same (S := S) hL) (fun H5 h5 => Kp.of h5) ?_ ?_
      · rintro j y H5 H5' hj h5 ⟨rfl, hy⟩
        have h5 : Same H4 H5' := h5
        obtain ⟨dy, e2, iy⟩ := ix2.getV hy
        rw [List.getElem?_map, List.getElem?_eq_getElem hj] at e2
        cases e2
        have rg : ∀ a, (S a ∨ a = L) → S a ∨ H4 a = none := fun a z => z.imp id fun e => by rw [e]; exact hL
        have iy5 : Is R (fun a => S a ∨ a = L) H5' y (cornD (cornQ (ls.take i))[j]) := (iy.regN rg).up h5
        have io5 : Is R (fun a => S a ∨ a = L) H5' v4 (cornD (outG ls[i])) := (i4.regN rg).up h5
        refine ⟨fun us hLn => ?_, Same.refl _⟩
        intro s0 H0 C cl fp
        refine BR.gN 4 ⟨rfl, rfl, ?_⟩
        intro s0 H0 C cl fp
        refine iW rfl <| eV 3 rfl ⟨fun a => S a ∨ a = L, _, _, io5, rfl, fun J1 xs1 ix1 wk1 => ⟨Same.refl _, _, _, by have lz := ix1.len; rw [List.length_map] at lz; rw [lz] at wk1; exact wk1, fun H7 _ kp => kp, ?_⟩⟩
        rintro m y1 H7 H7' hm' h7 kp7 ⟨rfl, hy1⟩
        obtain ⟨dz, ez, iz⟩ := ix1.getV hy1
        rw [List.getElem?_map, List.getElem?_eq_getElem hm'] at ez
        cases ez
        have h7 : Same H4 H7' := h7
        refine ⟨fun us7 hL7 => ?_, Same.refl _⟩
        have lv7 : Live (fun a => S a ∨ a = L) H7' := live_or (hS4.up h7) (by rw [hL7]; exact fun z => by cases z)
        intro s0 H0 C cl fp
        refine BR.gN 5 ⟨rfl, rfl, kTnil ⟨Same.refl _, (fun z => by cases z), fun _ => ⟨_, by unfold pickT; rw [List.getElem?_eq_getElem hj, List.getElem?_eq_getElem hm']; rfl, ?_⟩⟩⟩
        intro s0 H0 C cl fp
        obtain ⟨po, uo, rfl, _, huo, uoa⟩ := (iy5.go kp7).lstE
        have lu := uoa.len
        have hcl := (cornQ_mem (ls.take i) _ (List.getElem_mem hj)).1
        rw [List.length_map, hcl, List.length_take] at lu
        refine eLst <| aStar <| eV 4 rfl ⟨po, _, rfl, .inr (SqL.of huo), aCons <| eV 5 rfl <| aNil ⟨?_, fun p2 hp2 => ⟨same_new hp2, ?_⟩⟩⟩
        · rw [List.length_append, List.length_singleton]
          exact Nat.le_of_lt (small1000 (by omega))
        · show Is R _ _ _ (.lst (((cornQ (ls.take i))[j] ++ [(outG ls[i])[m]]).map gD))
          rw [List.map_append]
          exact Is.newL lv7 hp2 (uoa.app (.cons (iz.go kp7) .nil))
      · intro H5 ys2 h5 hL5 ia5
        have iL := Is.filled hS4 hL hL5 ia5
        have ee := add_pickT (cornQ (ls.take i)) (outG ls[i]) (fun c g => cornD (c ++ [g])) _ (Nat.le_refl _)
        rw [List.take_length] at ee
        rw [ee] at iL
        refine ⟨⟨.ref L, _, _, _, _, rfl, ?_⟩, (s3.trans s4).trans h5⟩
        rw [← List.take_append_getElem hi', cornQ_snoc]
        have e2 : (cornStep (cornQ (ls.take i)) ls[i]).map cornD = (cornQ (ls.take i)).flatMap fun c => (outG ls[i]).map fun g => cornD (c ++ [g]) := by
          unfold cornStep
          rw [List.map_flatMap]
          simp only [List.map_map]
          rfl
        rw [e2]
        exact iL
    · rintro σ H3 ⟨⟨vf, b2, b3, b4, b5, rfl, iv⟩, s3⟩
      have lx := ix.len
      rw [List.length_map] at lx
      rw [lx, List.take_length] at iv
      exact bOne <| sRet <| eV 1 rfl <| k _ _ (s12.trans s3) iv
end
end BR

namespace BR
open PySem PySem.Spec PyProof.Rows L2
section
variable {P : Program} {w : World} {K : PySem.W.Frag} {mg : Str → Option Value} {base : Heap} {R : Rp}
theorem ok_spreadOf (hK : R.K = K) (A : DefAt K mg "spread_of" s_spread_of ["some", "worth_at"]) (Gc : DefG P w K mg base 7 "corners" ["some"] (spCorners R)) (Gb : DefG P w K mg base 1 "below" ["one", "other"] (spBelowI R))
    (GS : MakeG P w K mg base 3 "Spread" (R.CA "Spread") ["self", "least", "greatest", "low", "high"] (spSpreadI R)) : OverG P w K mg base 8 "spread_of" ["some", "worth_at"] (spSpreadOf P w mg R) := by
  intro base' Wd
  replace Gc := Gc.wide Wd
  replace Gb := Gb.wide Wd
  replace GS := GS.wide Wd
  subst hK
  obtain ⟨f, fd, F, hm, hb⟩ := A.ex
  refine ⟨f, fd, okN F sc_spread_of (fun vs H Q E h => ?_) fun X H vs Q E hX hr tk h => ?_, hm, F.kp, hb⟩
  · obtain ⟨S, v, fa, ls, wt, n, spL, rfl, _⟩ := h
    rfl
  · obtain ⟨cdv, A, outer, s, rfl⟩ := hX
    have hN := sc_spread_of.nd
    obtain ⟨S, v, fa, ls, wt, n, spL, rfl, hS, hl, hf, hwt, n0, n9, hL, k⟩ := h
    have hc := cornQ_len ls
    have l4 := hl.hi
    have hne := cornQ_pos ls
    have h256 : (cornQ ls).length ≤ 256 := Nat.le_trans hc (show 4 ^ ls.length ≤ 256 from Nat.pow_le_pow_right (show 0 < 4 by decide) l4)
    refine bCons <| sLc 2 N_spread_of s_spread_of [("corner", 6)] <| iW rfl <| eCall Gc hr tk <| aCons <| eV 0 rfl <| aNil ⟨S, v, ls, rfl, hS, hl, fun v1 H1 s1 i1 => ⟨S, _, _, i1, rfl, fun J xs ix wk L hL' => ?_⟩⟩
    have hS1 := hS.up s1
    have lx := ix.len
    rw [List.length_map] at lx
    refine lcG (R := R) wk ((cornQ ls).map (valD wt)) (by rw [List.length_map]; exact lx.symm) (by omega) (fills_same (S := S) hL') (fun H2 h2 => Kp.of h2) ?_ ?_
    · rintro i e y H2 H2' he h2 ⟨rfl, hy⟩
      have hi' : i < (cornQ ls).length := by
        have := (List.getElem?_eq_some_iff.mp hy).1
        omega
      obtain ⟨dy, e1, iy⟩ := ix.getV hy
      rw [List.getElem?_map, List.getElem?_eq_getElem hi'] at e1 he
      cases e1
      cases he
      have h2 : Same H1 H2' := h2
      have rg : ∀ a, (S a ∨ a = L) → S a ∨ H1 a = none := fun a z => z.imp id fun e => by rw [e]; exact hL'
      have iy2 : Is R (fun a => S a ∨ a = L) H2' y (cornD (cornQ ls)[i]) := (iy.regN rg).up h2
      refine ⟨fun hLn => ?_, Same.refl _⟩
      have lv : Live (fun a => S a ∨ a = L) H2' := live_or (hS1.up h2) hLn
      intro s0 H0 C cl fp
      refine BR.gN 6 ⟨rfl, rfl, ?_⟩
      intro s0 H0 C cl fp
      refine eTupD R (fun a => S a ∨ a = L) [.tup [.int (wt (cornQ ls)[i]).1, .int (wt (cornQ ls)[i]).2], cornD (cornQ ls)[i]] <| aCons <| eCallL 1 hf hr takes0 rfl <| aCons <| eV 6 rfl <| aNil ?_
      refine hL (fun a => S a ∨ a = L) y _ H2' _ _ (s1.trans h2) (fun a z => z.imp id fun e => ?_) lv iy2 (List.getElem_mem hi') fun v3 H3 s3 i3 => ?_
      · rw [e]
        cases q : H L with
        | none => rfl
        | some o => rw [s1 _ _ q] at hL'; cases hL'
      · exact aCons <| eV 6 rfl <| aNil ⟨lv.up s3, .cons i3 (.cons (iy2.up s3) .nil), fun v4 H4 s4 i4 => ⟨s3.trans s4, i4⟩⟩
    · intro H2 ys h2 hL2 ia
      have iv := Is.filled hS1 hL' hL2 ia
      have hS2 := hS1.up (show Same H1 H2 from h2)
      have h2 : Same H1 H2 := h2
      obtain ⟨c0, cr, ec⟩ : ∃ c0 cr, cornQ ls = c0 :: cr := by
        cases e : cornQ ls with
        | nil => exact absurd e hne
        | cons a r => exact ⟨a, r, rfl⟩
      have e0 : ((cornQ ls).map (valD wt))[0]? = some (valD wt ((cornQ ls).headD [])) := by rw [ec]; rfl
      obtain ⟨lo, hlo⟩ : ∃ lo : Nat → List G2, lo = fun i => ((cornQ ls).take i).foldl (fun b c => if valT wt c < valT wt b then c else b) ((cornQ ls).headD []) := ⟨_, rfl⟩
      obtain ⟨hi, hhi⟩ : ∃ hi : Nat → List G2, hi = fun i => ((cornQ ls).take i).foldl (fun b c => if valT wt b < valT wt c then c else b) ((cornQ ls).headD []) := ⟨_, rfl⟩
      have lo0 : lo 0 = (cornQ ls).headD [] := by rw [hlo]; rfl
      have hi0 : hi 0 = (cornQ ls).headD [] := by rw [hhi]; rfl
      have loS : ∀ i (h : i < (cornQ ls).length), lo (i + 1) = if valT wt (cornQ ls)[i] < valT wt (lo i) then (cornQ ls)[i] else lo i := fun i h => by
        rw [hlo]
        show ((cornQ ls).take (i + 1)).foldl _ _ = _
        rw [← List.take_append_getElem h, List.foldl_append]
        rfl
      have hiS : ∀ i (h : i < (cornQ ls).length), hi (i + 1) = if valT wt (hi i) < valT wt (cornQ ls)[i] then (cornQ ls)[i] else hi i := fun i h => by
        rw [hhi]
        show ((cornQ ls).take (i + 1)).foldl _ _ = _
        rw [← List.take_append_getElem h, List.foldl_append]
        rfl
      have loM : ∀ i, lo i ∈ cornQ ls := fun i => by
        rw [hlo]
        exact loI_mem _ _ _ hne fun c hc => List.mem_of_mem_take hc
      have hiM : ∀ i, hi i ∈ cornQ ls := fun i => by
        rw [hhi]
        exact hiI_mem _ _ _ hne fun c hc => List.mem_of_mem_take hc
      have loE : lo (cornQ ls).length = loC (valT wt) (cornQ ls) := by
        rw [hlo]
        show ((cornQ ls).take _).foldl _ _ = _
        rw [List.take_length]
        rfl
      have hiE : hi (cornQ ls).length = hiC (valT wt) (cornQ ls) := by
        rw [hhi]
        show ((cornQ ls).take _).foldl _ _ = _
        rw [List.take_length]
        rfl
      clear hlo hhi
      refine bCons <| sAsg2 <| eIx ix_seq <| eV 2 rfl <| eI <| ixD (i := 0) iv rfl e0 fun x0 i0 => BR.gN 3 <| BR.gN 4 ?_
      refine bCons <| sFor <| iW rfl <| eV 2 rfl ⟨S, _, _, iv, rfl, fun J2 xs2 ix2 wk2 => ⟨_, _, _, wk2, fun i σ H' => (∃ vl vh b5 b6, σ = [some v, some (.ref fa), some (.ref L), some vl, some vh, b5, b6] ∧ Is R S H' vl (valD wt (lo i)) ∧ Is R S H' vh (valD wt (hi i))) ∧ Same H2 H', ⟨⟨x0, x0, _, _, rfl, by rw [lo0]; exact i0, by rw [hi0]; exact i0⟩, Same.refl _⟩, fun i σ H' _ h => Kp.of h.2, ?_, ?_⟩⟩
      · rintro i x σ H3 H3' hi2 ⟨⟨vl, vh, b5, b6, rfl, il, ih⟩, s3⟩ ⟨rfl, hx⟩
        have lx2 := ix2.len
        rw [List.length_map] at lx2
        have hi' : i < (cornQ ls).length := by omega
        obtain ⟨dx, e1, i3⟩ := ix2.getV hx
        rw [List.getElem?_map, List.getElem?_eq_getElem hi'] at e1
        cases e1
        have ix3 := i3.up s3
        obtain ⟨z1, z2, z3⟩ := hwt _ (List.getElem_mem hi')
        obtain ⟨y1, y2, y3⟩ := hwt _ (loM i)
        obtain ⟨u1, u2, u3⟩ := hwt _ (hiM i)
        have d1 : decide ((wt (cornQ ls)[i]).1 * (wt (lo i)).2 < (wt (lo i)).1 * (wt (cornQ ls)[i]).2) = decide (valT wt (cornQ ls)[i] < valT wt (lo i)) := decide_eq_decide.mpr (mkQ_lt2 z1 y1).symm
        have d2 : decide ((wt (hi i)).1 * (wt (cornQ ls)[i]).2 < (wt (cornQ ls)[i]).1 * (wt (hi i)).2) = decide (valT wt (hi i) < valT wt (cornQ ls)[i]) := decide_eq_decide.mpr (mkQ_lt2 u1 z1).symm
        refine BR.gN 5 <| bCons <| sIf <| tVal <| eCall Gb hr tk <| aCons <| eIx ix_seq <| eV 5 rfl <| eI <| ixD (i := 0) ix3 rfl rfl fun x5 i5 => aCons <| eIx ix_seq <| eV 3 rfl <| eI <| ixD (i := 0) il rfl rfl fun x6 i6 => aNil ⟨S, x5, x6, _, _, _, _, n, n, rfl, .inl i5, .inl i6, z2, z3, y2, y3, n0, n0, by omega, _, rfl, ?_⟩
        rw [d1]
        have el := loS i hi'
        have eh := hiS i hi'
        by_cases c1 : valT wt (cornQ ls)[i] < valT wt (lo i)
        · rw [decide_eq_true c1]
          rw [if_pos c1] at el
          refine iteT <| bOne <| sSet 3 <| eV 5 rfl <| bOne <| sIf <| tVal <| eCall Gb hr tk <| aCons <| eIx ix_seq <| eV 4 rfl <| eI <| ixD (i := 0) ih rfl rfl fun x7 i7 => aCons <| eIx ix_seq <| eV 5 rfl <| eI <| ixD (i := 0) ix3 rfl rfl fun x8 i8 => aNil ⟨S, x7, x8, _, _, _, _, n, n, rfl, .inl i7, .inl i8, u2, u3, z2, z3, n0, n0, by omega, _, rfl, ?_⟩
          rw [d2]
          by_cases c2 : valT wt (hi i) < valT wt (cornQ ls)[i]
          · rw [decide_eq_true c2]
            rw [if_pos c2] at eh
            exact iteT <| bOne <| sSet 4 <| eV 5 rfl ⟨⟨x, x, _, _, rfl, by rw [el]; exact ix3, by rw [eh]; exact ix3⟩, s3⟩
          · rw [decide_eq_false c2]
            rw [if_neg c2] at eh
            exact iteF <| bNil ⟨⟨x, vh, _, _, rfl, by rw [el]; exact ix3, by rw [eh]; exact ih⟩, s3⟩
        · rw [decide_eq_false c1]
          rw [if_neg c1] at el
          refine iteF <| bNil <| bOne <| sIf <| tVal <| eCall Gb hr tk <| aCons <| eIx ix_seq <| eV 4 rfl <| eI <| ixD (i := 0) ih rfl rfl fun x7 i7 => aCons <| eIx ix_seq <| eV 5 rfl <| eI <| ixD (i := 0) ix3 rfl rfl fun x8 i8 => aNil ⟨S, x7, x8, _, _, _, _, n, n, rfl, .inl i7, .inl i8, u2, u3, z2, z3, n0, n0, by omega, _, rfl, ?_⟩
          rw [d2]
          by_cases c2 : valT wt (hi i) < valT wt (cornQ ls)[i]
          · rw [decide_eq_true c2]
            rw [if_pos c2] at eh
            exact iteT <| bOne <| sSet 4 <| eV 5 rfl ⟨⟨vl, x, _, _, rfl, by rw [el]; exact il, by rw [eh]; exact ix3⟩, s3⟩
          · rw [decide_eq_false c2]
            rw [if_neg c2] at eh
            exact iteF <| bNil ⟨⟨vl, vh, _, _, rfl, by rw [el]; exact il, by rw [eh]; exact ih⟩, s3⟩
      · rintro σ H3 ⟨⟨vl, vh, b5, b6, rfl, il, ih⟩, s3⟩
        have lx2 := ix2.len
        rw [List.length_map] at lx2
        rw [lx2, loE] at il
        rw [lx2, hiE] at ih
        obtain ⟨y1, y2, y3⟩ := hwt _ (loC_mem (valT wt) hne)
        obtain ⟨u1, u2, u3⟩ := hwt _ (hiC_mem (valT wt) hne)
        have s03 := (s1.trans h2).trans s3
        refine bOne <| sRet <| eMake GS hr tk <| aCons <| eIx ix_seq <| eV 3 rfl <| eI <| ixD (i := 0) il rfl rfl fun a1 j1 => aCons <| eIx ix_seq <| eV 4 rfl <| eI <| ixD (i := 0) ih rfl rfl fun a2 j2 => aCons <| eIx ix_seq <| eV 3 rfl <| eI <| ixD (i := 1) il rfl rfl fun a3 j3 => aCons <| eIx ix_seq <| eV 4 rfl <| eI <| ixD (i := 1) ih rfl rfl fun a4 j4 => aNil fun m d hm' hd hne' => ?_
        exact ⟨S, H3, m, d, a1, a2, a3, a4, _, _, _, _, n, _, _, _, _, rfl, same_made hm' hd, hm', upd_same, hS2.up s3, .inl j1, .inl j2, y1, u1, y2, y3, u2, u3, by omega, j3, rfl, j4, rfl, fun H4 s4 i4 => ⟨rfl, k _ _ (s03.trans s4) i4⟩⟩
end
end BR

namespace BR
open PySem PySem.Spec PyProof.Rows L2
section
variable {P : Program} {w : World} {K : PySem.W.Frag} {mg : Str → Option Value} {base : Heap} {R : Rp}
theorem ok_isNum (A : DefAt K mg "is_number" s_is_number ["thing"]) (mI : mg "isinstance" = none) (mi : mg "int" = none) (mb : mg "bool" = none) : DefG P w K mg base 1 "is_number" ["thing"] spIsNum := by
  obtain ⟨f, fd, F, hm, hb⟩ := A.ex
  refine ⟨f, fd, okN F sc_is_number (fun vs H Q E h => ?_) fun X H vs Q E hX hr tk h => ?_, hm, F.kp, hb⟩
  · obtain ⟨i, rfl, _⟩ := h
    rfl
  · obtain ⟨cdv, A, outer, s, rfl⟩ := hX
    obtain ⟨i, rfl, k⟩ := h
    refine bOne <| sRet <| eAnd2 <| eCB call_isi mI <| aCons <| eV 0 rfl <| aCons <| eBl0 (v := .ty "int") mi (by decide +kernel) rfl <| aNil ⟨_, _, _, _, true, rfl, .ty "int", .base (.int i), kit_ty (by decide +kernel), ⟨_, rfl, iteT ?_⟩⟩
    exact eNot <| eCB call_isi mI <| aCons <| eV 0 rfl <| aCons <| eBl0 (v := .ty "bool") mb (by decide +kernel) rfl <| aNil ⟨_, _, _, _, false, rfl, .ty "bool", .base (.int i), kit_ty (by decide +kernel), _, rfl, k⟩
theorem ok_isOrd (hK : R.K = K) (A : DefAt K mg "is_order" s_is_order ["order", "many"]) (mL : mg "len" = none) (mS : mg "set" = none) (G1 : DefG P w K mg base 1 "is_number" ["thing"] spIsNum) : DefG P w K mg base 2 "is_order" ["order", "many"] (spIsOrd R) := by
  subst hK
  obtain ⟨f, fd, F, hm, hb⟩ := A.ex
  refine ⟨f, fd, okN F sc_is_order (fun vs H Q E h => ?_) fun X H vs Q E hX hr tk h => ?_, hm, F.kp, hb⟩
  · obtain ⟨S, v, d, os, n, rfl, _⟩ := h
    rfl
  · obtain ⟨cdv, A, outer, s, rfl⟩ := hX
    have hN := sc_is_order.nd
    obtain ⟨S, v, d, os, n, rfl, hS, hv, hd, n9, k⟩ := h
    refine bCons <| sIf <| tCmp op_ne <| eCB call_lenO mL <| aCons <| eV 0 rfl <| aNil <| lenOf hv hd <| eV 1 rfl ⟨rfl, _, rfl, ?_⟩
    rw [List.length_map]
    by_cases hl : os.length = n
    · have e1 : (V.int (os.length : Nat)) = V.int (n : Nat) := by rw [hl]
      rw [decide_eq_true e1]
      refine iteF <| bNil ?_
      refine bCons <| sSet 2 <| eCTy0 cr_set0 mS ⟨rfl, fun p hp => ?_⟩
      have hv1 : Is R (fun a => a = p) (upd H p (SetO w p (fun _ => false) 0)) v d := (hv.regN (T := fun a => a = p) (fun a e => .inr (by rw [e]; exact hp))).up (same_new hp)
      refine bCons <| sFor <| iW rfl <| eV 0 rfl ⟨_, d, _, hv1, hd, fun J xs ix wk => ⟨_, _, _, wk, fun i σ H' => (∃ b3, σ = [some v, some (.int n), some (.ref p), b3]) ∧ Kp (fun a => a = p) (upd H p (SetO w p (fun _ => false) 0)) H' ∧
        ∃ T m, H' p = some (SetO w p T m) ∧ (∀ x, T x = true ↔ x ∈ os.take i) ∧ m ≤ i ∧ (m = i ↔ (os.take i).Nodup) ∧ ∀ x ∈ os.take i, 0 ≤ x ∧ x < (n : Int), ?_, ?_, ?_, ?_⟩⟩
      · refine ⟨⟨_, rfl⟩, Kp.refl _ _, _, 0, upd_same, ?_, Nat.le_refl _, ?_, ?_⟩
        · simp
        · simp
        · simp
      · rintro i σ H' _ ⟨_, h, _⟩
        exact h
      · rintro i x σ H1 H1' hi ⟨⟨b3, rfl⟩, kp, T, m, hp1, hT, hmi, hnd, hr'⟩ ⟨rfl, hx⟩
        have ex := IsA.of_ints ix
        subst ex
        have hi' : i < os.length := by simpa using hi
        have e0 : x = V.int os[i] := by
          rw [List.getElem?_map, List.getElem?_eq_getElem hi'] at hx
          exact (Option.some.inj hx).symm
        subst e0
        have et : os.take (i + 1) = os.take i ++ [os[i]] := by rw [List.take_append_getElem]
        refine gN 3 <| bCons <| sIf <| tOr2 <| tNot <| tVal <| eCall G1 hr tk <| aCons <| eV 3 rfl <| aNil ⟨_, rfl, _, rfl, iteF <| tNot <| tChain op_le op_lt <| eI <| eV 3 rfl ⟨_, _, rfl, rfl, _, rfl, ?_⟩⟩
        have bad : ¬ (0 ≤ os[i] ∧ os[i] < (n : Int)) → Q (.bl false) H1' := fun z => by
          have e : ordB n os = false := by
            rw [Bool.eq_false_iff]
            intro q
            exact z ((ordB_iff.mp q).2.1 _ (List.getElem_mem hi'))
          have q := k _ (same_of_kp hp kp)
          rw [e] at q
          exact q
        by_cases c1 : (0 : Int) ≤ os[i]
        · rw [decide_eq_true c1]
          refine iteT <| eV 1 rfl ⟨_, _, rfl, rfl, _, rfl, ?_⟩
          by_cases c2 : os[i] < (n : Int)
          · rw [decide_eq_true c2]
            refine iteF <| bNil <| bOne <| sAdd <| eV 2 rfl ⟨⟨_, _, _, rfl, hp1⟩, aCons <| eV 3 rfl <| aNil ⟨_, _, _, _, rfl, rfl, hp1, ?_, ?_⟩⟩
            · have : 1002 ≤ scanBound := by decide
              omega
            · refine ⟨⟨_, rfl⟩, ?_, _, _, upd_same, ?_, ?_, ?_, ?_⟩
              · intro a o na e
                rw [upd_ne na]
                exact kp _ _ na e
              · intro x
                rw [et, List.mem_append, List.mem_singleton]
                show (T x || decide (x = os[i])) = true ↔ _
                rw [Bool.or_eq_true, hT, decide_eq_true_iff]
              · split <;> omega
              · rw [et, List.nodup_append]
                by_cases hin : T os[i] = true
                · rw [if_pos hin]
                  have := (hT _).mp hin
                  constructor
                  · intro z; omega
                  · rintro ⟨_, _, z⟩
                    exact absurd rfl (z _ this _ (by simp))
                · rw [if_neg hin]
                  have hni : os[i] ∉ os.take i := fun z => hin ((hT _).mpr z)
                  constructor
                  · intro z
                    refine ⟨hnd.mp (by omega), by simp, ?_⟩
                    intro a ha b hb
                    simp at hb
                    subst hb
                    exact fun z => hni (z ▸ ha)
                  · rintro ⟨z, _, _⟩
                    have := hnd.mpr z
                    omega
              · intro x hx
                rw [et] at hx
                rcases List.mem_append.mp hx with hx | hx
                · exact hr' x hx
                · simp at hx
                  subst hx
                  exact ⟨c1, c2⟩
          · rw [decide_eq_false c2]
            exact iteT <| bOne <| sRet <| eBl <| bad (by omega)
        · rw [decide_eq_false c1]
          exact iteF ⟨_, rfl, iteT <| bOne <| sRet <| eBl <| bad (by omega)⟩
      · rintro σ H1 ⟨⟨b3, rfl⟩, kp, T, m, hp1, hT, hmi, hnd, hr'⟩
        have ex := IsA.of_ints ix
        subst ex
        rw [List.length_map] at hnd hr' hT hmi
        rw [List.take_length] at hnd hr'
        refine bOne <| sRet <| eCmp op_eq <| eCB call_lenS mL <| aCons <| eV 2 rfl <| aNil ⟨_, _, _, rfl, hp1, eV 1 rfl ⟨rfl, ?_⟩⟩
        have e : decide (V.int (m : Nat) = V.int (n : Nat)) = ordB n os := by
          by_cases z : os.Nodup
          · have h1 : ordB n os = true := ordB_iff.mpr ⟨hl, hr', z⟩
            have h2 := hnd.mpr z
            rw [h1, decide_eq_true]
            rw [h2, hl]
          · have h1 : ordB n os = false := by
              rw [Bool.eq_false_iff]
              exact fun q => z (ordB_iff.mp q).2.2
            rw [h1, decide_eq_false]
            intro q
            apply z
            apply hnd.mp
            have := V.int.inj q
            omega
        rw [e]
        exact k _ (same_of_kp hp kp)
    · have e1 : ¬ (V.int (os.length : Nat)) = V.int (n : Nat) := fun z => hl (by have := V.int.inj z; omega)
      rw [decide_eq_false e1]
      have e : ordB n os = false := by
        rw [Bool.eq_false_iff]
        exact fun q => hl (ordB_iff.mp q).1
      refine iteT <| bOne <| sRet <| eBl ?_
      rw [← e]
      exact k _ (Same.refl _)
theorem ok_chkO (hK : R.K = K) (A : DefAt K mg "check_order" s_check_order ["gates", "order"]) (mL : mg "len" = none) (G1 : DefG P w K mg base 2 "is_order" ["order", "many"] (spIsOrd R)) : DefG P w K mg base 3 "check_order" ["gates", "order"] (spChkO R) := by
  subst hK
  obtain ⟨f, fd, F, hm, hb⟩ := A.ex
  refine ⟨f, fd, okN F sc_check_order (fun vs H Q E h => ?_) fun X H vs Q E hX hr tk h => ?_, hm, F.kp, hb⟩
  · obtain ⟨S, v, d, ds, u, e, os, rfl, _⟩ := h
    rfl
  · obtain ⟨cdv, A, outer, s, rfl⟩ := hX
    obtain ⟨S, v, d, ds, u, e, os, rfl, hS, hv, hd, hu, he, h9, ho, k⟩ := h
    refine bOne <| sIf <| tNot <| tVal <| eCall G1 hr tk <| aCons <| eV 1 rfl <| aCons <| eCB call_lenO mL <| aCons <| eV 0 rfl <| aNil <| lenOf hv hd <| aNil ⟨S, u, e, os, ds.length, rfl, hS, hu, he, h9, fun H' s' => ⟨_, rfl, ?_⟩⟩
    rw [ho]
    exact iteF <| bNil <| k _ s'
end
section
variable {P : Program} {w : World} {K : PySem.W.Frag} {mg : Str → Option Value} {base : Heap} {R : Rp}
theorem ok_stepOf (hK : R.K = K) (A : DefAt K mg "step_of" s_step_of ["gate"]) : DefG P w K mg base 1 "step_of" ["gate"] (spStepOf R) := by
  subst hK
  obtain ⟨f, fd, F, hm, hb⟩ := A.ex
  refine ⟨f, fd, okN F sc_step_of (fun vs H Q E h => ?_) fun X H vs Q E hX hr tk h => ?_, hm, F.kp, hb⟩
  · obtain ⟨S, v, c, g, n, rfl, _⟩ := h
    rfl
  · obtain ⟨cdv, A, outer, s, rfl⟩ := hX
    have hN := sc_step_of.nd
    obtain ⟨S, v, c, g, n, rfl, hS, fa, hv, z, n0, n9, k⟩ := h
    have zb1 : ((g.1.den : Int)).natAbs < 2 ^ n := z.1.den
    have zb2 : ((g.2.den : Int)).natAbs < 2 ^ n := z.2.den
    refine bCons <| sAsg <| eFld <| eV 0 rfl <| fldF hv fa fun v1 f1 => gP (.inl f1) <| gsCons <| gN 1 <| gsCons <| gN 2 <| gsNil ?_
    refine bCons <| sAsg <| eFld <| eV 0 rfl <| fldM hv fa fun v2 f2 => gP (.inl f2) <| gsCons <| gN 3 <| gsCons <| gN 4 <| gsNil ?_
    refine bOne <| sRet <| eTupD R S [.int (g.1.num * g.2.den), .int (g.2.num * g.1.den), .int (g.1.den * g.2.den)] <| aCons <| eOp op_mulW <| eV 1 rfl <| eV 4 rfl ⟨_, _, rfl, rfl, mulW z.1.num zb2 n0 n0 (by omega), ?_⟩
    refine aCons <| eOp op_mulW <| eV 3 rfl <| eV 2 rfl ⟨_, _, rfl, rfl, mulW z.2.num zb1 n0 n0 (by omega), ?_⟩
    refine aCons <| eOp op_mulW <| eV 2 rfl <| eV 4 rfl ⟨_, _, rfl, rfl, mulW zb1 zb2 n0 n0 (by omega), ?_⟩
    exact aNil ⟨hS, IsA.ints (is := [g.1.num * g.2.den, g.2.num * g.1.den, g.1.den * g.2.den]), fun v3 H3 s3 i3 => k _ _ s3 i3⟩
theorem ok_passedP (hK : R.K = K) (A : DefAt K mg "passed" s_passed ["step", "fraction"]) : DefG P w K mg base 1 "passed" ["step", "fraction"] (spPassedP R) := by
  subst hK
  obtain ⟨f, fd, F, hm, hb⟩ := A.ex
  refine ⟨f, fd, okN F sc_passed (fun vs H Q E h => ?_) fun X H vs Q E hX hr tk h => ?_, hm, F.kp, hb⟩
  · obtain ⟨S, v, u, g, t, n, kk, rfl, _⟩ := h
    rfl
  · obtain ⟨cdv, A, outer, s, rfl⟩ := hX
    have hN := sc_passed.nd
    obtain ⟨S, v, u, g, t, n, kk, rfl, hS, hv, hu, z, tz', n0, k0, k9, k⟩ := h
    obtain ⟨a1, a2, a3, a4, a5, _⟩ := passI_sz z tz'
    obtain ⟨p, ys, rfl, hp, hys⟩ := id hv.tupE
    have eys := IsA.of_ints (is := [g.1.num * g.2.den, g.2.num * g.1.den, (g.1.den : Int) * g.2.den]) hys
    subst eys
    refine bCons <| sAsg <| eV 0 rfl <| gT rfl hp <| gsCons <| gN 2 <| gsCons <| gN 3 <| gsCons <| gN 4 <| gsNil ?_
    refine bCons <| sAsg <| eV 1 rfl <| gP hu <| gsCons <| gN 5 <| gsCons <| gN 6 <| gsNil ?_
    refine bOne <| sRet <| eTupD R S [.int (passI g t).1, .int (passI g t).2] <| aCons <| eOp op_add <| eOp op_mulW <| eV 2 rfl <| eV 5 rfl ⟨_, _, rfl, rfl, mulW a1 tz'.tt (by omega) k0 (by omega), ?_⟩
    refine eOp op_mulW <| eV 3 rfl <| eV 6 rfl ⟨_, _, rfl, rfl, mulW a2 tz'.bb (by omega) k0 (by omega), _, _, rfl, rfl, ?_⟩
    refine aCons <| eOp op_mulW <| eV 4 rfl <| eV 6 rfl ⟨_, _, rfl, rfl, mulW a3 tz'.bb (by omega) k0 (by omega), ?_⟩
    exact aNil ⟨hS, IsA.ints (is := [(passI g t).1, (passI g t).2]), fun v3 H3 s3 i3 => k _ _ s3 i3⟩
end
section
variable {P : Program} {w : World} {K : PySem.W.Frag} {mg : Str → Option Value} {base : Heap} {R : Rp}
theorem ok_passAll (hK : R.K = K) (fG : FAok R "Gate") (A : DefAt K mg "passed_all" s_passed_all ["gates", "order", "fraction"]) (Gs : DefG P w K mg base 1 "step_of" ["gate"] (spStepOf R)) (Gp : DefG P w K mg base 1 "passed" ["step", "fraction"] (spPassedP R)) :
    DefG P w K mg base 2 "passed_all" ["gates", "order", "fraction"] (spPassAll R) := by
  subst hK
  obtain ⟨f, fd, F, hm, hb⟩ := A.ex
  refine ⟨f, fd, okN F sc_passed_all (fun vs H Q E h => ?_) fun X H vs Q E hX hr tk h => ?_, hm, F.kp, hb⟩
  · obtain ⟨S, v, u, t, d, gs, os, p, q, kk, rfl, _⟩ := h
    rfl
  · obtain ⟨cdv, A, outer, s, rfl⟩ := hX
    have hN := sc_passed_all.nd
    obtain ⟨S, v, u, t, d, gs, os, p, q, kk, rfl, hS, iv, ed, sz, ho, one, o8, ht, hz, k0, k9, k⟩ := h
    obtain ⟨dO, io, eo⟩ := ho.ex
    obtain ⟨ol, om, ond⟩ := ord_facts ho.ok
    have nll : ∀ i, (nlQ (os.take i)).length ≤ i := fun i => by
      unfold nlQ
      rw [List.length_map, List.length_take]
      omega
    refine bCons <| sFor <| iW rfl <| eV 1 rfl ⟨S, dO, _, io, eo, fun J xs ix wk => ⟨_, _, _, wk, fun i σ H' => (∃ w b3, σ = [some v, some u, some w, b3] ∧ IsP R S H' w (valI gs (p, q) (nlQ (os.take i))).1 (valI gs (p, q) (nlQ (os.take i))).2 ∧ (0 < i → Is R S H' w (.tup [.int (valI gs (p, q) (nlQ (os.take i))).1, .int (valI gs (p, q) (nlQ (os.take i))).2]))) ∧ Same H H', ⟨⟨t, _, rfl, ht, fun z => absurd z (by decide)⟩, Same.refl _⟩, fun i σ H' _ h => Kp.of h.2, ?_, ?_⟩⟩
    · rintro i x σ H3 H3' hi ⟨⟨w1, b3, rfl, iw, _⟩, s3⟩ ⟨rfl, hx⟩
      have ex := IsA.of_ints ix
      subst ex
      have hi' : i < os.length := by simpa using hi
      have e0 := at_int hi' hx
      obtain ⟨o1, o2⟩ := om _ (List.getElem_mem hi')
      obtain ⟨m, hm'⟩ : ∃ m : Nat, os[i] = (m : Int) := ⟨os[i].toNat, by omega⟩
      have hm2 : m < gs.length := by omega
      rw [hm'] at e0
      subst e0
      have et : nlQ (os.take (i + 1)) = nlQ (os.take i) ++ [m] := by
        rw [← List.take_append_getElem hi']
        unfold nlQ
        rw [List.map_append, hm']
        rfl
      have eg : gAt gs (m : Int) = gs[m] := gAt_nat (List.getElem?_eq_getElem hm2)
      have tz := valI_sz (gs := gs) (n := 20) (by decide) sz hz (nlQ (os.take i))
      have hlen := nll i
      have b41 : (2 * 20 + 1) * (nlQ (os.take i)).length ≤ 41 * 8 := Nat.mul_le_mul_left 41 (by omega)
      refine BR.gN 3 <| bOne <| sSet 2 <| eCall Gp hr tk <| aCons <| eCall Gs hr tk <| aCons <| eIx ix_seq <| eV 0 rfl <| eV 3 rfl <| ixD (i := m) (e := gD gs[m]) (iv.up s3) ed (by rw [List.getElem?_map, List.getElem?_eq_getElem hm2]; rfl) fun x1 i1 => aNil ⟨S, x1, "Gate", gs[m], 20, rfl, hS.up s3, fG, i1, sz _ (List.getElem_mem hm2), by decide, by decide, fun v5 H5 s5 i5 => aCons <| eV 2 rfl <| aNil ⟨S, v5, w1, gs[m], valI gs (p, q) (nlQ (os.take i)), 20, _, rfl, (hS.up s3).up s5, i5, iw.up s5, sz _ (List.getElem_mem hm2), tz, by decide, by omega, by omega, fun v6 H6 s6 i6 => ?_⟩⟩
      have i7 : Is R S H6 v6 (.tup [.int (valI gs (p, q) (nlQ (os.take (i + 1)))).1, .int (valI gs (p, q) (nlQ (os.take (i + 1)))).2]) := by
        rw [et, valI_snoc, eg]
        exact i6
      exact ⟨⟨v6, _, rfl, .inl i7, fun _ => i7⟩, (s3.trans s5).trans s6⟩
    · rintro σ H3 ⟨⟨w1, b3, rfl, iw, ip⟩, s3⟩
      have lx := ix.len
      rw [List.length_map] at lx
      rw [lx, List.take_length] at ip
      have o0 : 0 < os.length := List.length_pos_iff.mpr one
      exact bOne <| sRet <| eV 2 rfl <| k _ _ s3 (ip o0)
end
end BR

namespace BR
open PySem PySem.Spec PyProof.Rows L2
section
variable {P : Program} {w : World} {K : PySem.W.Frag} {mg : Str → Option Value} {base : Heap} {R : Rp}
theorem ok_spread {CE c PT : Addr} {T : List (Addr × Str)} (hK : R.K = K) (A : DefAtC K mg "spread" s_spread ["some", "order", "x"] c) (TB : TabB base mg c PT) (hmT : (PT, lamQ "spread") ∈ T) (hu : ∀ p ∈ T, p.1 = PT → p.2 = lamQ "spread")
    (Gk : DefG P w K mg base 3 "check_loose" ["some"] (spChkL R CE)) (Go : DefG P w K mg base 3 "check_order" ["gates", "order"] (spChkO R)) (GS : OverG P w K mg base 8 "spread_of" ["some", "worth_at"] (spSpreadOf P w mg R)) (GP : DefG P w K mg base 2 "passed_all" ["gates", "order", "fraction"] (spPassAll R)) :
    DefG P w K mg base 9 "spread" ["some", "order", "x"] (spSpread T R) := by
  subst hK
  obtain ⟨f, fd, F, hm, hb⟩ := A.ex
  refine ⟨f, fd, okL F sc_spread (fun vs H Q E h => ?_) fun X H vs Q E hX hr tk h => ?_, hm, F.kp, hb⟩
  · obtain ⟨v, u, t, ls, os, p, q, kk, rfl, _⟩ := h
    rfl
  · obtain ⟨A, outer, s, rfl⟩ := hX
    have hN := sc_spread.nd
    obtain ⟨v, u, t, ls, os, p, q, kk, rfl, hl, ho, hx, q0, hz, k0, k9, T0, k⟩ := h
    obtain ⟨d, il, el⟩ := hl.ex
    obtain ⟨e, io, eo⟩ := ho.ex
    obtain ⟨ol, om, ond⟩ := ord_facts ho.ok
    have l1 := hl.lo
    have l4 := hl.hi
    have lnone : ∀ {H' : Hp}, Live (fun _ => False) H' := Live.none
    refine bCons <| sExpr <| eCall Gk hr tk <| aCons <| eV 0 rfl <| aNil ⟨_, v, d, _, rfl, lnone, il, el, fun z => absurd (by rw [List.length_map]; exact ⟨l1, l4⟩) z, fun _ _ => ?_⟩
    refine bCons <| sExpr <| eCall Go hr tk <| aCons <| eV 0 rfl <| aCons <| eV 1 rfl <| aNil ⟨_, v, d, _, u, e, os, rfl, lnone, il, el, io, eo, by rw [List.length_map]; omega, by rw [List.length_map]; exact ho.ok, fun H1 s1 => ?_⟩
    refine bOne <| sRet <| eLam1 (p := "corner") (k := 3) s_spread N_spread GS TB rfl hmT hu hr tk <| eV 0 rfl ⟨T0.ext s1, fun H2 base' f' c' en T2 hco lv => ?_⟩
    have en2 : ExtN H H2 := (en_of s1).trans en
    refine ⟨fun _ => False, v, f', ls, wtQ os p q, 41 * os.length + kk, _, rfl, lnone, hl.en en2, lv, wtQ_sz hl.num q0 hz, by omega, by omega, fun S' u' cc H3 Q' E' s3 rg lvS iu hc kk' => ?_, fun v' H' s' i' => k _ _ (en2.trans (en_of s')) (T2.ext s') i'⟩
    refine ⟨u', rfl, s3 _ _ hco, fun A2 outer2 s2 H0 f2 c2 hr2 => ?_⟩
    obtain ⟨cl, cn⟩ := cornQ_mem ls cc hc
    have cn := cn hl.num
    have ho3 : OrdAt R S' H3 u cc.length os := by
      rw [cl]
      exact ((ho.en en2).regN rg).up s3
    exact eCall GP hr2 takes_lam1 <| aCons <| eV 0 rfl <| aCons <| eV 2 rfl <| aCons <| eV 3 rfl <| aNil ⟨S', u', u, t, _, cc, os, p, q, kk, rfl, lvS, iu, rfl, fun g hg => ⟨(cn g hg).f.sz, (cn g hg).a.sz⟩, ho3, fun z => by rw [z] at ol; have z0 : 0 = ls.length := ol; omega, by omega, ((hx.en en2).regN rg).up s3, hz, k0, k9, kk'⟩
end
end BR

namespace BR
open PySem PySem.Spec PyProof.Rows L2
section
variable {P : Program} {w : World} {K : PySem.W.Frag} {mg : Str → Option Value} {base : Heap} {R : Rp}
theorem ok_rgate9 (hK : R.K = K) (A : DefAt K mg "_law_random_gate" s__law_random_gate ["_law_rng_here"]) (G1 : DefG P w K mg base 1 "_law_draw" ["_law_rng_here", "_law_limit"] spDraw) (G2 : DefG P w K mg base 2 "_law_pick" ["_law_rng_here", "_law_items"] (spPick R))
    (G3 : DefG P w K mg base 1 "_law_fraction" ["_law_top", "_law_bottom"] (spLow2 R)) : DefG P w K mg base 3 "_law_random_gate" ["_law_rng_here"] (spRG9 R) := by
  subst hK
  obtain ⟨f, fd, F, hm, hb⟩ := A.ex
  refine ⟨f, fd, okN F sc__law_random_gate (fun vs H Q E h => ?_) fun X H vs Q E hX hr tk h => ?_, hm, F.kp, hb⟩
  · obtain ⟨s, rfl, _⟩ := h
    rfl
  · obtain ⟨cdv, A, outer, sh, rfl⟩ := hX
    have hN := sc__law_random_gate.nd
    obtain ⟨s, rfl, hs, k⟩ := h
    have ll := hs.live
    have l9 : (9 : Int).natAbs.log2 < 9000 := by decide +kernel
    have p4 : (2 : Nat) ^ 4 = 16 := rfl
    have p5 : (2 : Nat) ^ 5 = 32 := rfl
    refine bCons <| sSet 1 <| eLstD R (Src s) [.tup [.int 1, .int 1], .tup [.int 2, .int 1], .tup [.int 1, .int 2], .tup [.int 3, .int 1], .tup [.int 1, .int 3], .tup [.int 3, .int 2]] <|
      aCons <| eTupD R (Src s) [.int 1, .int 1] <| aCons <| eI <| aCons <| eI <| aNil ⟨ll, IsA.ints (is := [1, 1]), fun v1 H1 s1 i1 => ?_⟩
    refine aCons <| eTupD R (Src s) [.int 2, .int 1] <| aCons <| eI <| aCons <| eI <| aNil ⟨ll.up s1, IsA.ints (is := [2, 1]), fun v2 H2 s2 i2 => ?_⟩
    have t2 := s1.trans s2
    refine aCons <| eTupD R (Src s) [.int 1, .int 2] <| aCons <| eI <| aCons <| eI <| aNil ⟨ll.up t2, IsA.ints (is := [1, 2]), fun v3 H3 s3 i3 => ?_⟩
    have t3 := t2.trans s3
    refine aCons <| eTupD R (Src s) [.int 3, .int 1] <| aCons <| eI <| aCons <| eI <| aNil ⟨ll.up t3, IsA.ints (is := [3, 1]), fun v4 H4 s4 i4 => ?_⟩
    have t4 := t3.trans s4
    refine aCons <| eTupD R (Src s) [.int 1, .int 3] <| aCons <| eI <| aCons <| eI <| aNil ⟨ll.up t4, IsA.ints (is := [1, 3]), fun v5 H5 s5 i5 => ?_⟩
    have t5 := t4.trans s5
    refine aCons <| eTupD R (Src s) [.int 3, .int 2] <| aCons <| eI <| aCons <| eI <| aNil ⟨ll.up t5, IsA.ints (is := [3, 2]), fun v6 H6 s6 i6 => ?_⟩
    have t6 := t5.trans s6
    refine aNil ⟨ll.up t6, .cons (i1.up (s2.trans (s3.trans (s4.trans (s5.trans s6))))) (.cons (i2.up (s3.trans (s4.trans (s5.trans s6)))) (.cons (i3.up (s4.trans (s5.trans s6))) (.cons (i4.up (s5.trans s6)) (.cons (i5.up s6) (.cons i6 .nil))))), fun vl H7 s7 i7 => ?_⟩
    have d7 := Dr.same hs (t6.trans s7)
    clear i1 i2 i3 i4 i5 i6
    refine bCons <| sSet 2 <| eCall G2 hr tk <| aCons <| eV 0 rfl <| aCons <| eOp op_catR <| eV 1 rfl <| eLst <| aCons <| eCall G3 hr tk <| aCons <| eOp op_add <| eI <| eCall G1 hr tk <| aCons <| eV 0 rfl <| aCons <| eI <| aNil ⟨s, 9, rfl, d7.src, by decide, l9, fun r1 H8 d8 r1a r1b => ⟨_, _, rfl, rfl, ?_⟩⟩
    refine aCons <| eOp op_add <| eI <| eCall G1 hr tk <| aCons <| eV 0 rfl <| aCons <| eI <| aNil ⟨s, 9, rfl, d8.src, by decide, l9, fun r2 H9 d9 r2a r2b => ⟨_, _, rfl, rfl, ?_⟩⟩
    refine aNil ⟨Src s, 1 + r1, 1 + r2, 5, rfl, d9.src.live, by omega, by omega, by omega, by decide, fun v10 H10 s10 i10 _ => aNil ⟨by show 1 ≤ sizeLine; decide, fun q hq => ?_⟩⟩
    have sq := same_new (o := .lst [v10]) hq
    have d810 := (d8.trans d9).then s10
    have iq : Is R (Src s) (upd H10 q (.lst [v10])) (.ref q) (.lst [frac (mkQ (1 + r1) (1 + r2))]) := Is.newL d810.live hq (.cons i10 .nil)
    have d811 := d810.then sq
    refine catD (i7.dr d811) iq d811.live (by simp) fun v12 H12 s12 i12 => ?_
    have d12 := d7.trans (d811.then s12)
    refine aNil ⟨s, v12, _, rfl, d12.src, i12, by simp, by simp, fun i d x H13 d13 ed ix => ?_⟩
    obtain ⟨x1, x2, x3⟩ := low_small (a := 1 + r1) (b := 1 + r2) (m := 9) (n := 9) (by omega) (by omega) (by omega)
    have x4 := low_pos (a := 1 + r1) (b := 1 + r2) (by omega) (by omega)
    obtain ⟨p, u, rfl, y1, y2, y3, y4, y5, y6, y7⟩ : ∃ p u : Int, d = .tup [.int p, .int u] ∧ 1 ≤ p ∧ p ≤ 9 ∧ 1 ≤ u ∧ u ≤ 9 ∧ (p = u → p = 1 ∧ u = 1) ∧ p = (mkQ p u).num ∧ u = ((mkQ p u).den : Int) := by
      have m := List.mem_of_getElem? ed
      simp only [List.cons_append, List.nil_append, List.mem_cons, List.not_mem_nil, or_false] at m
      rcases m with rfl | rfl | rfl | rfl | rfl | rfl | rfl
      · exact ⟨1, 1, rfl, by decide, by decide, by decide, by decide, fun _ => ⟨rfl, rfl⟩, by decide +kernel, by decide +kernel⟩
      · exact ⟨2, 1, rfl, by decide, by decide, by decide, by decide, fun z => absurd z (by decide), by decide +kernel, by decide +kernel⟩
      · exact ⟨1, 2, rfl, by decide, by decide, by decide, by decide, fun z => absurd z (by decide), by decide +kernel, by decide +kernel⟩
      · exact ⟨3, 1, rfl, by decide, by decide, by decide, by decide, fun z => absurd z (by decide), by decide +kernel, by decide +kernel⟩
      · exact ⟨1, 3, rfl, by decide, by decide, by decide, by decide, fun z => absurd z (by decide), by decide +kernel, by decide +kernel⟩
      · exact ⟨3, 2, rfl, by decide, by decide, by decide, by decide, fun z => absurd z (by decide), by decide +kernel, by decide +kernel⟩
      · exact ⟨_, _, rfl, x4, by omega, x2, by omega, low_one, (low_low _ _ (by omega)).1, (low_low _ _ (by omega)).2⟩
    have d013 := d12.trans d13
    clear i12 iq i7 i10 ed d811 d810 d12 d7 d8 d9 x1 x2 x3 x4
    refine bCons <| sSet 3 <| eCall G2 hr tk <| aCons <| eV 0 rfl <| aCons <| ?_
    have ll := d013.live
    generalize hA : frac (mkQ 0 1) = dA
    clear hA
    refine eLst <| aCons <| eTupD R (Src s) [.int 0, .int 1] <| aCons <| eI <| aCons <| eI <| aNil ⟨ll, IsA.ints (is := [0, 1]), fun v1 H1 s1 i1 => ?_⟩
    refine aCons <| eTupD R (Src s) [.int 1, .int 1] <| aCons <| eI <| aCons <| eI <| aNil ⟨ll.up s1, IsA.ints (is := [1, 1]), fun v2 H2 s2 i2 => ?_⟩
    have t2 := s1.trans s2
    refine aCons <| eTupD R (Src s) [.int (-1), .int 1] <| aCons <| eUn un_neg <| eI ⟨_, rfl, aCons <| eI <| aNil ⟨ll.up t2, IsA.ints (is := [-1, 1]), fun v3 H3 s3 i3 => ?_⟩⟩
    have t3 := t2.trans s3
    refine aCons <| eCall G3 hr tk <| aCons <| eOp op_sub <| eCall G1 hr tk <| aCons <| eV 0 rfl <| aCons <| eI <| aNil ⟨s, 19, rfl, d013.src.up t3, by decide, by decide +kernel, fun r3 H4 d4 r3a r3b => eI ⟨_, _, rfl, rfl, ?_⟩⟩
    refine aCons <| eOp op_add <| eI <| eCall G1 hr tk <| aCons <| eV 0 rfl <| aCons <| eI <| aNil ⟨s, 4, rfl, d4.src, by decide, by decide +kernel, fun r4 H5 d5 r4a r4b => ⟨_, _, rfl, rfl, ?_⟩⟩
    refine aNil ⟨Src s, r3 - 9, 1 + r4, 5, rfl, d5.src.live, by omega, by omega, by omega, by decide, fun v6 H6 s6 i6 _ => ?_⟩
    have d36 := (d4.trans d5).then s6
    refine aNil ⟨by show 4 ≤ sizeLine; decide, fun q hq => ?_⟩
    have sq := same_new (o := .lst [v1, v2, v3, v6]) hq
    have d06 := (Dr.same d013.src t3).trans d36
    have iq : Is R (Src s) (upd H6 q (.lst [v1, v2, v3, v6])) (.ref q) (.lst [.tup [.int 0, .int 1], .tup [.int 1, .int 1], .tup [.int (-1), .int 1], frac (mkQ (r3 - 9) (1 + r4))]) :=
      Is.newL d06.live hq (.cons ((i1.up (s2.trans s3)).dr d36) (.cons ((i2.up s3).dr d36) (.cons (i3.dr d36) (.cons i6 .nil))))
    have d07 := d06.then sq
    refine aNil ⟨s, _, _, rfl, d07.src, iq, by simp, by simp, fun j d2 y H8 d8 ed2 iy => ?_⟩
    obtain ⟨x1, x2, x3⟩ := low_small (a := r3 - 9) (b := 1 + r4) (m := 9) (n := 4) (by omega) (by omega) (by omega)
    obtain ⟨a, b, rfl, z1, z2, z3, z4, z5⟩ : ∃ a b : Int, d2 = .tup [.int a, .int b] ∧ a.natAbs ≤ 9 ∧ 1 ≤ b ∧ b ≤ 4 ∧ a = (mkQ a b).num ∧ b = ((mkQ a b).den : Int) := by
      have m := List.mem_of_getElem? ed2
      simp only [List.mem_cons, List.not_mem_nil, or_false] at m
      rcases m with rfl | rfl | rfl | rfl
      · exact ⟨0, 1, rfl, by decide, by decide, by decide, by decide +kernel, by decide +kernel⟩
      · exact ⟨1, 1, rfl, by decide, by decide, by decide, by decide +kernel, by decide +kernel⟩
      · exact ⟨-1, 1, rfl, by decide, by decide, by decide, by decide +kernel, by decide +kernel⟩
      · exact ⟨_, _, rfl, x1, x2, x3, by rw [mkQ_self], by rw [mkQ_self]⟩
    have d18 := (d06.then sq).trans d8
    have ix8 := ix.dr d18
    refine bOne <| sRet <| eTupD R (Src s) [.tup [.int p, .int u], .tup [.int a, .int b]] <| aCons <| eV 2 rfl <| aCons <| eV 3 rfl <| aNil ⟨d18.live, .cons ix8 (.cons iy .nil), fun v9 H9 s9 i9 => ?_⟩
    exact k ⟨p, u, a, b⟩ _ _ ((d013.trans d18).then s9) i9 (CG.rnd y1 y2 y3 y4 y5 z1 z2 z3 z4 z5) ⟨y6, y7, z4, z5, z1, z3⟩
end
section
variable {P : Program} {w : World} {K : PySem.W.Frag} {mg : Str → Option Value} {base : Heap} {R : Rp}
theorem ok_lessC (hK : R.K = K) (A : DefAt K mg "_law_less" s__law_less ["_law_one", "_law_other"]) : DefG P w K mg base 1 "_law_less" ["_law_one", "_law_other"] (spLessL R) := by
  subst hK
  obtain ⟨f, fd, F, hm, hb⟩ := A.ex
  refine ⟨f, fd, okN F sc__law_less (fun vs H Q E h => ?_) fun X H vs Q E hX hr tk h => ?_, hm, F.kp, hb⟩
  · obtain ⟨S, v, u, n, r, t, rfl, _⟩ := h
    rfl
  · obtain ⟨cdv, A, outer, s, rfl⟩ := hX
    obtain ⟨S, v, u, n, r, t, rfl, hv, hu, n9, k⟩ := h
    obtain ⟨a, b, pv, b0, za, zb, er, n0⟩ := hv.ex
    obtain ⟨c, d, pu, d0, zc, zd, et, _⟩ := hu.ex
    have mW : ∀ {i j : Int}, i.natAbs < 2 ^ n → j.natAbs < 2 ^ n → CMulW i j := fun h k => wide_mul h k n0 n0 (by omega)
    refine bOne <| sRet <| eCmp op_lt <| eOp op_mulW <| eIx ix_seq <| eV 0 rfl <| eI <| ixP (i := 0) pv rfl <| eIx ix_seq <| eV 1 rfl <| eI <| ixP (i := 1) pu rfl ⟨_, _, rfl, rfl, mW za zd, ?_⟩
    refine eOp op_mulW <| eIx ix_seq <| eV 1 rfl <| eI <| ixP (i := 0) pu rfl <| eIx ix_seq <| eV 0 rfl <| eI <| ixP (i := 1) pv rfl ⟨_, _, rfl, rfl, mW zc zb, _, _, rfl, rfl, ?_⟩
    have e : decide (a * d < c * b) = decide (r < t) := by rw [decide_eq_decide, ← er, ← et]; exact (mkQ_lt2 b0 d0).symm
    show Q (V.bl (decide (a * d < c * b))) H
    rw [e]
    exact k
end
end BR

namespace BR
open PySem PySem.Spec PyProof.Rows L2
section
variable {P : Program} {w : World} {K : PySem.W.Frag} {mg : Str → Option Value} {base : Heap} {R : Rp}
theorem ok_eqLooV (hK : R.K = K) (LO : LooOk R) (A : MethAt K (R.CA "Loose") "__eq__" "Loose.__eq__" s_Loose_eq ["self", "other"]) (mI : mg "isinstance" = none) (TS : ClC R mg "Loose")
    (QG : MethG P w K mg base 1 (R.CA "Gate") "__eq__" ["self", "other"] (spEqF R mg "Gate")) (TG : EqC R mg "Gate") : MethG P w K mg base 3 (R.CA "Loose") "__eq__" ["self", "other"] (spEqV R loD) := by
  subst hK
  obtain ⟨f, fd, c0, m0, F, hb⟩ := A.ex
  refine ⟨f, fd, c0, m0, okN F sc_Loose_eq (fun vs H Q E h => ?_) fun X H vs Q E hX hr tk h => ?_, hb⟩
  · obtain ⟨S, S', x, y, l, l', rfl, _⟩ := h
    rfl
  · obtain ⟨cdv, A, outer, s, rfl⟩ := hX
    obtain ⟨S, S', x, y, l, l', rfl, hx, hy, k⟩ := h
    obtain ⟨a', dx', fs', rfl, e'⟩ := objP_ins (show Is R S' H y (.obj "Loose" _) from hy)
    refine bOne <| sRet <| eAnd3 <| eCB call_isi mI <| aCons <| eV 1 rfl <| aCons <| eGl (v := .ref (R.CA "Loose")) TS.nam.gC rfl <| aNil ⟨_, _, _, _, _, rfl, .own (R.CA "Loose"), TS.tyX e', kit_self _, _, rfl, iteT ?_⟩
    refine eCmp (op_eqO QG (hr.mono (by decide)) tk) <| eFld <| eV 0 rfl <| fldLo LO hx fun v1 f1 => eFld <| eV 1 rfl <| fldLo LO hy fun v2 f2 => ownQ (g := id) f1 TG (.inl rfl) f2 ⟨_, rfl, ?_⟩
    by_cases h1 : l.1 = l'.1
    · rw [id, decide_eq_true ⟨rfl, congrArg Prod.fst h1, congrArg Prod.snd h1⟩]
      refine iteT <| eCmp (op_eqO QG (hr.mono (by decide)) tk) <| eFld <| eV 0 rfl <| fldHi LO hx fun v1 f1 => eFld <| eV 1 rfl <| fldHi LO hy fun v2 f2 => ownQ (g := id) f1 TG (.inl rfl) f2 (k _ _ (Same.refl _) ?_)
      rw [id, decide_eq_true_iff]
      exact ⟨fun z => Prod.ext h1 (Prod.ext z.2.1 z.2.2), fun z => ⟨rfl, by rw [z], by rw [z]⟩⟩
    · rw [id, decide_eq_false fun z => h1 (Prod.ext z.2.1 z.2.2)]
      exact iteF (k _ _ (Same.refl _) ⟨fun z => (by cases z), fun z => absurd (congrArg Prod.fst z) h1⟩)
theorem fldSpV {S : Reg} {H : Hp} {x : V} {t : Rat × Rat × List G2 × List G2} {Q : VK} (L : SprOk R) (h : Is R S H x (spT t)) :
    ((∀ v, Is R S H v (frac t.1) → Q v H) → rFld R.K "least" x H Q) ∧ ((∀ v, Is R S H v (frac t.2.1) → Q v H) → rFld R.K "greatest" x H Q) ∧ ((∀ v, Is R S H v (.tup (t.2.2.1.map gD)) → Q v H) → rFld R.K "low" x H Q) ∧ ((∀ v, Is R S H v (.tup (t.2.2.2.map gD)) → Q v H) → rFld R.K "high" x H Q) :=
  ⟨fun q => fldD h L.cl L.n1 lk0 q, fun q => fldD (f := ("greatest" : Str)) h L.cl L.n2 ((lk1 (g := ("least" : Str)) (f := ("greatest" : Str)) (by decide +kernel)).trans lk0) q,
    fun q => fldD (f := ("low" : Str)) h L.cl L.n3 ((lk1 (g := ("least" : Str)) (f := ("low" : Str)) (by decide +kernel)).trans ((lk1 (g := ("greatest" : Str)) (f := ("low" : Str)) (by decide +kernel)).trans lk0)) q,
    fun q => fldD (f := ("high" : Str)) h L.cl L.n4 ((lk1 (g := ("least" : Str)) (f := ("high" : Str)) (by decide +kernel)).trans ((lk1 (g := ("greatest" : Str)) (f := ("high" : Str)) (by decide +kernel)).trans ((lk1 (g := ("low" : Str)) (f := ("high" : Str)) (by decide +kernel)).trans lk0))) q⟩
theorem ok_eqSprV (hK : R.K = K) (LS : SprOk R) (A : MethAt K (R.CA "Spread") "__eq__" "Spread.__eq__" s_Spread_eq ["self", "other"]) (mI : mg "isinstance" = none) (TS : ClC R mg "Spread")
    (QG : MethG P w K mg base 1 (R.CA "Gate") "__eq__" ["self", "other"] (spEqF R mg "Gate")) (TG : EqC R mg "Gate") : MethG P w K mg base 4 (R.CA "Spread") "__eq__" ["self", "other"] (spEqV R spT) := by
  subst hK
  obtain ⟨f, fd, c0, m0, F, hb⟩ := A.ex
  refine ⟨f, fd, c0, m0, okN F sc_Spread_eq (fun vs H Q E h => ?_) fun X H vs Q E hX hr tk h => ?_, hb⟩
  · obtain ⟨S, S', x, y, l, l', rfl, _⟩ := h
    rfl
  · obtain ⟨cdv, A, outer, s, rfl⟩ := hX
    obtain ⟨S, S', x, y, t, u, rfl, hx, hy, k⟩ := h
    obtain ⟨a', dx', fs', rfl, e'⟩ := objP_ins (show Is R S' H y (.obj "Spread" _) from hy)
    have E := eqV_fa (X := (cxOf (L2.CX P w) P w R.K mg base N_Spread_eq "Spread.__eq__" (defScope s_Spread_eq) f cdv A outer s H E).nox) (R := R) rfl QG TG tk
    refine bOne <| sRet <| eAnd5 <| eCB call_isi mI <| aCons <| eV 1 rfl <| aCons <| eGl (v := .ref (R.CA "Spread")) TS.nam.gC rfl <| aNil ⟨_, _, _, _, _, rfl, .own (R.CA "Spread"), TS.tyX e', kit_self _, _, rfl, iteT ?_⟩
    have ne : ∀ {b : Bool}, (t = u → False) → b = false → (b = true ↔ t = u) := fun z e => by rw [e]; exact ⟨fun q => (by cases q), fun q => (z q).elim⟩
    refine eCmp (op_eqD hr.units) <| eFld <| eV 0 rfl <| (fldSpV LS hx).1 fun v1 f1 => eFld <| eV 1 rfl <| (fldSpV LS hy).1 fun v2 f2 => eqD (S := fun _ => False) (f1.reg fun _ z => z.elim) (f2.reg fun _ z => z.elim) (okEq_frac _) (okEq_frac _) ⟨_, rfl, ?_⟩
    rw [eqv_frac]
    by_cases h1 : t.1 = u.1
    · rw [decide_eq_true h1]
      refine iteT <| eCmp (op_eqD hr.units) <| eFld <| eV 0 rfl <| (fldSpV LS hx).2.1 fun v1 f1 => eFld <| eV 1 rfl <| (fldSpV LS hy).2.1 fun v2 f2 => eqD (S := fun _ => False) (f1.reg fun _ z => z.elim) (f2.reg fun _ z => z.elim) (okEq_frac _) (okEq_frac _) ⟨_, rfl, ?_⟩
      rw [eqv_frac]
      by_cases h2 : t.2.1 = u.2.1
      · rw [decide_eq_true h2]
        refine iteT <| eCmp (op_eqV monV_fa E (hr.mono (by decide))) <| eFld <| eV 0 rfl <| (fldSpV LS hx).2.2.1 fun v1 f1 => eFld <| eV 1 rfl <| (fldSpV LS hy).2.2.1 fun v2 f2 => ?_
        obtain ⟨a1, xs1, rfl, g1, ax⟩ := f1.tupE
        obtain ⟨a2, ys1, rfl, g2, ay⟩ := f2.tupE
        refine ⟨_, _, _, _, decide (t.2.2.1 = u.2.2.1), rfl, rfl, g1, g2, prsV_fa ax ay (by rw [decide_eq_true_iff]), fun H2 s2 => ⟨_, rfl, ?_⟩⟩
        by_cases h3 : t.2.2.1 = u.2.2.1
        · rw [decide_eq_true h3]
          refine iteT <| eCmp (op_eqV monV_fa E (hr.mono (by decide))) <| eFld <| eV 0 rfl <| (fldSpV LS (hx.up s2)).2.2.2 fun v1 f1 => eFld <| eV 1 rfl <| (fldSpV LS (hy.up s2)).2.2.2 fun v2 f2 => ?_
          obtain ⟨a1, xs1, rfl, g1, ax⟩ := f1.tupE
          obtain ⟨a2, ys1, rfl, g2, ay⟩ := f2.tupE
          refine ⟨_, _, _, _, decide (t.2.2.2 = u.2.2.2), rfl, rfl, g1, g2, prsV_fa ax ay (by rw [decide_eq_true_iff]), fun H3 s3 => k _ _ (s2.trans s3) ?_⟩
          rw [decide_eq_true_iff]
          exact ⟨fun z => Prod.ext h1 (Prod.ext h2 (Prod.ext h3 z)), fun z => by rw [z]⟩
        · rw [decide_eq_false h3]
          exact iteF (k _ _ s2 (ne (fun z => h3 (by rw [z])) rfl))
      · rw [decide_eq_false h2]
        exact iteF (k _ _ (Same.refl _) (ne (fun z => h2 (by rw [z])) rfl))
    · rw [decide_eq_false h1]
      exact iteF (k _ _ (Same.refl _) (ne (fun z => h1 (by rw [z])) rfl))
end
end BR

namespace BR
open PySem PySem.Spec PyProof.Rows L2
section
variable {P : Program} {w : World} {K : PySem.W.Frag} {mg : Str → Option Value} {base : Heap} {R : Rp}
theorem ok_eqXV (hK : R.K = K) (A : MethAt K (R.CA "Exchange") "__eq__" "Exchange.__eq__" s_Exchange_eq ["self", "other"]) (mI : mg "isinstance" = none) (T : ClC R mg "Exchange") (c : ExOk R) : MethG P w K mg base 1 (R.CA "Exchange") "__eq__" ["self", "other"] (spEqV R exT) := by
  subst hK
  obtain ⟨f, fd, c0, m0, F, hb⟩ := A.ex
  refine ⟨f, fd, c0, m0, okN F sc_Exchange_eq (fun vs H Q E h => ?_) fun X H vs Q E hX hr tk h => ?_, hb⟩
  · obtain ⟨S, S', x, y, l, l', rfl, _⟩ := h
    rfl
  · obtain ⟨cdv, A, outer, s, rfl⟩ := hX
    obtain ⟨S, S', x, y, ⟨b, m, e, r⟩, ⟨b', m', e', r'⟩, rfl, hx, hy, k⟩ := h
    have hx : Is R S H x (exDI b m e r) := hx
    have hy : Is R S' H y (exDI b' m' e' r') := hy
    have k : ∀ z : Bool, (z = true ↔ b = b' ∧ m = m' ∧ e = e' ∧ r = r') → Q (.bl z) H := fun z i => k H z (Same.refl _) (by rw [i]; simp)
    obtain ⟨a', dx', fs', rfl, e1⟩ := obj_ins hy
    refine bOne <| sRet <| eAnd5 <| eCB call_isi mI <| aCons <| eV 1 rfl <| aCons <| eGl (v := .ref (R.CA "Exchange")) T.nam.gC rfl <| aNil ⟨_, _, _, _, _, rfl, .own (R.CA "Exchange"), T.tyX e1, kit_self _, _, rfl, iteT ?_⟩
    refine eCmp (op_eqD hr.units) <| eFld <| eV 0 rfl <| fldXb hx c <| eFld <| eV 1 rfl <| fldXb hy c <| eqD (R := R) (S := fun _ => False) (.int b) (.int b') (okEq_int _) (okEq_int _) ⟨_, rfl, ?_⟩
    rw [eqv_int]
    by_cases h1 : b = b'
    · rw [decide_eq_true h1]
      refine iteT <| eCmp (op_eqD hr.units) <| eFld <| eV 0 rfl <| fldXm hx c <| eFld <| eV 1 rfl <| fldXm hy c <| eqD (R := R) (S := fun _ => False) (.int m) (.int m') (okEq_int _) (okEq_int _) ⟨_, rfl, ?_⟩
      rw [eqv_int]
      by_cases h2 : m = m'
      · rw [decide_eq_true h2]
        refine iteT <| eCmp (op_eqD hr.units) <| eFld <| eV 0 rfl <| fldXe hx c <| eFld <| eV 1 rfl <| fldXe hy c <| eqD (R := R) (S := fun _ => False) (.int e) (.int e') (okEq_int _) (okEq_int _) ⟨_, rfl, ?_⟩
        rw [eqv_int]
        by_cases h3 : e = e'
        · rw [decide_eq_true h3]
          refine iteT <| eCmp (op_eqD hr.units) <| eFld <| eV 0 rfl <| fldXw hx c fun v3 f3 => eFld <| eV 1 rfl <| fldXw hy c fun v4 f4 => eqD (S := fun _ => False) (f3.reg fun _ z => z.elim) (f4.reg fun _ z => z.elim) (okEq_frac _) (okEq_frac _) ?_
          rw [eqv_frac]
          exact k _ (by simp [h1, h2, h3])
        · rw [decide_eq_false h3]
          exact iteF (k _ (by simp [h3]))
      · rw [decide_eq_false h2]
        exact iteF (k _ (by simp [h2]))
    · rw [decide_eq_false h1]
      exact iteF (k _ (by simp [h1]))
theorem fldDbV {S : Reg} {H : Hp} {x : V} {c : List G2} {e : D} {Q : VK} (L : DbtOk R) (h : Is R S H x (dbtD c e)) :
    ((∀ v, Is R S H v (.tup (c.map gD)) → Q v H) → rFld R.K "corner" x H Q) ∧ ((∀ v, Is R S H v e → Q v H) → rFld R.K "exchange" x H Q) :=
  ⟨fun q => fldD h L.cl L.n1 lk0 q, fun q => fldD (f := ("exchange" : Str)) h L.cl L.n2 ((lk1 (g := ("corner" : Str)) (f := ("exchange" : Str)) (by decide +kernel)).trans lk0) q⟩
theorem ok_eqDbtV (hK : R.K = K) (LD : DbtOk R) (A : MethAt K (R.CA "Doubt") "__eq__" "Doubt.__eq__" s_Doubt_eq ["self", "other"]) (mI : mg "isinstance" = none) (TD : ClC R mg "Doubt")
    (QG : MethG P w K mg base 1 (R.CA "Gate") "__eq__" ["self", "other"] (spEqF R mg "Gate")) (TG : EqC R mg "Gate") (QX : MethG P w K mg base 1 (R.CA "Exchange") "__eq__" ["self", "other"] (spEqV R exT)) : MethG P w K mg base 4 (R.CA "Doubt") "__eq__" ["self", "other"] (spEqV R dbT) := by
  subst hK
  obtain ⟨f, fd, c0, m0, F, hb⟩ := A.ex
  refine ⟨f, fd, c0, m0, okN F sc_Doubt_eq (fun vs H Q E h => ?_) fun X H vs Q E hX hr tk h => ?_, hb⟩
  · obtain ⟨S, S', x, y, l, l', rfl, _⟩ := h
    rfl
  · obtain ⟨cdv, A, outer, s, rfl⟩ := hX
    obtain ⟨S, S', x, y, t, u, rfl, hx, hy, k⟩ := h
    obtain ⟨a', dx', fs', rfl, e'⟩ := objP_ins (show Is R S' H y (.obj "Doubt" _) from hy)
    have E := eqV_fa (X := (cxOf (L2.CX P w) P w R.K mg base N_Doubt_eq "Doubt.__eq__" (defScope s_Doubt_eq) f cdv A outer s H E).nox) (R := R) rfl QG TG tk
    refine bOne <| sRet <| eAnd3 <| eCB call_isi mI <| aCons <| eV 1 rfl <| aCons <| eGl (v := .ref (R.CA "Doubt")) TD.nam.gC rfl <| aNil ⟨_, _, _, _, _, rfl, .own (R.CA "Doubt"), TD.tyX e', kit_self _, _, rfl, iteT ?_⟩
    refine eCmp (op_eqV monV_fa E (hr.mono (by decide))) <| eFld <| eV 0 rfl <| (fldDbV LD hx).1 fun v1 f1 => eFld <| eV 1 rfl <| (fldDbV LD hy).1 fun v2 f2 => ?_
    obtain ⟨a1, xs1, rfl, g1, ax⟩ := f1.tupE
    obtain ⟨a2, ys1, rfl, g2, ay⟩ := f2.tupE
    refine ⟨_, _, _, _, decide (t.1 = u.1), rfl, rfl, g1, g2, prsV_fa ax ay (by rw [decide_eq_true_iff]), fun H2 s2 => ⟨_, rfl, ?_⟩⟩
    by_cases h1 : t.1 = u.1
    · rw [decide_eq_true h1]
      refine iteT <| eCmp (op_eqO QX (hr.mono (by decide)) tk) <| eFld <| eV 0 rfl <| (fldDbV LD (hx.up s2)).2 fun v3 f3 => eFld <| eV 1 rfl <| (fldDbV LD (hy.up s2)).2 fun v4 f4 => ownV (d := exT) (c := "Exchange") (g := id) (fun _ => rfl) f3 f4 fun H3 b s3 i => k _ _ (s2.trans s3) ?_
      rw [id, i]
      exact ⟨fun z => Prod.ext h1 z, fun z => by rw [z]⟩
    · rw [decide_eq_false h1]
      exact iteF (k _ _ s2 ⟨fun z => (by cases z), fun z => absurd (congrArg Prod.fst z) h1⟩)
end
end BR

namespace BR
open PySem PySem.Spec PyProof.Rows L2
section
variable {R : Rp} {S T : Reg} {H : Hp}
end
/-- no tuple, list or None is a C -/
structure SeqNo (K : PySem.W.Frag) (C : Addr) : Prop where
  tup : PySem.W.subIn K (.type "tuple") (.ref C) = some false
  lst : PySem.W.subIn K (.type "list") (.ref C) = some false
  non : PySem.W.subIn K (.type "NoneType") (.ref C) = some false
theorem kitV {K : PySem.W.Frag} {mg : Str → Option Value} {x t : Str} {C : Addr} {b : Bool} (T : NamC K mg x C) {T' : String} (s : PySem.W.subIn K (.type T') (.ref C) = some b) : PySem.W.kitOne K (.type T') (.ref C) = some b := by
  unfold PySem.W.kitOne
  rw [if_neg (by simp)]
  obtain ⟨cd, hc, _⟩ := PySem.W.any_some T.hd
  unfold PySem.W.kitCls
  simp only [hc, T.ty, Option.isSome_some, Bool.true_and, beq_self_eq_true, if_true]
  exact s
/-- == of an own instance and what is no own instance: False -/
def spEqO (R : Rp) : Sp := fun vs H Q _ => ∃ x y T, vs = [x, y] ∧ TyX R.K H y (.type T) ∧ (T = "tuple" ∨ T = "list" ∨ T = "NoneType") ∧ Q (.bl false) H
section
variable {P : Program} {w : World} {K : PySem.W.Frag} {mg : Str → Option Value} {base : Heap} {R : Rp}
end
theorem eqvAll_tI : ∀ l m : List Int, PyData.eqvAll (D.pys (l.map D.int)) (D.pys (m.map D.int)) = decide (l = m)
  | [], [] => by simp [D.pys, PyData.eqvAll]
  | [], b :: m => by simp [D.pys, PyData.eqvAll]
  | a :: l, [] => by simp [D.pys, PyData.eqvAll]
  | a :: l, b :: m => by
    have ih := eqvAll_tI l m
    simp only [List.map_cons, D.pys, PyData.eqvAll, D.py, PyData.eqv, ih]
    by_cases h : a = b
    · by_cases h2 : l = m
      · simp [h, h2]
      · simp [h, h2]
    · simp [h]
theorem eqv_tI (l m : List Int) : D.eqv (.tup (l.map D.int)) (.tup (m.map D.int)) = decide (l = m) := by
  have e := eqvAll_tI l m
  simpa only [D.eqv, D.py, PyData.eqv] using e
/-- == of an own instance and one of another class: False -/
def spEqC (R : Rp) (mg : Str → Option Value) (c : Str) : Sp := fun vs H Q _ => ∃ (x : V) (a dx : Addr) (fs : List (Str × V)) (c' : Str), vs = [x, .ref a] ∧ H a = some (.ins (R.CA c') dx fs) ∧ ClC R mg c' ∧ PySem.W.kitOne R.K (.ref (R.CA c')) (.ref (R.CA c)) = some false ∧ Q (.bl false) H
section
variable {P : Program} {w : World} {K : PySem.W.Frag} {mg : Str → Option Value} {base : Heap} {R : Rp}
theorem ok_eqSolV (hK : R.K = K) (A : MethAt K (R.CA "Solved") "__eq__" "Solved.__eq__" s_Solved_eq ["self", "other"]) (mI : mg "isinstance" = none) (TS : ClC R mg "Solved") (n1 : NoAttr K (R.CA "Solved") "line") (n2 : NoAttr K (R.CA "Solved") "order")
    (QL : MethG P w K mg base 1 (R.CA "Line") "__eq__" ["self", "other"] (spEqF R mg "Line")) (TL : EqC R mg "Line") : MethG P w K mg base 3 (R.CA "Solved") "__eq__" ["self", "other"] (spEqV R solD) := by
  subst hK
  obtain ⟨f, fd, c0, m0, F, hb⟩ := A.ex
  refine ⟨f, fd, c0, m0, okN F sc_Solved_eq (fun vs H Q E h => ?_) fun X H vs Q E hX hr tk h => ?_, hb⟩
  · obtain ⟨S, S', x, y, l, l', rfl, _⟩ := h
    rfl
  · obtain ⟨cdv, A, outer, s, rfl⟩ := hX
    obtain ⟨S, S', x, y, t, u, rfl, hx, hy, k⟩ := h
    obtain ⟨a', dx', fs', rfl, e'⟩ := sol_ins hy
    have cS := TS.cls
    refine bOne <| sRet <| eAnd3 <| eCB call_isi mI <| aCons <| eV 1 rfl <| aCons <| eGl (v := .ref (R.CA "Solved")) TS.nam.gC rfl <| aNil ⟨_, _, _, _, _, rfl, .own (R.CA "Solved"), TS.tyX e', kit_self _, _, rfl, iteT ?_⟩
    refine eCmp (op_eqO QL (hr.mono (by decide)) tk) <| eFld <| eV 0 rfl <| fldD hx cS n1 lk0 fun v1 f1 => eFld <| eV 1 rfl <| fldD hy cS n1 lk0 fun v2 f2 => ownQ (g := id) f1 TL (.inl rfl) f2 ⟨_, rfl, ?_⟩
    by_cases h1 : t.1 = u.1
    · rw [id, decide_eq_true ⟨rfl, congrArg Prod.fst h1, congrArg Prod.snd h1⟩]
      refine iteT <| eCmp (op_eqD hr.units) <| eFld <| eV 0 rfl <| fldD (f := ("order" : Str)) hx cS n2 ((lk1 (g := ("line" : Str)) (f := ("order" : Str)) (by decide +kernel)).trans lk0) fun v3 f3 => eFld <| eV 1 rfl <| fldD (f := ("order" : Str)) hy cS n2 ((lk1 (g := ("line" : Str)) (f := ("order" : Str)) (by decide +kernel)).trans lk0) fun v4 f4 => ?_
      refine eqD (S := fun _ => False) (f3.reg fun _ z => z.elim) (f4.reg fun _ z => z.elim) (okEq_tup _) (okEq_tup _) (k _ _ (Same.refl _) ?_)
      rw [eqv_tI, decide_eq_true_iff]
      exact ⟨fun z => Prod.ext h1 z, fun z => by rw [z]⟩
    · rw [id, decide_eq_false fun z => h1 (Prod.ext z.2.1 z.2.2)]
      exact iteF (k _ _ (Same.refl _) ⟨fun z => (by cases z), fun z => absurd (congrArg Prod.fst z) h1⟩)
theorem kitO {C : Addr} {x : Str} {T' : String} (T : NamC K mg x C) (N : SeqNo K C) (hc : T' = "tuple" ∨ T' = "list" ∨ T' = "NoneType") : PySem.W.kitOne K (.type T') (.ref C) = some false := by
  rcases hc with rfl | rfl | rfl
  · exact kitV (t := "") T N.tup
  · exact kitV (t := "") T N.lst
  · exact kitV (t := "") T N.non
theorem ok_eqLooO (hK : R.K = K) (A : MethAt K (R.CA "Loose") "__eq__" "Loose.__eq__" s_Loose_eq ["self", "other"]) (mI : mg "isinstance" = none) (T : ClC R mg "Loose") (N : SeqNo K (R.CA "Loose")) : MethG P w K mg base 1 (R.CA "Loose") "__eq__" ["self", "other"] (spEqO R) := by
  subst hK
  obtain ⟨f, fd, c0, m0, F, hb⟩ := A.ex
  refine ⟨f, fd, c0, m0, okN F sc_Loose_eq (fun vs H Q E h => ?_) fun X H vs Q E hX hr tk h => ?_, hb⟩
  · obtain ⟨x, y, t, rfl, _⟩ := h
    rfl
  · obtain ⟨cdv, A, outer, s, rfl⟩ := hX
    obtain ⟨x, y, t, rfl, ht, hc, k⟩ := h
    exact bOne <| sRet <| eAnd3 <| eCB call_isi mI <| aCons <| eV 1 rfl <| aCons <| eGl (v := .ref (R.CA "Loose")) T.nam.gC rfl <| aNil ⟨_, _, _, _, false, rfl, .own (R.CA "Loose"), ht, kitO T.nam N hc, _, rfl, iteF k⟩
theorem ok_eqSprO (hK : R.K = K) (A : MethAt K (R.CA "Spread") "__eq__" "Spread.__eq__" s_Spread_eq ["self", "other"]) (mI : mg "isinstance" = none) (T : ClC R mg "Spread") (N : SeqNo K (R.CA "Spread")) : MethG P w K mg base 1 (R.CA "Spread") "__eq__" ["self", "other"] (spEqO R) := by
  subst hK
  obtain ⟨f, fd, c0, m0, F, hb⟩ := A.ex
  refine ⟨f, fd, c0, m0, okN F sc_Spread_eq (fun vs H Q E h => ?_) fun X H vs Q E hX hr tk h => ?_, hb⟩
  · obtain ⟨x, y, t, rfl, _⟩ := h
    rfl
  · obtain ⟨cdv, A, outer, s, rfl⟩ := hX
    obtain ⟨x, y, t, rfl, ht, hc, k⟩ := h
    exact bOne <| sRet <| eAnd5 <| eCB call_isi mI <| aCons <| eV 1 rfl <| aCons <| eGl (v := .ref (R.CA "Spread")) T.nam.gC rfl <| aNil ⟨_, _, _, _, false, rfl, .own (R.CA "Spread"), ht, kitO T.nam N hc, _, rfl, iteF k⟩
theorem ok_eqExO (hK : R.K = K) (A : MethAt K (R.CA "Exchange") "__eq__" "Exchange.__eq__" s_Exchange_eq ["self", "other"]) (mI : mg "isinstance" = none) (T : ClC R mg "Exchange") (N : SeqNo K (R.CA "Exchange")) : MethG P w K mg base 1 (R.CA "Exchange") "__eq__" ["self", "other"] (spEqO R) := by
  subst hK
  obtain ⟨f, fd, c0, m0, F, hb⟩ := A.ex
  refine ⟨f, fd, c0, m0, okN F sc_Exchange_eq (fun vs H Q E h => ?_) fun X H vs Q E hX hr tk h => ?_, hb⟩
  · obtain ⟨x, y, t, rfl, _⟩ := h
    rfl
  · obtain ⟨cdv, A, outer, s, rfl⟩ := hX
    obtain ⟨x, y, t, rfl, ht, hc, k⟩ := h
    exact bOne <| sRet <| eAnd5 <| eCB call_isi mI <| aCons <| eV 1 rfl <| aCons <| eGl (v := .ref (R.CA "Exchange")) T.nam.gC rfl <| aNil ⟨_, _, _, _, false, rfl, .own (R.CA "Exchange"), ht, kitO T.nam N hc, _, rfl, iteF k⟩
theorem ok_eqDbtO (hK : R.K = K) (A : MethAt K (R.CA "Doubt") "__eq__" "Doubt.__eq__" s_Doubt_eq ["self", "other"]) (mI : mg "isinstance" = none) (T : ClC R mg "Doubt") (N : SeqNo K (R.CA "Doubt")) : MethG P w K mg base 1 (R.CA "Doubt") "__eq__" ["self", "other"] (spEqO R) := by
  subst hK
  obtain ⟨f, fd, c0, m0, F, hb⟩ := A.ex
  refine ⟨f, fd, c0, m0, okN F sc_Doubt_eq (fun vs H Q E h => ?_) fun X H vs Q E hX hr tk h => ?_, hb⟩
  · obtain ⟨x, y, t, rfl, _⟩ := h
    rfl
  · obtain ⟨cdv, A, outer, s, rfl⟩ := hX
    obtain ⟨x, y, t, rfl, ht, hc, k⟩ := h
    exact bOne <| sRet <| eAnd3 <| eCB call_isi mI <| aCons <| eV 1 rfl <| aCons <| eGl (v := .ref (R.CA "Doubt")) T.nam.gC rfl <| aNil ⟨_, _, _, _, false, rfl, .own (R.CA "Doubt"), ht, kitO T.nam N hc, _, rfl, iteF k⟩
theorem ok_eqSolO (hK : R.K = K) (A : MethAt K (R.CA "Solved") "__eq__" "Solved.__eq__" s_Solved_eq ["self", "other"]) (mI : mg "isinstance" = none) (T : ClC R mg "Solved") (N : SeqNo K (R.CA "Solved")) : MethG P w K mg base 1 (R.CA "Solved") "__eq__" ["self", "other"] (spEqO R) := by
  subst hK
  obtain ⟨f, fd, c0, m0, F, hb⟩ := A.ex
  refine ⟨f, fd, c0, m0, okN F sc_Solved_eq (fun vs H Q E h => ?_) fun X H vs Q E hX hr tk h => ?_, hb⟩
  · obtain ⟨x, y, t, rfl, _⟩ := h
    rfl
  · obtain ⟨cdv, A, outer, s, rfl⟩ := hX
    obtain ⟨x, y, t, rfl, ht, hc, k⟩ := h
    exact bOne <| sRet <| eAnd3 <| eCB call_isi mI <| aCons <| eV 1 rfl <| aCons <| eGl (v := .ref (R.CA "Solved")) T.nam.gC rfl <| aNil ⟨_, _, _, _, false, rfl, .own (R.CA "Solved"), ht, kitO T.nam N hc, _, rfl, iteF k⟩
theorem ok_eqGateC (hK : R.K = K) (A : MethAt K (R.CA "Gate") "__eq__" "Gate.__eq__" s_Gate_eq ["self", "other"]) (mI : mg "isinstance" = none) (T : EqC R mg "Gate") : MethG P w K mg base 1 (R.CA "Gate") "__eq__" ["self", "other"] (spEqC R mg "Gate") := by
  subst hK
  obtain ⟨f, fd, c0, m0, F, hb⟩ := A.ex
  refine ⟨f, fd, c0, m0, okN F sc_Gate_eq (fun vs H Q E h => ?_) fun X H vs Q E hX hr tk h => ?_, hb⟩
  · obtain ⟨x, a, dx, fs, c', rfl, _⟩ := h
    rfl
  · obtain ⟨cdv, A, outer, s, rfl⟩ := hX
    obtain ⟨x, a, dx, fs, c', rfl, e, C', kt, k⟩ := h
    exact bOne <| sRet <| eAnd3 <| eCB call_isi mI <| aCons <| eV 1 rfl <| aCons <| eGl (v := .ref (R.CA "Gate")) T.nam.gC rfl <| aNil ⟨_, _, _, _, false, rfl, .own (R.CA "Gate"), C'.tyX e, kt, _, rfl, iteF k⟩
end
end BR

namespace BR
open PySem PySem.Spec PyProof.Rows L2
section
variable {P : Program} {w : World} {K : PySem.W.Frag} {mg : Str → Option Value} {base : Heap} {R : Rp}
theorem ok_exch {C : Addr} (hK : R.K = K) (hC : R.CA "Exchange" = C) (A : InitAt K mg "Exchange" "Exchange.__init__" C s_Exchange_init ["self", "begin", "middle", "end", "worth"]) (c : ExOk R) (G2 : DefG P w K mg base 2 "lowest" ["fraction"] (spLow R)) :
    MakeG P w K mg base 3 "Exchange" C ["self", "begin", "middle", "end", "worth"] (spExch R) := by
  subst hK
  subst hC
  obtain ⟨f, fd, M, F, hm, hb⟩ := A.ex
  refine ⟨f, fd, M, okN F sc_Exchange_init (fun vs H Q E h => ?_) fun X H vs Q E hX hr tk h => ?_, hm, hb⟩
  · obtain ⟨S, H0, n, dx, x, i, r, b, m, e, rfl, _⟩ := h
    rfl
  · obtain ⟨cdv, A, outer, s, rfl⟩ := hX
    have hN := sc_Exchange_init.nd
    obtain ⟨S, H0, n, dx, x, i, r, b, m, e, rfl, s0, n0, hn, l0, hx, i9, kQ⟩ := h
    obtain ⟨p, q, px, q0, pn, qn, rfl, _⟩ := hx.ex
    have st : ∀ {H' : Hp} {fs : List (Str × V)}, Same H0 H' → Same H0 (upd H' n (.ins (R.CA "Exchange") dx fs)) := fun {H' fs} s' a o e => by
      rw [upd_ne (ne_of_none e n0)]
      exact s' _ _ e
    refine bCons <| sFld <| eV 1 rfl <| eV 0 rfl ⟨n, _, dx, [], rfl, hn, c.cl, c.n1, by show 0 < 1000; decide, ?_⟩
    refine bCons <| sFld <| eV 2 rfl <| eV 0 rfl ⟨n, _, dx, _, rfl, upd_same, c.cl, c.n2, by show 1 < 1000; decide, ?_⟩
    refine bCons <| sFld <| eV 3 rfl <| eV 0 rfl ⟨n, _, dx, _, rfl, upd_same, c.cl, c.n3, by rw [putF_nil, putF_ne (by decide +kernel), putF_nil]; show 2 < 1000; decide, ?_⟩
    have ef : putF "end" (V.int e) (putF "middle" (V.int m) (putF "begin" (V.int b) [])) = ([("begin", .int b), ("middle", .int m), ("end", .int e)] : List (Str × V)) := by
      rw [putF_nil, putF_ne (by decide +kernel), putF_nil, putF_ne (by decide +kernel), putF_ne (by decide +kernel), putF_nil]
    rw [ef]
    have s4 := st (H' := upd (upd H n (.ins (R.CA "Exchange") dx (putF "begin" (V.int b) []))) n (.ins (R.CA "Exchange") dx (putF "middle" (V.int m) (putF "begin" (V.int b) [])))) (fs := ([("begin", .int b), ("middle", .int m), ("end", .int e)] : List (Str × V))) (st (st s0))
    have hn4 : upd (upd (upd H n (.ins (R.CA "Exchange") dx (putF "begin" (V.int b) []))) n (.ins (R.CA "Exchange") dx (putF "middle" (V.int m) (putF "begin" (V.int b) [])))) n (.ins (R.CA "Exchange") dx ([("begin", .int b), ("middle", .int m), ("end", .int e)] : List (Str × V))) n = some (.ins (R.CA "Exchange") dx ([("begin", .int b), ("middle", .int m), ("end", .int e)] : List (Str × V))) := upd_same
    generalize upd (upd (upd H n (.ins (R.CA "Exchange") dx (putF "begin" (V.int b) []))) n (.ins (R.CA "Exchange") dx (putF "middle" (V.int m) (putF "begin" (V.int b) [])))) n (.ins (R.CA "Exchange") dx ([("begin", .int b), ("middle", .int m), ("end", .int e)] : List (Str × V))) = H4 at s4 hn4
    refine bOne <| sFld <| eCall G2 hr tk <| aCons <| eV 4 rfl <| aNil ⟨S, x, p, q, i, rfl, l0.up s4, px.up s4, q0, pn, qn, i9, fun v5 H5 s5 f5 z5 => ?_⟩
    have hn5 := s5 _ _ hn4
    refine eV 0 rfl ⟨n, _, dx, _, rfl, hn5, c.cl, c.n4, by show 3 < 1000; decide, ?_⟩
    refine kQ _ (st (s4.trans s5)) ?_ z5
    refine .obj (l0.new n0) upd_same ?_
    have ep : putF "worth" v5 ([("begin", .int b), ("middle", .int m), ("end", .int e)] : List (Str × V)) = ([("begin", .int b), ("middle", .int m), ("end", .int e), ("worth", v5)] : List (Str × V)) := by
      rw [putF_ne (by decide +kernel), putF_ne (by decide +kernel), putF_ne (by decide +kernel), putF_nil]
    rw [ep]
    have k6 := kpI_upd (C' := R.CA "Exchange") (dx' := dx) (fs' := ([("begin", .int b), ("middle", .int m), ("end", .int e), ("worth", v5)] : List (Str × V))) hn5
    exact .cons (.int _) (.cons (.int _) (.cons (.int _) (.cons (Is.kpI k6 f5 rfl) .nil)))
end
section
variable {P : Program} {w : World} {K : PySem.W.Frag} {mg : Str → Option Value} {base : Heap} {R : Rp}
theorem ok_Solved {C : Addr} (hK : R.K = K) (hC : R.CA "Solved" = C) (A : InitAt K mg "Solved" "Solved.__init__" C s_Solved_init ["self", "line", "order"]) (c : Cls K C) (n1 : NoAttr K C "line") (n2 : NoAttr K C "order") (mT : mg "tuple" = none) : MakeG P w K mg base 1 "Solved" C ["self", "line", "order"] (spSolvedI R) := by
  subst hK
  subst hC
  obtain ⟨f, fd, M, F, hm, hb⟩ := A.ex
  refine ⟨f, fd, M, okN F sc_Solved_init (fun vs H Q E h => ?_) fun X H vs Q E hX hr tk h => ?_, hm, hb⟩
  · obtain ⟨S, H0, m, dx, x, y, g, d, os, rfl, _⟩ := h
    rfl
  · obtain ⟨cdv, A, outer, s, rfl⟩ := hX
    have hN := sc_Solved_init.nd
    obtain ⟨S, H0, m, dx, x, y, g, d, os, rfl, s0, m0, hm', l0, hx, hy, hd, k⟩ := h
    obtain ⟨T, hT⟩ : ∃ T : Reg, T = fun a => S a ∨ a = m := ⟨_, rfl⟩
    have rg : ∀ a, T a → S a ∨ H0 a = none := fun a z => by
      rw [hT] at z
      exact z.imp id fun e => by rw [e]; exact m0
    have hxT : Is R T H x (faD "Line" g.1 g.2) := (hx.regN rg).up s0
    have hyT : Is R T H y d := (hy.regN rg).up s0
    have kz : ∀ {H' : Hp} {o : HO}, Kp T H' (upd H' m o) := fun {H' o} => kp_in (by rw [hT]; exact .inr rfl)
    refine bCons <| sFld <| eV 1 rfl <| eV 0 rfl ⟨m, _, dx, [], rfl, hm', c, n1, by show 0 < 1000; decide, ?_⟩
    have hm1 : upd H m (.ins (R.CA "Solved") dx (putF "line" x [])) m = some (.ins (R.CA "Solved") dx (putF "line" x [])) := upd_same
    have l1 : Live T (upd H m (.ins (R.CA "Solved") dx (putF "line" x []))) := fun a z => by
      rw [hT] at z
      rcases z with z | z
      · by_cases ne : a = m
        · rw [ne, upd_same]
          exact fun q => by cases q
        · rw [upd_ne ne]
          exact l0.up s0 a z
      · rw [z, upd_same]
        exact fun q => by cases q
    have hx1 := hxT.go (kz (o := .ins (R.CA "Solved") dx (putF "line" x [])))
    have hy1 := hyT.go (kz (o := .ins (R.CA "Solved") dx (putF "line" x [])))
    have s1 : ∀ b o, H0 b = some o → upd H m (.ins (R.CA "Solved") dx (putF "line" x [])) b = some o := fun b o e => by
      rw [upd_ne (ne_of_none e m0)]
      exact s0 _ _ e
    generalize upd H m (.ins (R.CA "Solved") dx (putF "line" x [])) = H1 at hm1 l1 hx1 hy1 s1
    refine bOne <| sFld <| eCTy call_tupO mT <| aCons <| eV 2 rfl <| aNil <| tupOf hy1 hd l1 fun v3 H3 s3 i3 => ?_
    refine eV 0 rfl ⟨m, _, dx, _, rfl, s3 _ _ hm1, c, n2, by show 1 < 1000; decide, ?_⟩
    refine k _ (fun b o e => ?_) ?_
    · rw [upd_ne (ne_of_none e m0)]
      exact s3 _ _ (s1 _ _ e)
    · refine .obj (l0.new m0) upd_same ?_
      have ep : putF "order" v3 (putF "line" x []) = ([("line", x), ("order", v3)] : List (Str × V)) := by
        show (if ("line" : Str) = "order" then _ else _) = _
        rw [if_neg (by decide +kernel)]
        rfl
      rw [ep]
      have rt : ∀ a, S a → T a := fun a z => by rw [hT]; exact .inl z
      exact .cons (((hx1.up s3).go kz).reg rt) (.cons ((i3.go kz).reg rt) .nil)
end
section
variable {P : Program} {w : World} {K : PySem.W.Frag} {mg : Str → Option Value} {base : Heap} {R : Rp}
theorem ok_Doubt {C : Addr} (hK : R.K = K) (hC : R.CA "Doubt" = C) (A : InitAt K mg "Doubt" "Doubt.__init__" C s_Doubt_init ["self", "corner", "exchange"]) (c : Cls K C) (n1 : NoAttr K C "corner") (n2 : NoAttr K C "exchange")
    (mT : mg "tuple" = none) : MakeG P w K mg base 1 "Doubt" C ["self", "corner", "exchange"] (spDoubtI R) := by
  subst hK
  subst hC
  obtain ⟨f, fd, M, F, hm, hb⟩ := A.ex
  refine ⟨f, fd, M, okN F sc_Doubt_init (fun vs H Q E h => ?_) fun X H vs Q E hX hr tk h => ?_, hm, hb⟩
  · obtain ⟨S, H0, m, dx, x, y, d1, cc, e, rfl, _⟩ := h
    rfl
  · obtain ⟨cdv, A, outer, s, rfl⟩ := hX
    have hN := sc_Doubt_init.nd
    obtain ⟨S, H0, m, dx, x, y, d1, cc, e, rfl, s0, m0, hm', l0, hx, e1, hy, k⟩ := h
    have M0 : Mak R S H0 H m dx (R.CA "Doubt") [] [] := .start m0 hm' s0 l0
    refine bCons <| sMak c n1 rfl M0 (by show _ ∉ ([] : List Str); simp) (by show 0 < 1000; decide) <| eCTy call_tupO mT <| aCons <| eV 1 rfl <| aNil <| tupOf (M0.read hx) e1 M0.live fun v1 H1 s1 i1 => ⟨s1, _, i1, fun M1 => ?_⟩
    refine bOne <| sMak c n2 rfl M1 (by show ("exchange" : Str) ∉ (["corner"] : List Str); decide +kernel) (by show 1 < 1000; decide) <| eV 2 rfl ⟨Same.refl _, _, M1.read hy, fun M2 => ?_⟩
    exact k _ M2.s0 (M2.done rfl)
end
section
variable {P : Program} {w : World} {K : PySem.W.Frag} {mg : Str → Option Value} {base : Heap} {R : Rp}
theorem ok_madeC {CE : Addr} (hK : R.K = K) (A : DefAt K mg "_law_made" s__law_made ["_law_gates"]) (G : MakeG P w K mg base 4 "Gate" (R.CA "Gate") ["self", "factor", "amount"] (spGate R CE)) : DefG P w K mg base 6 "_law_made" ["_law_gates"] (spMade R) := by
  subst hK
  obtain ⟨f, fd, F, hm, hb⟩ := A.ex
  refine ⟨f, fd, okN F sc__law_made (fun vs H Q E h => ?_) fun X H vs Q E hX hr tk h => ?_, hm, F.kp, hb⟩
  · obtain ⟨S, v, fs, rfl, _⟩ := h
    rfl
  · obtain ⟨cdv, A, outer, s, rfl⟩ := hX
    have hN := sc__law_made.nd
    obtain ⟨S, v, fs, rfl, hS, hf, k⟩ := h
    obtain ⟨d, hi, hd⟩ := hf.ex
    refine bOne <| sRet <| eLc N__law_made s__law_made [("_law_factor", 1), ("_law_amount", 2)] <| iW rfl <| eV 0 rfl ⟨S, d, _, hi, hd, fun J xs ix wk L hL => ?_⟩
    have lx := ix.len
    rw [List.length_map] at lx
    refine lcG (R := R) wk ((fs.map f2).map gD) (by rw [List.length_map, List.length_map]; exact lx.symm) (by rw [lx]; have := hf.hi; omega) (fills_same (S := S) hL) (fun H2 h2 => Kp.of h2) ?_ ?_
    · rintro i e x H2 H2' he h2 ⟨rfl, hx⟩
      have hi' : i < fs.length := by
        have := (List.getElem?_eq_some_iff.mp hx).1
        omega
      obtain ⟨dx, e1, i1⟩ := ix.getV hx
      rw [List.getElem?_map, List.getElem?_eq_getElem hi'] at e1
      cases e1
      rw [List.getElem?_map, List.getElem?_map, List.getElem?_eq_getElem hi'] at he
      cases he
      have ok := hf.ok _ (List.getElem_mem hi')
      refine ⟨fun hLn => ?_, Same.refl _⟩
      have lv : Live (fun a => S a ∨ a = L) H2' := live_or (hS.up h2) hLn
      have i2 : Is R (fun a => S a ∨ a = L) H2' x (fD fs[i]) := (i1.regN fun a z => z.elim .inl fun e => .inr (by rw [e]; exact hL)).up h2
      intro s0 H0 C cl fp
      obtain ⟨a, ys, rfl, hs, ha⟩ := i2.tupE
      cases ha with
      | cons j1 ha =>
        cases ha with
        | cons j2 ha =>
          cases ha
          refine gT rfl hs <| gsCons <| gN 1 <| gsCons <| gN 2 <| gsNil ⟨rfl, rfl, fun s0 H0 C cl fp => ?_⟩
          exact eGate G hr takes0 <| aCons <| eV 1 rfl <| aCons <| eV 2 rfl <| aNil ⟨_, _, _, fs[i].p, fs[i].q, fs[i].a, fs[i].b, rfl, lv, .inl j1, .inl j2, ok.due, fun v3 H3 s3 i3 _ _ _ => ⟨s3, i3⟩⟩
    · intro H2 ys h2 hL2 ia
      have ig := Is.filled hS hL hL2 ia
      exact k _ _ h2 ig (gates_of ig hf.lo hf.hi hf.ok)
end
end BR

namespace BR
open PySem PySem.Spec PyProof.Rows L2
theorem minR_comm (r t : Rat) : minR r t = minR t r := by
  unfold minR
  by_cases h : t < r
  · rw [if_pos h, if_neg (Rat.not_lt.mpr (Rat.le_of_lt h))]
  · by_cases k : r < t
    · rw [if_neg h, if_pos k]
    · rw [if_neg h, if_neg k]
      exact Rat.le_antisymm (Rat.not_lt.mp h) (Rat.not_lt.mp k)
theorem maxR_comm (r t : Rat) : maxR r t = maxR t r := by
  unfold maxR
  by_cases h : r < t
  · rw [if_pos h, if_neg (Rat.not_lt.mpr (Rat.le_of_lt h))]
  · by_cases k : t < r
    · rw [if_neg h, if_pos k]
    · rw [if_neg h, if_neg k]
      exact Rat.le_antisymm (Rat.not_lt.mp k) (Rat.not_lt.mp h)
theorem looQ_comm (g h : G2) : looQ g h = looQ h g := by
  unfold looQ
  rw [minR_comm g.1, minR_comm g.2, maxR_comm g.1, maxR_comm g.2]
theorem looQ_le (g h : G2) : (looQ g h).1.1 ≤ (looQ g h).2.1 ∧ (looQ g h).1.2 ≤ (looQ g h).2.2 := by
  have key : ∀ a b : Rat, minR a b ≤ maxR a b := fun a b => by
    unfold minR maxR
    by_cases h : b < a
    · rw [if_pos h, if_neg (Rat.not_lt.mpr (Rat.le_of_lt h))]
      exact Rat.le_of_lt h
    · rw [if_neg h]
      split
      · next k => exact Rat.le_of_lt k
      · exact Rat.le_refl
  exact ⟨key _ _, key _ _⟩
theorem maxR_ge (a b : Rat) : b ≤ maxR a b := by
  unfold maxR
  split
  · exact Rat.le_refl
  · next h => exact Rat.not_lt.mp h
theorem mkQ_plus1 (r : Rat) : r < mkQ (r.num + r.den) r.den := by
  have hd : (0 : Int) < r.den := by have := r.den_pos; omega
  have e : mkQ r.num r.den = r := mkQ_self r
  have h := (mkQ_lt2 (a := r.num) (b := r.den) (c := r.num + r.den) (d := r.den) hd hd).mpr (by
    have := Int.mul_pos hd hd
    rw [Int.add_mul]
    omega)
  rw [e] at h
  exact h
def spLooH (R : Rp) : Sp := fun vs H Q _ => ∃ (v u : V) (g h : G2), vs = [v, u] ∧ Is R (fun _ => False) H v (vD g) ∧ Is R (fun _ => False) H u (vD h) ∧ G9 g ∧ G9 h ∧ ∀ H', Same H H' → Q (.bl true) H'
section
variable {P : Program} {w : World} {K : PySem.W.Frag} {mg : Str → Option Value} {base : Heap} {R : Rp}
theorem ok_looH {CE : Addr} (hK : R.K = K) (LO : LooOk R) (A : DefAt K mg "_law_loose_holds" s__law_loose_holds ["_law_one", "_law_other"]) (mR : mg "range" = none) (GG : MakeG P w K mg base 4 "Gate" (R.CA "Gate") ["self", "factor", "amount"] (spGate R CE)) (GO : MakeG P w K mg base 6 "Loose" (R.CA "Loose") ["self", "low", "high"] (spLooseI R))
    (KO : KwI K (R.CA "Loose") ["self", "low", "high"] ["high", "low"] [1, 0]) (GL : DefG P w K mg base 1 "_law_less" ["_law_one", "_law_other"] (spLessL R))
    (QG : MethG P w K mg base 1 (R.CA "Gate") "__eq__" ["self", "other"] (spEqF R mg "Gate")) (TG : EqC R mg "Gate") (QC : MethG P w K mg base 1 (R.CA "Gate") "__eq__" ["self", "other"] (spEqC R mg "Gate")) (tVG : EqTo R "Gate" "Loose") (TV : ClC R mg "Loose")
    (QV : MethG P w K mg base 3 (R.CA "Loose") "__eq__" ["self", "other"] (spEqV R loD)) (QO : MethG P w K mg base 1 (R.CA "Loose") "__eq__" ["self", "other"] (spEqO R)) (nV : NeOk R.K (R.CA "Loose")) (NS : NoSeq R.K (R.CA "Loose")) :
    DefG P w K mg base 8 "_law_loose_holds" ["_law_one", "_law_other"] (spLooH R) := by
  subst hK
  obtain ⟨f, fd, F, hm, hb⟩ := A.ex
  refine ⟨f, fd, okN F sc__law_loose_holds (fun vs H Q E h => ?_) fun X H vs Q E hX hr tk h => ?_, hm, F.kp, hb⟩
  · obtain ⟨v, u, g, h, rfl, _⟩ := h
    rfl
  · obtain ⟨cdv, A, outer, s, rfl⟩ := hX
    have hN := sc__law_loose_holds.nd
    obtain ⟨v, u, g, h, rfl, hv, hu, g9, h9, k⟩ := h
    have l0 : ∀ {H' : Hp}, Live (fun _ => False) H' := Live.none
    obtain ⟨l, el⟩ : ∃ l, l = looQ g h := ⟨_, rfl⟩
    obtain ⟨nl, nu⟩ := looQ_num g9.num h9.num
    obtain ⟨le1, le2⟩ := looQ_le g h
    rw [← el] at nl nu le1 le2
    refine bCons <| sSet 2 <| eMake GO hr tk <| aCons <| eGate GG hr tk <| aCons <| eIx ix_seq <| eV 0 rfl <| eI <| ixD (i := 0) hv rfl rfl fun a1 k1 => aCons <| eIx ix_seq <| eV 0 rfl <| eI <| ixD (i := 1) hv rfl rfl fun a2 k2 => aNil ⟨_, a1, a2, _, _, _, _, rfl, l0, .inl k1, .inl k2, g9.num.due, fun v3 H3 s3 i3 _ _ _ => ?_⟩
    have hu3 := hu.up s3
    refine aCons <| eGate GG hr tk <| aCons <| eIx ix_seq <| eV 1 rfl <| eI <| ixD (i := 0) hu3 rfl rfl fun a1 k1 => aCons <| eIx ix_seq <| eV 1 rfl <| eI <| ixD (i := 1) hu3 rfl rfl fun a2 k2 => aNil ⟨_, a1, a2, _, _, _, _, rfl, l0, .inl k1, .inl k2, h9.num.due, fun v4 H4 s4 i4 _ _ _ => ?_⟩
    rw [mkQ_self, mkQ_self] at i3 i4
    refine aNil fun m d hm hd hne => ⟨fun _ => False, H4, m, d, v3, v4, g, h, rfl, same_made hm hd, hm, upd_same, l0, i3.up s4, i4, g9.num, h9.num, fun H5 s5 i5 => ⟨rfl, ?_⟩⟩
    rw [← el] at i5
    have s05 := s3.trans (s4.trans s5)
    have hv5 := hv.up s05
    have hu5 := hu.up s05
    clear i3 i4 hu3 s3 s4 s5 hm hd hne
    -- the pairs
    refine bCons <| sSet 3 <| eLst <| aNil ⟨by show 0 ≤ sizeLine; decide, fun pp hpp => ?_⟩
    have s7 : Same H5 (upd H5 pp (.lst ([] : List V))) := same_new hpp
    have hpp7 : upd H5 pp (.lst ([] : List V)) pp = some (.lst []) := upd_same
    have rg : ∀ a, a = pp → (fun _ => False) a ∨ H5 a = none := fun a z => .inr (by rw [z]; exact hpp)
    have i47 : Is R (fun a => a = pp) _ v (vD g) := (hv5.regN rg).up s7
    have i57 : Is R (fun a => a = pp) _ u (vD h) := (hu5.regN rg).up s7
    generalize upd H5 pp (.lst ([] : List V)) = H7 at s7 hpp7 i47 i57
    refine bCons <| sFor <| iR1 mR <| aCons <| eI <| aNil ⟨2, rfl, by decide, by decide, 2, _, _, walk_range, fun j σ H' => (∃ b4 b5, σ = [some v, some u, some (.ref m), some (.ref pp), b4, b5, none, none, none]) ∧ Kp (fun a => a = pp) H7 H' ∧ ∃ zs, H' pp = some (.lst zs) ∧ IsA R (fun a => a = pp) H' zs ((prD g h).take j), ⟨⟨_, _, rfl⟩, Kp.refl _ _, [], hpp7, .nil⟩, fun _ _ _ _ _ => True.intro, ?_, ?_⟩
    · rintro j x σ H8 H8' hj ⟨⟨b7, b8, rfl⟩, kT, zs, hz8, iz⟩ ⟨rfl, rfl⟩
      obtain ⟨rj, e1, e2, e3⟩ := prD_s g h j hj
      have lz := iz.len
      rw [List.length_take] at lz
      have lv8 : Live (fun a => a = pp) H8' := fun a z => by
        rw [z, hz8]
        exact fun q => by cases q
      show wG _ _ (V.int (0 + (j : Nat))) _ _ _
      rw [Int.zero_add (j : Int)]
      refine BR.gN 4 <| bCons <| sSet 5 <| eLst <| aCons <| eIx ix_seq <| eV 0 rfl <| eV 4 rfl <| ixD (i := j) (i47.go kT) rfl (e1 g) fun x1 j1 => aCons <| eIx ix_seq <| eV 1 rfl <| eV 4 rfl <| ixD (i := j) (i57.go kT) rfl (e1 h) fun x2 j2 => aNil ⟨by show 2 ≤ sizeLine; decide, fun q hq0 => ?_⟩
      have s9 : Same H8' (upd H8' q (.lst [x1, x2])) := same_new hq0
      have hq : upd H8' q (.lst [x1, x2]) q = some (.lst [x1, x2]) := upd_same
      have nq : ¬ q = pp := lv8.new hq0
      have i9 : Is R (fun a => a = pp) (upd H8' q (.lst [x1, x2])) (.ref q) (.lst [frac (rj g), frac (rj h)]) := Is.newL lv8 hq0 (.cons j1 (.cons j2 .nil))
      have k1 := j1.up s9
      have k2 := j2.up s9
      generalize upd H8' q (.lst [x1, x2]) = H9 at s9 hq i9 k1 k2
      have hz9 := s9 _ _ hz8
      have ap : ∀ {y : V} {r : Rat} {o : HO}, Is R (fun a => a = pp) H9 y (frac r) → Is R (fun a => a = pp) (upd H9 q o) y (frac r) := fun {y r o} ky => Is.go (Is.apart (T := fun a => a = pp ∨ a = q) (fun a z => by
          rcases z with z | z
          · exact ⟨_, by rw [z]; exact hz9⟩
          · exact ⟨_, by rw [z]; exact hq⟩) ky rfl) (kp_in (.inr rfl)) |>.reg fun a z => .inl z
      refine bJoin (Q := fun σ H' => σ = [some v, some u, some (.ref m), some (.ref pp), some (.int (j : Nat)), some (.ref q), none, none, none] ∧ (∀ a o, a ≠ q → H9 a = some o → H' a = some o) ∧ ∃ y1 y2, H' q = some (.lst [y1, y2]) ∧ Is R (fun a => a = pp) H' y1 (frac (minR (rj g) (rj h))) ∧ Is R (fun a => a = pp) H' y2 (frac (maxR (rj g) (rj h)))) (sIf <| tVal <| eCall GL hr tk <| aCons <| eIx ix_seq <| eV 5 rfl <| eI <| ixD (i := 1) i9 rfl rfl fun a1 l1 => aCons <| eIx ix_seq <| eV 5 rfl <| eI <| ixD (i := 0) i9 rfl rfl fun a2 l2 => aNil ⟨_, a1, a2, 4, rj h, rj g, rfl, Fr.of l1 (e2 h h9), Fr.of l2 (e2 g g9), by decide, _, rfl, ?_⟩) ?_
      · by_cases c : rj h < rj g
        · rw [decide_eq_true c]
          refine iteT <| bOne <| sRevL <| eV 5 rfl ⟨ty_list hq, q, [x1, x2], rfl, rfl, hq, rfl, fun a o na e => by rw [upd_ne na]; exact e, x2, x1, upd_same, ?_, ?_⟩
          · have e4 : minR (rj g) (rj h) = rj h := by unfold minR; rw [if_pos c]
            rw [e4]
            exact ap k2
          · have e4 : maxR (rj g) (rj h) = rj g := by rw [maxR_if, if_pos c]
            rw [e4]
            exact ap k1
        · rw [decide_eq_false c]
          refine iteF <| bNil ⟨rfl, fun a o _ e => e, x1, x2, hq, ?_, ?_⟩
          · have e4 : minR (rj g) (rj h) = rj g := by unfold minR; rw [if_neg c]
            rw [e4]
            exact k1
          · have e4 : maxR (rj g) (rj h) = rj h := by rw [maxR_if, if_neg c]
            rw [e4]
            exact k2
      rintro σ' Ha ⟨rfl, ka, z1, z2, hqa, m1, m2⟩
      have hza := ka _ _ (fun z => nq z.symm) hz9
      refine bOne <| sApp <| eV 3 rfl ⟨ty_list hza, aCons <| eV 5 rfl <| aNil ⟨pp, zs, .ref q, rfl, rfl, hza, small1000 (by omega), ⟨⟨_, _, rfl⟩, fun a o na e => ?_, _, upd_same, ?_⟩⟩⟩
      · rw [upd_ne na]
        have e8 := kT a o na e
        exact ka a o (fun z => by rw [z, hq0] at e8; cases e8) (s9 _ _ e8)
      · rw [e3]
        have iqa : Is R (fun a => a = pp) Ha (.ref q) (.lst [frac (minR (rj g) (rj h)), frac (maxR (rj g) (rj h))]) := .lst nq hqa (.cons m1 (.cons m2 .nil))
        have k8a : Kp (fun a => a = pp) H8' Ha := fun a o _ e => ka a o (fun z => by rw [z, hq0] at e; cases e) (s9 _ _ e)
        exact ((iz.go k8a).app (.cons iqa .nil)).go (kp_in rfl)
    rintro σ H8 ⟨⟨b7, b8, rfl⟩, kT, zs, hz8, iz⟩
    have s58 : Same H5 H8 := fun a o e => kT a o (fun z => by rw [z, hpp] at e; cases e) (s7 _ _ e)
    have ip : Is R (fun _ => False) H8 (.ref pp) (.lst (prD g h)) := .lst (fun z => z) hz8 (iz.reg fun a z => z.elim)
    have im8 := i5.up s58
    have hv8 := hv5.up s58
    have hu8 := hu5.up s58
    have s08 := s05.trans s58
    clear iz hz8 kT i47 i57 s7 hpp7 rg hpp s58 i5 hv5 hu5 s05
    -- the two bounds
    refine bCons <| sPar 6 7 <| aCons <| eGate GG hr tk <| aCons <| eIx ix_seq <| eIx ix_seq <| eV 3 rfl <| eI <| ixD (i := 0) ip rfl rfl fun y0 j0 => eI <| ixD (i := 0) j0 rfl rfl fun a1 k1 => aCons <| eIx ix_seq <| eIx ix_seq <| eV 3 rfl <| eI <| ixD (i := 1) ip rfl rfl fun y1 j1 => eI <| ixD (i := 0) j1 rfl rfl fun a2 k2 => aNil ⟨_, a1, a2, _, _, _, _, rfl, l0, .inl k1, .inl k2, by rw [el] at nl; exact nl.due, fun v6 H9 s9 i6 _ _ _ => ?_⟩
    have ip9 := ip.up s9
    refine aCons <| eGate GG hr tk <| aCons <| eIx ix_seq <| eIx ix_seq <| eV 3 rfl <| eI <| ixD (i := 0) ip9 rfl rfl fun y0 j0 => eI <| ixD (i := 1) j0 rfl rfl fun a1 k1 => aCons <| eIx ix_seq <| eIx ix_seq <| eV 3 rfl <| eI <| ixD (i := 1) ip9 rfl rfl fun y1 j1 => eI <| ixD (i := 1) j1 rfl rfl fun a2 k2 => aNil ⟨_, a1, a2, _, _, _, _, rfl, l0, .inl k1, .inl k2, by rw [el] at nu; exact nu.due, fun v7 Ha sa i7 _ _ _ => aNil ⟨_, _, rfl, ?_⟩⟩
    rw [mkQ_self, mkQ_self] at i6 i7
    have i6 : Is R (fun _ => False) Ha v6 (gD l.1) := by rw [el]; exact i6.up sa
    have i7 : Is R (fun _ => False) Ha v7 (gD l.2) := by rw [el]; exact i7
    have s8a := s9.trans sa
    have ipa := ip.up s8a
    have ima := im8.up s8a
    have hva := hv8.up s8a
    have hua := hu8.up s8a
    have s0a := s08.trans s8a
    clear ip ip9 im8 hv8 hu8 s9 sa s8a s08
    have EG := eqG_fa (X := (cxOf (L2.CX P w) P w R.K mg base N__law_loose_holds "_law_loose_holds" (defScope s__law_loose_holds) f cdv A outer s H E).nox) (R := R) rfl QG TG tk
    -- the fields
    refine bCons <| sIf <| tCmp (op_neA (n := 0) rfl EG (hr.mono (by decide))) <| eTupD R (fun _ => False) [gD l.1, gD l.2] <| aCons <| eFld <| eV 2 rfl <| fldLo LO ima fun v1 f1 => aCons <| eFld <| eV 2 rfl <| fldHi LO ima fun v2 f2 => aNil ⟨l0, .cons f1 (.cons f2 .nil), fun v3 Hb sb ib => ?_⟩
    refine eTupD R (fun _ => False) [gD l.1, gD l.2] <| aCons <| eV 6 rfl <| aCons <| eV 7 rfl <| aNil ⟨l0, .cons (i6.up sb) (.cons (i7.up sb) .nil), fun v4 Hc sc ic => ⟨_, _, _, _, ib.up sc, ic, rfl, gD_depth [l.1, l.2], gD_objs [l.1, l.2], fun Hd sd => ⟨_, rfl, iteF <| bNil ?_⟩⟩⟩
    have sad := sb.trans (sc.trans sd)
    have imd := ima.up sad
    have hvd := hva.up sad
    have hud := hua.up sad
    have ipd := ipa.up sad
    have i6d := i6.up sad
    have i7d := i7.up sad
    have s0d := s0a.trans sad
    clear ima hva hua ipa i6 i7 s0a ib ic f1 f2 sb sc sd sad
    -- the other way round, by keyword
    refine bCons <| sIf <| tCmp (op_neO QV nV (hr.mono (by decide)) tk) <| eV 2 rfl <| eMakeK GO KO hr tk <| kCons <| eGate GG hr tk <| aCons <| eIx ix_seq <| eV 0 rfl <| eI <| ixD (i := 0) hvd rfl rfl fun a1 k1 => aCons <| eIx ix_seq <| eV 0 rfl <| eI <| ixD (i := 1) hvd rfl rfl fun a2 k2 => aNil ⟨_, a1, a2, _, _, _, _, rfl, l0, .inl k1, .inl k2, g9.num.due, fun v8 He se i8 _ _ _ => ?_⟩
    have hue := hud.up se
    refine kCons <| eGate GG hr tk <| aCons <| eIx ix_seq <| eV 1 rfl <| eI <| ixD (i := 0) hue rfl rfl fun a1 k1 => aCons <| eIx ix_seq <| eV 1 rfl <| eI <| ixD (i := 1) hue rfl rfl fun a2 k2 => aNil ⟨_, a1, a2, _, _, _, _, rfl, l0, .inl k1, .inl k2, h9.num.due, fun v9 Hf sf i9 _ _ _ => ?_⟩
    rw [mkQ_self, mkQ_self] at i8 i9
    refine kNil ⟨rfl, fun n d hn hd hne => ⟨fun _ => False, Hf, n, d, v9, v8, h, g, rfl, same_made hn hd, hn, upd_same, l0, i9, i8.up sf, h9.num, g9.num, fun Hg sg ig => ⟨rfl, ?_⟩⟩⟩
    rw [looQ_comm, ← el] at ig
    have sdg := se.trans (sf.trans sg)
    refine ownV (d := loD) (c := "Loose") (fun _ => rfl) (imd.up sdg) ig fun Hh b sh ib => ⟨_, rfl, ?_⟩
    rw [ib.mpr rfl]
    refine iteF <| bNil ?_
    have sdh := sdg.trans sh
    have imh := imd.up sdh
    have iph := ipd.up sdh
    have i6h := i6d.up sdh
    have i7h := i7d.up sdh
    have s0h := s0d.trans sdh
    clear imd hvd hud hue ipd i6d i7d s0d i8 i9 ig ib se sf sg sh sdg sdh hn hd hne
    -- from its own bounds, and what is no Loose
    refine bCons <| sIf <| tOr2 <| tCmp (op_neO QV nV (hr.mono (by decide)) tk) <| eV 2 rfl <| eMake GO hr tk <| aCons <| eV 6 rfl <| aCons <| eV 7 rfl <| aNil fun n d hn hd hne => ⟨fun _ => False, Hh, n, d, v6, v7, l.1, l.2, rfl, same_made hn hd, hn, upd_same, l0, i6h, i7h, nl, nu, fun Hi si ii => ⟨rfl, ?_⟩⟩
    rw [looQ_self le1 le2] at ii
    refine ownV (d := loD) (c := "Loose") (fun _ => rfl) (imh.up si) ii fun Hj b sj ib => ⟨_, rfl, ?_⟩
    rw [ib.mpr rfl]
    refine iteF ?_
    have shj := si.trans sj
    have imj := imh.up shj
    have ipj := iph.up shj
    have i6j := i6h.up shj
    have i7j := i7h.up shj
    have s0j := s0h.trans shj
    clear imh iph i6h i7h s0h ii ib si sj shj hn hd hne
    have E1 : EqB (cxOf (CX P w) P w R.K mg base N__law_loose_holds "_law_loose_holds" (defScope s__law_loose_holds) f cdv A outer s H E).nox 1 _ := EqB.or (eqb_own QC tk) (eqb_refl QO NS tk)
    refine tCmp (op_inB E1 (hr.mono (by decide))) <| eV 2 rfl <| eLst <| aCons <| eTupD R (fun _ => False) [gD l.1, gD l.2] <| aCons <| eV 6 rfl <| aCons <| eV 7 rfl <| aNil ⟨l0, .cons i6j (.cons i7j .nil), fun vt Hk sk it => aCons <| eV 6 rfl <| aCons <| eN <| aNil ⟨by show 3 ≤ sizeLine; decide, fun pl hpl => ?_⟩⟩
    have sl := same_new (o := HO.lst [vt, v6, .non]) hpl
    have hpl1 : upd Hk pl (.lst [vt, v6, .non]) pl = some (.lst [vt, v6, .non]) := upd_same
    have sjl := sk.trans sl
    have iml := imj.up sjl
    have itl := it.up sl
    have i6l := i6j.up sjl
    have ipl := ipj.up sjl
    have i7l := i7j.up sjl
    have s0l := s0j.trans sjl
    generalize upd Hk pl (.lst [vt, v6, .non]) = Hl at sl hpl1 sjl iml itl i6l ipl i7l s0l
    obtain ⟨aM, dM, fM, eaM, eM⟩ := objP_ins (show Is R (fun _ => False) Hl (.ref m) (.obj "Loose" _) from iml)
    cases eaM
    obtain ⟨aT, xT, rfl, hsT, _⟩ := id itl.tupE
    obtain ⟨aL, dL, fL, rfl, eL⟩ := faD_ins i6l
    have no : ∀ {y : V} {T : String} {Q' : VK}, TyX R.K Hl y (.type T) → (T = "tuple" ∨ T = "list" ∨ T = "NoneType") → Q' (.bl false) Hl → spEqO R [.ref m, y] Hl Q' fun _ _ _ => False := fun h1 h2 h3 => ⟨_, _, _, rfl, h1, h2, h3⟩
    refine ⟨pl, [.ref aT, .ref aL, .non], rfl, hpl1, ?_⟩
    refine .inr ⟨m, dM, fM, rfl, eM, .inl ⟨aT, xT, rfl, hsT⟩, no (tup_tyx itl) (.inl rfl) ⟨false, rfl, hpl1, false, rfl, iteF ?_⟩⟩
    have neL : aL ≠ m := fun z => by
      rw [z, eM] at eL
      rcases tVG with q | ⟨_, q, _⟩
      · exact absurd q (by decide +kernel)
      · exact q (HO.ins.inj (Option.some.inj eL)).1
    have kt := EqTo.kit tVG TG
    rw [decide_eq_false (by decide +kernel)] at kt
    refine .inl ⟨⟨aL, m, rfl, rfl, neL⟩, ⟨aL, dL, fL, rfl, eL, .inl ⟨m, _, dM, fM, rfl, eM, tVG.nf⟩, _, m, dM, fM, "Loose", rfl, eM, TV, kt, false, rfl, hpl1, false, rfl, iteF ?_⟩⟩
    refine .inr ⟨m, dM, fM, rfl, eM, .inr (.inr rfl), no (.base .non) (.inr (.inr rfl)) ⟨false, rfl, hpl1, false, rfl, iteF ⟨false, rfl, false, rfl, ?_⟩⟩⟩
    refine iteF <| bNil ?_
    -- a wider one
    have eg : (prD g h) = [.lst [frac l.1.1, frac l.2.1], .lst [frac l.1.2, frac l.2.2]] := by rw [el]; rfl
    rw [eg] at ipl
    have dp : (1 : Int) ≤ l.2.2.den := by have := l.2.2.den_pos; omega
    obtain ⟨c, ec⟩ : ∃ c : Rat, c = mkQ (l.2.2.num + l.2.2.den) l.2.2.den := ⟨_, rfl⟩
    have clt : l.2.2 < c := by rw [ec]; exact mkQ_plus1 _
    have nn := nl.a
    have i2 := i7l
    refine bCons <| sSet 8 <| eMake GO hr tk <| aCons <| eGate GG hr tk <| aCons <| eIx ix_seq <| eIx ix_seq <| eV 3 rfl <| eI <| ixD (i := 0) ipl rfl rfl fun y0 j0 => eI <| ixD (i := 0) j0 rfl rfl fun a1 k1 => aCons <| eIx ix_seq <| eIx ix_seq <| eV 3 rfl <| eI <| ixD (i := 1) ipl rfl rfl fun y1 j1 => eI <| ixD (i := 0) j1 rfl rfl fun a2 k2 => aNil ⟨_, a1, a2, _, _, _, _, rfl, l0, .inl k1, .inl k2, nl.due, fun vx Hn sn ix _ _ _ => ?_⟩
    have ipn := ipl.up sn
    refine aCons <| eGate GG hr tk <| aCons <| eIx ix_seq <| eIx ix_seq <| eV 3 rfl <| eI <| ixD (i := 0) ipn rfl rfl fun y0 j0 => eI <| ixD (i := 1) j0 rfl rfl fun a1 k1 => aCons <| eTupD R (fun _ => False) [.int (l.2.2.num + l.2.2.den), .int l.2.2.den] <| aCons ?_
    refine eOp op_add <| eIx ix_seq <| eIx ix_seq <| eIx ix_seq <| eV 3 rfl <| eI <| ixD (i := 1) ipn rfl rfl fun y1 j1 => eI <| ixD (i := 1) j1 rfl rfl fun a2 k2 => eI <| ixD (i := 0) k2 rfl rfl fun a3 k3 => ?_
    cases k3
    refine eIx ix_seq <| eIx ix_seq <| eIx ix_seq <| eV 3 rfl <| eI <| ixD (i := 1) ipn rfl rfl fun y1 j1 => eI <| ixD (i := 1) j1 rfl rfl fun a2 k2 => eI <| ixD (i := 1) k2 rfl rfl fun a3 k3 => ?_
    cases k3
    refine ⟨_, _, rfl, rfl, ?_⟩
    refine aCons <| eIx ix_seq <| eIx ix_seq <| eIx ix_seq <| eV 3 rfl <| eI <| ixD (i := 1) ipn rfl rfl fun y1 j1 => eI <| ixD (i := 1) j1 rfl rfl fun a2 k2 => eI <| ixD (i := 1) k2 rfl rfl fun a3 k3 => ?_
    cases k3
    refine aNil ⟨l0, .cons (.int _) (.cons (.int _) .nil), fun vt2 Ho so io => ?_⟩
    obtain ⟨m1, m2⟩ : l.2.2.num.natAbs ≤ 9 ∧ l.2.2.den ≤ 9 := by
      rw [el]
      show (maxR g.2 h.2).num.natAbs ≤ 9 ∧ (maxR g.2 h.2).den ≤ 9
      rcases maxR_or g.2 h.2 with z | z
      · rw [z]
        exact ⟨g9.n2, Nat.le_trans g9.d2 (by decide)⟩
      · rw [z]
        exact ⟨h9.n2, Nat.le_trans h9.d2 (by decide)⟩
    have due : dueG l.2.1.num l.2.1.den (l.2.2.num + l.2.2.den) l.2.2.den = none := dueG_ok (num_pos1 nu.pos) nu.f.hi (by have := l.2.1.den_pos; omega) (by have := nu.f.den; omega) (by omega) (by omega) dp (by omega)
    refine aNil ⟨fun _ => False, a1, vt2, l.2.1.num, l.2.1.den, l.2.2.num + l.2.2.den, l.2.2.den, rfl, l0, .inl (k1.up so), .inl io, due, fun vy Hp sp iy _ _ _ => ?_⟩
    rw [mkQ_self, ← ec] at iy
    have ix : Is R (fun _ => False) Hp vx (gD l.1) := by
      rw [mkQ_self, mkQ_self] at ix
      exact (ix.up so).up sp
    have numc : NumG (l.2.1, c) := ⟨nu.f, by
      obtain ⟨x1, x2, x3⟩ := low_small (a := l.2.2.num + l.2.2.den) (b := (l.2.2.den : Int)) (m := 18) (n := 18) (by omega) (by omega) (by omega)
      show Num c
      rw [ec]
      exact ⟨by omega, by omega, by omega⟩, nu.pos⟩
    refine aNil fun n d hn hd hne => ⟨fun _ => False, Hp, n, d, vx, vy, l.1, (l.2.1, c), rfl, same_made hn hd, hn, upd_same, l0, ix, iy, nl, numc, fun Hq sq iq => ⟨rfl, ?_⟩⟩
    have slq := sn.trans (so.trans (sp.trans sq))
    refine bOne <| sRet <| eCmp (op_neO QV nV (hr.mono (by decide)) tk) <| eV 2 rfl <| eV 8 rfl <| ownV (d := loD) (c := "Loose") (fun _ => rfl) (iml.up slq) iq fun Hr b sr ib => ?_
    have eb : b = false := by
      cases b with
      | false => rfl
      | true =>
        have z := congrArg (fun t : G2 × G2 => t.2.2) (ib.mp rfl)
        have z : l.2.2 = maxR l.1.2 c := z
        have z2 := maxR_ge l.1.2 c
        rw [← z] at z2
        exact absurd clt (Rat.not_lt.mpr z2)
    rw [eb]
    exact k _ (s0l.trans (slq.trans sr))
end
end BR

namespace BR
open PySem PySem.Spec PyProof.Rows L2
theorem two_fr (r t : Rat) : D.okEq (.tup [frac r, frac t]) = true ∧ D.eqv (.tup [frac r, frac t]) (.tup [frac r, frac t]) = true :=
  ⟨by simp [D.okEq, frac, D.plain, D.plains, D.py, D.pys, SeqAt.shaped, PyData.canLay0, PyData.canLayAll0, PyData.depth, PyData.depthAll], by simp [D.eqv, frac, D.py, D.pys, PyData.eqv, PyData.eqvAll]⟩
theorem kpL_upd1 {H : Hp} {p : Addr} {xs ys : List V} (e : H p = some (.lst xs)) : KpL H (upd H p (.lst ys)) := fun a o h n => by
  by_cases q : a = p
  · subst q
    rw [e] at h
    exact absurd (Option.some.inj h).symm (n xs)
  · rw [upd_ne q]
    exact h
theorem frac_is {r : Rat} {p q : Int} (h : r.num = p) (k : (r.den : Int) = q) : frac r = .tup [.int p, .int q] := by
  unfold frac
  rw [h, k]
theorem same_upd {H H' : Hp} {p : Addr} {o : HO} (s : Same H H') (n : H p = none) : Same H (upd H' p o) := fun a u e => by
  rw [upd_ne (ne_of_none e n)]
  exact s a u e
theorem four_fr (b m e : Int) (r : Rat) : D.okEq (.tup [.int b, .int m, .int e, frac r]) = true ∧ D.eqv (.tup [.int b, .int m, .int e, frac r]) (.tup [.int b, .int m, .int e, frac r]) = true :=
  ⟨by simp [D.okEq, frac, D.plain, D.plains, D.py, D.pys, SeqAt.shaped, PyData.canLay0, PyData.canLayAll0, PyData.depth, PyData.depthAll], by simp [D.eqv, frac, D.py, D.pys, PyData.eqv, PyData.eqvAll]⟩
def ObV {α : Type} (c : Str) (fl : α → List (Str × D)) : Str → List (Str × D) → Prop := fun c' l => c' = c ∧ ∃ a, l = fl a
theorem eqG_V {α : Type} {X : Cx} {R : Rp} {c : Str} {d : α → D} {fl : α → List (Str × D)} {k : Nat} (ed : ∀ l, d l = .obj c (fl l)) (hK : R.K = X.K) (G : MethG X.prog X.w X.K X.mg X.base k (R.CA c) "__eq__" ["self", "other"] (spEqV R d)) (tk : Takes X W0) : EqG X k (DObj R (ObV c fl)) := by
  refine RcG.eqG (fun A pins s σ H x y u v sb I rx ry e => ?_) fun x y H e => ?_
  · obtain ⟨S, S', c', l, h1, h2, rfl, a, rfl⟩ := e
    rw [← ed] at h1 h2
    have q := ownV (d := d) (c := c') (g := id) (Q := fun v H' => v = .bl true ∧ Same H H') ed h1 h2 fun H' b s i => ⟨by rw [i.mpr rfl]; rfl, s⟩
    rw [hK] at q
    obtain ⟨a', dx, fs, rfl, ha, hn, q⟩ := q
    cases rx
    obtain ⟨f, fd, hc, hm, Ff, ⟨hb, _⟩⟩ := G.ex
    obtain ⟨mA, J, _⟩ := ins_get I.hok ha
    obtain ⟨od, J, _⟩ := J.look
    obtain ⟨tb, L, nf⟩ := notSub_looks I ry hn
    obtain ⟨m', hF⟩ := I.fr
    refine PySem.W.cmp_K (op := .Eq) (tb := tb) sb.room.units0 hF I.ok.mod.kin J L nf hm.at_ hm.fn ?_
    refine wpAny_mono (own_run Ff sb hb tk I (vs := [V.ref a', y]) (us := [Value.ref a', v]) (.cons rfl (.cons ry .nil)) q) (fun v s' z => ?_) fun _ _ e => e
    obtain ⟨v', H', I', rv, b, rfl, eb, sm⟩ := z
    cases eb
    cases rv
    exact ⟨rfl, H', I', sm⟩
  · obtain ⟨S, S', c', l, h1, h2, rfl, _⟩ := e
    obtain ⟨a, _, _, rfl, _⟩ := objP_ins h1
    obtain ⟨a', _, _, rfl, _⟩ := objP_ins h2
    exact ⟨_, _, rfl, rfl⟩
theorem eqG_both {X : Cx} {R : Rp} {k : Nat} {P P' : Str → List (Str × D) → Prop} (h : EqG X k (DObj R P)) (h' : EqG X k (DObj R P')) : EqG X k (DObj R fun c l => P c l ∨ P' c l) :=
  (h.or h').imp fun _ _ _ ⟨S, S', c, l, i, j, p⟩ => p.imp (fun p => ⟨S, S', c, l, i, j, p⟩) fun p => ⟨S, S', c, l, i, j, p⟩
def exF (t : Int × Int × Int × Rat) : List (Str × D) := [("begin", .int t.1), ("middle", .int t.2.1), ("end", .int t.2.2.1), ("worth", frac t.2.2.2)]
theorem exT_obj (t : Int × Int × Int × Rat) : exT t = .obj "Exchange" (exF t) := rfl
def spResH (R : Rp) : Sp := fun vs H Q _ => ∃ (v : V) (g h : G2), vs = [v] ∧ Is R (fun _ => False) H v (.lst [gD g, gD h]) ∧ ∀ H', Same H H' → Q (.bl true) H'
section
variable {P : Program} {w : World} {K : PySem.W.Frag} {mg : Str → Option Value} {base : Heap} {R : Rp}
theorem ok_resH (hK : R.K = K) (LS : SprOk R) (A : DefAt K mg "_law_results_hold" s__law_results_hold ["_law_gates"])
    (GP : MakeG P w K mg base 3 "Spread" (R.CA "Spread") ["self", "least", "greatest", "low", "high"] (spSpreadI R)) (KP : KwI K (R.CA "Spread") ["self", "least", "greatest", "low", "high"] ["high", "low", "greatest", "least"] [3, 2, 1, 0])
    (EX : ExOk R) (GX : MakeG P w K mg base 3 "Exchange" (R.CA "Exchange") ["self", "begin", "middle", "end", "worth"] (spExch R)) (KX : KwI K (R.CA "Exchange") ["self", "begin", "middle", "end", "worth"] ["worth", "end", "middle", "begin"] [3, 2, 1, 0])
    (LD : DbtOk R) (GD : MakeG P w K mg base 1 "Doubt" (R.CA "Doubt") ["self", "corner", "exchange"] (spDoubtI R)) (KD : KwI K (R.CA "Doubt") ["self", "corner", "exchange"] ["exchange", "corner"] [1, 0])
    (cS : Cls K (R.CA "Solved")) (n1 : NoAttr K (R.CA "Solved") "line") (n2 : NoAttr K (R.CA "Solved") "order") (GS : MakeG P w K mg base 1 "Solved" (R.CA "Solved") ["self", "line", "order"] (spSolvedI R)) (KS : KwI K (R.CA "Solved") ["self", "line", "order"] ["order", "line"] [1, 0])
    (GL : MakeG P w K mg base 3 "Line" (R.CA "Line") ["self", "factor", "amount"] (spLine R)) (QL : MethG P w K mg base 1 (R.CA "Line") "__eq__" ["self", "other"] (spEqF R mg "Line")) (TL : EqC R mg "Line") (mT : mg "tuple" = none)
    (QX : MethG P w K mg base 1 (R.CA "Exchange") "__eq__" ["self", "other"] (spEqV R exT)) (nX : NeOk R.K (R.CA "Exchange")) (QD : MethG P w K mg base 4 (R.CA "Doubt") "__eq__" ["self", "other"] (spEqV R dbT)) (nD : NeOk R.K (R.CA "Doubt"))
    (QG : MethG P w K mg base 1 (R.CA "Gate") "__eq__" ["self", "other"] (spEqF R mg "Gate")) (TG : EqC R mg "Gate") (QW : MethG P w K mg base 4 (R.CA "Spread") "__eq__" ["self", "other"] (spEqV R spT)) (nW : NeOk R.K (R.CA "Spread")) :
    DefG P w K mg base 8 "_law_results_hold" ["_law_gates"] (spResH R) := by
  subst hK
  obtain ⟨f, fd, F, hm, hb⟩ := A.ex
  refine ⟨f, fd, okN F sc__law_results_hold (fun vs H Q E h => ?_) fun X H vs Q E hX hr tk h => ?_, hm, F.kp, hb⟩
  · obtain ⟨v, g, h, rfl, _⟩ := h
    rfl
  · obtain ⟨cdv, A, outer, s, rfl⟩ := hX
    have hN := sc__law_results_hold.nd
    obtain ⟨v, g, h, rfl, hv, k⟩ := h
    have l0 : ∀ {H' : Hp}, Live (fun _ => False) H' := Live.none
    have EG := eqG_fa (X := (cxOf (L2.CX P w) P w R.K mg base N__law_results_hold "_law_results_hold" (defScope s__law_results_hold) f cdv A outer s H E).nox) (R := R) rfl QG TG tk
    refine bCons <| sPar 1 2 <| aCons <| eLst <| aCons <| eIx ix_seq <| eV 0 rfl <| eI <| ixD (i := 0) hv rfl rfl fun a1 k1 => aNil ⟨by show 1 ≤ sizeLine; decide, fun p1 hp1 => ?_⟩
    have s1 := same_new (o := HO.lst [a1]) hp1
    have e1 : upd H p1 (.lst [a1]) p1 = some (.lst [a1]) := upd_same
    have k1 := k1.up s1
    generalize upd H p1 (.lst [a1]) = H1 at s1 e1 k1
    have hv1 := hv.up s1
    refine aCons <| eLst <| aCons <| eIx ix_seq <| eV 0 rfl <| eI <| ixD (i := 0) hv1 rfl rfl fun b1 q1 => aCons <| eIx ix_seq <| eV 0 rfl <| eI <| ixD (i := 0) hv1 rfl rfl fun b2 q2 => aNil ⟨by show 2 ≤ sizeLine; decide, fun p2 hp2 => aNil ⟨_, _, rfl, ?_⟩⟩
    have s2 := same_new (o := HO.lst [b1, b2]) hp2
    have e2 : upd H1 p2 (.lst [b1, b2]) p2 = some (.lst [b1, b2]) := upd_same
    have hp2H : H p2 = none := by
      cases q : H p2 with
      | none => rfl
      | some o =>
        have := s1 _ _ q
        rw [hp2] at this
        cases this
    have n12 : p1 ≠ p2 := fun z => by rw [← z, e1] at hp2; cases hp2
    have q1 := q1.up s2
    have q2 := q2.up s2
    have k1 := k1.up s2
    have e1 := s2 _ _ e1
    generalize upd H1 p2 (.lst [b1, b2]) = H2 at s2 e1 e2 k1 q1 q2
    have s02 := s1.trans s2
    have i1 : Is R (fun _ => False) H2 (.ref p1) (.lst [gD g]) := .lst (fun z => z) e1 (.cons k1 .nil)
    have i2 : Is R (fun _ => False) H2 (.ref p2) (.lst [gD g, gD g]) := .lst (fun z => z) e2 (.cons q1 (.cons q2 .nil))
    clear hv1 s1 s2 q1 q2
    -- the spread
    refine bCons <| sSet 3 <| eMake GP hr tk <| aCons <| eTupD R (fun _ => False) [.int 2, .int 4] <| aCons <| eI <| aCons <| eI <| aNil ⟨l0, IsA.ints (is := [2, 4]), fun v5 H5 s5 i5 => ?_⟩
    refine aCons <| eLstD R (fun _ => False) [.int 6, .int 3] <| aCons <| eI <| aCons <| eI <| aNil ⟨l0, IsA.ints (is := [6, 3]), fun v6 H6 s6 i6 => ?_⟩
    have s26 := s5.trans s6
    refine aCons <| eV 1 rfl <| aCons <| eV 2 rfl <| aNil fun m d hm hd hne => ⟨fun _ => False, H6, m, d, v5, v6, .ref p1, .ref p2, 2, 4, 6, 3, 4, .lst [gD g], .lst [gD g, gD g], [g], [g, g], rfl, same_made hm hd, hm, upd_same, l0, .inl (i5.up s6), .inr i6, by decide, by decide, by decide, by decide, by decide, by decide, by decide, i1.up s26, rfl, i2.up s26, rfl, fun H7 s7 i7 => ⟨rfl, ?_⟩⟩
    have m24 : mkQ 2 4 = mkQ 1 2 := (mkQ_inj (by decide) (by decide)).mpr (by decide)
    have m63 : mkQ 6 3 = mkQ 2 1 := (mkQ_inj (by decide) (by decide)).mpr (by decide)
    have f12 : frac (mkQ 1 2) = .tup [.int 1, .int 2] := frac_is (by decide +kernel) (by decide +kernel)
    have f21 : frac (mkQ 2 1) = .tup [.int 2, .int 1] := frac_is (by decide +kernel) (by decide +kernel)
    rw [m24, m63] at i7
    have i7 : Is R (fun _ => False) H7 (.ref m) (spT (mkQ 1 2, mkQ 2 1, [g], [g, g])) := i7
    have s27 := s26.trans s7
    have s07 := s02.trans s27
    have e1 := s27 _ _ e1
    have e2 := s27 _ _ e2
    have k1 := k1.up s27
    clear i5 i6 s5 s6 s26 i1 i2 hm hd hne s7 s27 s02
    -- its fields
    refine bCons <| sIf <| tCmp (op_neD hr.units) <| eTupD R (fun _ => False) [frac (mkQ 1 2), frac (mkQ 2 1)] <| aCons <| eFld <| eV 3 rfl <| (fldSpV LS i7).1 fun v8 f8 => aCons <| eFld <| eV 3 rfl <| (fldSpV LS i7).2.1 fun v9 f9 => aNil ⟨l0, .cons f8 (.cons f9 .nil), fun v10 Ha sa ia => ?_⟩
    refine eTupD R (fun _ => False) [frac (mkQ 1 2), frac (mkQ 2 1)] <| aCons <| eTupD R (fun _ => False) [.int 1, .int 2] <| aCons <| eI <| aCons <| eI <| aNil ⟨l0, IsA.ints (is := [1, 2]), fun v11 Hb sb ib => aCons <| eTupD R (fun _ => False) [.int 2, .int 1] <| aCons <| eI <| aCons <| eI <| aNil ⟨l0, IsA.ints (is := [2, 1]), fun v12 Hc sc ic => aNil ⟨l0, .cons (by rw [f12]; exact ib.up sc) (.cons (by rw [f21]; exact ic) .nil), fun v13 Hd sd id' => ?_⟩⟩⟩
    refine neD ((ia.up sb).up (sc.trans sd)) id' (two_fr _ _).1 (two_fr _ _).1 ⟨_, rfl, ?_⟩
    rw [(two_fr _ _).2]
    refine iteF <| bNil ?_
    have s7d := (sa.trans sb).trans (sc.trans sd)
    have i7d := i7.up s7d
    have s0d := s07.trans s7d
    have e1 := s7d _ _ e1
    have e2 := s7d _ _ e2
    have k1 := k1.up s7d
    have hvd := hv.up s0d
    clear ia ib ic id' f8 f9 sa sb sc sd s7d i7 s07
    refine bCons <| sIf <| tCmp (op_neA (n := 1) rfl EG (hr.mono (by decide))) <| eTupD R (fun _ => False) [.tup [gD g], .tup [gD g, gD g]] <| aCons <| eFld <| eV 3 rfl <| (fldSpV LS i7d).2.2.1 fun v8 f8 => aCons <| eFld <| eV 3 rfl <| (fldSpV LS i7d).2.2.2 fun v9 f9 => aNil ⟨l0, .cons f8 (.cons f9 .nil), fun v10 Ha sa ia => ?_⟩
    have hva := hvd.up sa
    refine eTupD R (fun _ => False) [.tup [gD g], .tup [gD g, gD g]] <| aCons <| eTupD R (fun _ => False) [gD g] <| aCons <| eIx ix_seq <| eV 0 rfl <| eI <| ixD (i := 0) hva rfl rfl fun b1 q1 => aNil ⟨l0, .cons q1 .nil, fun v11 Hb sb ib => ?_⟩
    have hvb := hva.up sb
    refine aCons <| eTupD R (fun _ => False) [gD g, gD g] <| aCons <| eIx ix_seq <| eV 0 rfl <| eI <| ixD (i := 0) hvb rfl rfl fun b1 q1 => aCons <| eIx ix_seq <| eV 0 rfl <| eI <| ixD (i := 0) hvb rfl rfl fun b2 q2 => aNil ⟨l0, .cons q1 (.cons q2 .nil), fun v12 Hc sc ic => aNil ⟨l0, .cons (ib.up sc) (.cons ic .nil), fun v13 Hd sd id' => ?_⟩⟩
    refine ⟨_, _, _, _, ia.up (sb.trans (sc.trans sd)), id', rfl, Nat.le_refl 1, ⟨gD_objs [g], gD_objs [g, g], trivial⟩, fun He se => ⟨_, rfl, iteF <| bNil ?_⟩⟩
    have sde := sa.trans ((sb.trans (sc.trans sd)).trans se)
    have i7e := i7d.up sde
    have s0e := s0d.trans sde
    have e1 := sde _ _ e1
    have e2 := sde _ _ e2
    have k1 := k1.up sde
    clear ia ib ic id' f8 f9 sa sb sc sd se sde i7d s0d hvd hva hvb q1 q2
    -- the list is cleared
    refine bCons <| sClr <| eV 2 rfl ⟨ty_list e2, p2, _, rfl, rfl, e2, ?_⟩
    have kl : KpL He (upd He p2 (.lst ([] : List V))) := kpL_upd1 e2
    have i7f := i7e.kpL kl rfl
    have k1 := k1.kpL kl rfl
    have e1 : upd He p2 (.lst ([] : List V)) p1 = some (.lst [a1]) := by rw [upd_ne n12]; exact e1
    have s0f : Same H (upd He p2 (.lst ([] : List V))) := same_upd s0e hp2H
    generalize upd He p2 (.lst ([] : List V)) = Hf at kl i7f k1 e1 s0f
    clear i7e s0e e2 kl
    have i1 : Is R (fun _ => False) Hf (.ref p1) (.lst [gD g]) := .lst (fun z => z) e1 (.cons k1 .nil)
    have hvf := hv.up s0f
    -- by keyword
    refine bCons <| sIf <| tCmp (op_neO QW nW (hr.mono (by decide)) tk) <| eV 3 rfl <| eMakeK GP KP hr tk <| kCons <| eRepD 2 <| eIx ix_seq <| eV 0 rfl <| eI <| ixD (i := 0) hvf rfl rfl fun b1 q1 => ⟨gD g, l0, q1, fun v8 Hg sg ig => ?_⟩
    refine kCons <| eV 1 rfl <| kCons <| eTupD R (fun _ => False) [.int 2, .int 1] <| aCons <| eI <| aCons <| eI <| aNil ⟨l0, IsA.ints (is := [2, 1]), fun v9 Hh sh ih => kCons <| eTupD R (fun _ => False) [.int 1, .int 2] <| aCons <| eI <| aCons <| eI <| aNil ⟨l0, IsA.ints (is := [1, 2]), fun v10 Hi si ii => ?_⟩⟩
    refine kNil ⟨rfl, fun n d hn hd hne => ⟨fun _ => False, Hi, n, d, v10, v9, .ref p1, v8, 1, 2, 2, 1, 4, .lst [gD g], .lst [gD g, gD g], [g], [g, g], rfl, same_made hn hd, hn, upd_same, l0, .inl ii, .inl (ih.up si), by decide, by decide, by decide, by decide, by decide, by decide, by decide, (i1.up sg).up (sh.trans si), rfl, ig.up (sh.trans si), rfl, fun Hj sj ij => ⟨rfl, ?_⟩⟩⟩
    have sfj := (sg.trans sh).trans (si.trans sj)
    refine ownV (d := spT) (c := "Spread") (fun _ => rfl) (i7f.up sfj) (show Is R (fun _ => False) Hj (.ref n) (spT (mkQ 1 2, mkQ 2 1, [g], [g, g])) from ij) fun Hk b sk ib => ⟨_, rfl, ?_⟩
    rw [ib.mpr rfl]
    refine iteF <| bNil ?_
    have sfk := sfj.trans sk
    have s0k := s0f.trans sfk
    have i7k := i7f.up sfk
    have i1k := i1.up sfk
    have e1 := sfk _ _ e1
    have k1 := k1.up sfk
    clear ig ih ii ij sg sh si sj sk sfj sfk hn hd hne i7f i1 s0f ib hvf q1
    -- the exchange
    have F' : ∀ {H' : Hp} {v' : V} {a b : Int}, Is R (fun _ => False) H' v' (.tup [.int a, .int b]) → 0 < b → a.natAbs < 2 ^ 4 → b.natAbs < 2 ^ 4 → Fr R (fun _ => False) H' v' 4 (mkQ a b) := fun i b0 za zb => ⟨_, _, .inl i, b0, za, zb, rfl, by decide⟩
    have m64 : mkQ 6 4 = mkQ 3 2 := (mkQ_inj (by decide) (by decide)).mpr (by decide)
    have f32 : frac (mkQ 3 2) = .tup [.int 3, .int 2] := frac_is (by decide +kernel) (by decide +kernel)
    refine bCons <| sSet 4 <| eMake GX hr tk <| aCons <| eI <| aCons <| eI <| aCons <| eI <| aCons <| eTupD R (fun _ => False) [.int 6, .int 4] <| aCons <| eI <| aCons <| eI <| aNil ⟨l0, IsA.ints (is := [6, 4]), fun v5 H5 s5 i5 => ?_⟩
    refine aNil fun x d hm hd hne => ⟨fun _ => False, H5, x, d, v5, 4, mkQ 6 4, 0, 1, 2, rfl, same_made hm hd, hm, upd_same, l0, F' i5 (by decide) (by decide) (by decide), by decide, fun H6 s6 ix _ => ⟨rfl, ?_⟩⟩
    rw [m64] at ix
    have sk6 := s5.trans s6
    have i1 := i1k.up sk6
    have e1 := sk6 _ _ e1
    have k1 := k1.up sk6
    have s06 := s0k.trans sk6
    clear i1k s0k i7k s5 s6 i5 hm hd hne sk6
    refine bCons <| sIf <| tCmp (op_neD hr.units) <| eTupD R (fun _ => False) [.int 0, .int 1, .int 2, frac (mkQ 3 2)] <| aCons <| eFld <| eV 4 rfl <| fldXb ix EX <| aCons <| eFld <| eV 4 rfl <| fldXm ix EX <| aCons <| eFld <| eV 4 rfl <| fldXe ix EX <| aCons <| eFld <| eV 4 rfl <| fldXw ix EX fun v8 f8 => aNil ⟨l0, .cons (.int _) (.cons (.int _) (.cons (.int _) (.cons f8 .nil))), fun v9 Ha sa ia => ?_⟩
    refine eTupD R (fun _ => False) [.int 0, .int 1, .int 2, frac (mkQ 3 2)] <| aCons <| eI <| aCons <| eI <| aCons <| eI <| aCons <| eTupD R (fun _ => False) [.int 3, .int 2] <| aCons <| eI <| aCons <| eI <| aNil ⟨l0, IsA.ints (is := [3, 2]), fun v10 Hb sb ib => aNil ⟨l0, .cons (.int _) (.cons (.int _) (.cons (.int _) (.cons (by rw [f32]; exact ib) .nil))), fun v11 Hc sc ic => ?_⟩⟩
    refine neD (ia.up (sb.trans sc)) ic (four_fr _ _ _ _).1 (four_fr _ _ _ _).1 ⟨_, rfl, ?_⟩
    rw [(four_fr _ _ _ _).2]
    refine iteF <| bNil ?_
    have s6c := sa.trans (sb.trans sc)
    have ixc : Is R (fun _ => False) Hc (.ref x) (exT (0, 1, 2, mkQ 3 2)) := ix.up s6c
    refine bCons <| sIf <| tCmp (op_neO QX nX (hr.mono (by decide)) tk) <| eV 4 rfl <| eMakeK GX KX hr tk <| kCons <| eTupD R (fun _ => False) [.int 3, .int 2] <| aCons <| eI <| aCons <| eI <| aNil ⟨l0, IsA.ints (is := [3, 2]), fun v12 Hd sd id' => kCons <| eI <| kCons <| eI <| kCons <| eI <| ?_⟩
    refine kNil ⟨rfl, fun n d hn hd hne => ⟨fun _ => False, Hd, n, d, v12, 4, mkQ 3 2, 0, 1, 2, rfl, same_made hn hd, hn, upd_same, l0, F' id' (by decide) (by decide) (by decide), by decide, fun He se ie _ => ⟨rfl, ?_⟩⟩⟩
    refine ownV (d := exT) (c := "Exchange") (fun _ => rfl) (ixc.up (sd.trans se)) (show Is R (fun _ => False) He (.ref n) (exT (0, 1, 2, mkQ 3 2)) from ie) fun Hf sb' sf ib' => ⟨_, rfl, ?_⟩
    rw [ib'.mpr rfl]
    refine iteF <| bNil ?_
    have s6f := s6c.trans (sd.trans (se.trans sf))
    have ixf : Is R (fun _ => False) Hf (.ref x) (exT (0, 1, 2, mkQ 3 2)) := ixc.up (sd.trans (se.trans sf))
    have i1f := i1.up s6f
    have e1 := s6f _ _ e1
    have k1 := k1.up s6f
    have s0f := s06.trans s6f
    clear ia ib ic id' ie ib' sa sb sc sd se sf s6c s6f ix ixc i1 s06 f8 hn hd hne
    -- the doubt
    refine bCons <| sSet 5 <| eMake GD hr tk <| aCons <| eV 1 rfl <| aCons <| eV 4 rfl <| aNil fun y d hm hd hne => ⟨fun _ => False, Hf, y, d, .ref p1, .ref x, .lst [gD g], [g], exT (0, 1, 2, mkQ 3 2), rfl, same_made hm hd, hm, upd_same, l0, i1f, rfl, ixf, fun Hg sg iy => ⟨rfl, ?_⟩⟩
    have iy : Is R (fun _ => False) Hg (.ref y) (dbT ([g], (0, 1, 2, mkQ 3 2))) := iy
    have ixg := ixf.up sg
    have e1 := sg _ _ e1
    have s0g := s0f.trans sg
    have hvg := hv.up s0g
    have hp1H : H p1 = none := hp1
    clear hm hd hne ixf i1f s0f sg
    refine bCons <| sApp <| eV 1 rfl ⟨ty_list e1, aCons <| eIx ix_seq <| eV 0 rfl <| eI <| ixD (i := 0) hvg rfl rfl fun b1 q1 => aNil ⟨p1, [a1], b1, rfl, rfl, e1, small1000 (by show 1 ≤ 1000; decide), ?_⟩⟩
    have kl : KpL Hg (upd Hg p1 (.lst ([a1] ++ [b1] : List V))) := kpL_upd1 e1
    have iyh := iy.kpL kl rfl
    have ixh := ixg.kpL kl rfl
    have s0h : Same H (upd Hg p1 (.lst ([a1] ++ [b1] : List V))) := same_upd s0g hp1H
    generalize upd Hg p1 (.lst ([a1] ++ [b1] : List V)) = Hh at kl iyh ixh s0h
    have hvh := hv.up s0h
    clear kl iy ixg hvg q1 e1 s0g k1
    have E2 := eqG_both EG (eqG_V (X := (cxOf (L2.CX P w) P w R.K mg base N__law_results_hold "_law_results_hold" (defScope s__law_results_hold) f cdv A outer s H E).nox) (R := R) (fl := exF) exT_obj rfl QX tk)
    refine bCons <| sIf <| tOr2 <| tCmp (op_neA (n := 1) rfl E2 (hr.mono (by decide))) <| eTupD R (fun _ => False) [.tup [gD g], exT (0, 1, 2, mkQ 3 2)] <| aCons <| eFld <| eV 5 rfl <| (fldDbV LD iyh).1 fun v8 f8 => aCons <| eFld <| eV 5 rfl <| (fldDbV LD iyh).2 fun v9 f9 => aNil ⟨l0, .cons f8 (.cons f9 .nil), fun v10 Ha sa ia => ?_⟩
    have hva := hvh.up sa
    refine eTupD R (fun _ => False) [.tup [gD g], exT (0, 1, 2, mkQ 3 2)] <| aCons <| eTupD R (fun _ => False) [gD g] <| aCons <| eIx ix_seq <| eV 0 rfl <| eI <| ixD (i := 0) hva rfl rfl fun b1 q1 => aNil ⟨l0, .cons q1 .nil, fun v11 Hb sb ib => aCons <| eV 4 rfl <| aNil ⟨l0, .cons ib (.cons (ixh.up (sa.trans sb)) .nil), fun v12 Hc sc ic => ?_⟩⟩
    refine ⟨_, _, _, _, ia.up (sb.trans sc), ic, rfl, Nat.le_refl 1, ⟨⟨.inl ⟨rfl, g.1, g.2, rfl⟩, trivial⟩, .inr ⟨rfl, _, rfl⟩, trivial⟩, fun Hd sd => ⟨_, rfl, iteF ?_⟩⟩
    have shd := sa.trans (sb.trans (sc.trans sd))
    have iyd := iyh.up shd
    have ixd := ixh.up shd
    have hvd := hvh.up shd
    have s0d := s0h.trans shd
    clear ia ib ic f8 f9 sa sb sc sd shd iyh ixh hvh hva s0h q1
    refine tCmp (op_neO QD nD (hr.mono (by decide)) tk) <| eV 5 rfl <| eMakeK GD KD hr tk <| kCons <| eV 4 rfl <| kCons <| eTupD R (fun _ => False) [gD g] <| aCons <| eIx ix_seq <| eV 0 rfl <| eI <| ixD (i := 0) hvd rfl rfl fun b1 q1 => aNil ⟨l0, .cons q1 .nil, fun v11 Ha sa ia => ?_⟩
    refine kNil ⟨rfl, fun n d hn hd hne => ⟨fun _ => False, Ha, n, d, v11, .ref x, .tup [gD g], [g], exT (0, 1, 2, mkQ 3 2), rfl, same_made hn hd, hn, upd_same, l0, ia, rfl, ixd.up sa, fun Hb sb ib => ⟨rfl, ?_⟩⟩⟩
    refine ownV (d := dbT) (c := "Doubt") (fun _ => rfl) (iyd.up (sa.trans sb)) (show Is R (fun _ => False) Hb (.ref n) (dbT ([g], (0, 1, 2, mkQ 3 2))) from ib) fun Hc b sc ic => ⟨_, rfl, ?_⟩
    rw [ic.mpr rfl]
    refine iteF <| bNil ?_
    have s0c := s0d.trans (sa.trans (sb.trans sc))
    clear ia ib ic sa sb sc iyd ixd hvd s0d q1 hn hd hne
    -- the solved
    refine bCons <| sSet 6 <| eMakeK GS KS hr tk <| kCons <| eLstD R (fun _ => False) [.int 1, .int 0] <| aCons <| eI <| aCons <| eI <| aNil ⟨l0, IsA.ints (is := [1, 0]), fun v5 Hd sd id' => ?_⟩
    refine kCons <| eLine GL hr tk <| aCons <| eTupD R (fun _ => False) [.int 1, .int 1] <| aCons <| eI <| aCons <| eI <| aNil ⟨l0, IsA.ints (is := [1, 1]), fun v6 He se ie => aCons <| eTupD R (fun _ => False) [.int 0, .int 1] <| aCons <| eI <| aCons <| eI <| aNil ⟨l0, IsA.ints (is := [0, 1]), fun v7 Hf sf if' => ?_⟩⟩
    refine aNil ⟨fun _ => False, _, _, 4, 4, mkQ 1 1, mkQ 0 1, rfl, l0, F' (ie.up sf) (by decide) (by decide) (by decide), F' if' (by decide) (by decide) (by decide), by decide, by decide, fun vl Hg sg il _ _ => ?_⟩
    refine kNil ⟨rfl, fun n d hn hd hne => ⟨fun _ => False, Hg, n, d, vl, v5, (mkQ 1 1, mkQ 0 1), .lst [.int 1, .int 0], [1, 0], rfl, same_made hn hd, hn, upd_same, l0, il, id'.up (se.trans (sf.trans sg)), rfl, fun Hh sh ih => ⟨rfl, ?_⟩⟩⟩
    have ih : Is R (fun _ => False) Hh (.ref n) (solD ((mkQ 1 1, mkQ 0 1), [1, 0])) := ih
    have sch := sd.trans (se.trans (sf.trans (sg.trans sh)))
    have s0h := s0c.trans sch
    clear id' ie if' il sd se sf sg sh sch s0c hn hd hne
    have m11 : mkQ 2 2 = mkQ 1 1 := (mkQ_inj (by decide) (by decide)).mpr (by decide)
    have m07 : mkQ 0 7 = mkQ 0 1 := (mkQ_inj (by decide) (by decide)).mpr (by decide)
    have EL := eqG_fa (X := (cxOf (L2.CX P w) P w R.K mg base N__law_results_hold "_law_results_hold" (defScope s__law_results_hold) f cdv A outer s H E).nox) (R := R) rfl QL TL tk
    have fo : ∀ {H' : Hp} {Q' : VK}, Is R (fun _ => False) H' (.ref n) (solD ((mkQ 1 1, mkQ 0 1), [1, 0])) → (∀ v, Is R (fun _ => False) H' v (.tup [.int 1, .int 0]) → Q' v H') → rFld R.K "order" (.ref n) H' Q' := fun {H' Q'} z q => fldD (f := ("order" : Str)) z cS n2 ((lk1 (g := ("line" : Str)) (f := ("order" : Str)) (by decide +kernel)).trans lk0) q
    refine bOne <| sRet <| eCmp (op_eqA (n := 1) rfl EL (hr.mono (by decide))) <| eTupD R (fun _ => False) [faD "Line" (mkQ 1 1) (mkQ 0 1), .tup [.int 1, .int 0]] <| aCons <| eFld <| eV 6 rfl <| fldD ih cS n1 lk0 fun v8 f8 => aCons <| eCTy call_tupO mT <| aCons <| eFld <| eV 6 rfl <| fo ih fun v9 f9 => aNil <| tupOf f9 rfl l0 fun v10 Ha sa ia => aNil ⟨l0, .cons (f8.up sa) (.cons ia .nil), fun v11 Hb sb ib => ?_⟩
    refine eTupD R (fun _ => False) [faD "Line" (mkQ 1 1) (mkQ 0 1), .tup [.int 1, .int 0]] <| aCons <| eLine GL hr tk <| aCons <| eTupD R (fun _ => False) [.int 2, .int 2] <| aCons <| eI <| aCons <| eI <| aNil ⟨l0, IsA.ints (is := [2, 2]), fun v6 He se ie => aCons <| eTupD R (fun _ => False) [.int 0, .int 7] <| aCons <| eI <| aCons <| eI <| aNil ⟨l0, IsA.ints (is := [0, 7]), fun v7 Hf sf if' => ?_⟩⟩
    refine aNil ⟨fun _ => False, _, _, 4, 4, mkQ 2 2, mkQ 0 7, rfl, l0, F' (ie.up sf) (by decide) (by decide) (by decide), F' if' (by decide) (by decide) (by decide), by decide, by decide, fun vl Hg sg il _ _ => ?_⟩
    rw [m11, m07] at il
    refine aCons <| eTupD R (fun _ => False) [.int 1, .int 0] <| aCons <| eI <| aCons <| eI <| aNil ⟨l0, IsA.ints (is := [1, 0]), fun v12 Hi si ii => aNil ⟨l0, .cons (il.up si) (.cons ii .nil), fun v13 Hj sj ij => ?_⟩⟩
    exact ⟨_, _, _, _, ib.up (se.trans (sf.trans (sg.trans (si.trans sj)))), ij, rfl, Nat.le_refl 1, ⟨⟨rfl, _, _, rfl⟩, ⟨trivial, trivial, trivial⟩, trivial⟩, fun Hk sk => k _ (s0h.trans (sa.trans (sb.trans (se.trans (sf.trans (sg.trans (si.trans (sj.trans sk))))))))⟩
end
end BR

namespace BR
open PySem PySem.Spec PyProof.Rows L2
/-- objects made of facts by a def that is given -/
def spDiffer {α : Type} (P : Program) (w : World) (mg : Str → Option Value) (R : Rp) (d : α → D) (base : Heap) : Sp := fun vs H Q _ => ∃ (u t : V) (f : Addr) (l m : List D) (a : α) (Ok : List D → α → Prop) (spL : Sp), vs = [.ref f, u, t] ∧ Is R (fun _ => False) H u (.lst l) ∧ Is R (fun _ => False) H t (.lst m) ∧ l.length = m.length ∧ l.length ≤ 4 ∧ LamV P w R.K mg base 5 ["_law_x"] spL f ∧
  (∀ (H3 : Hp) (x : V) (l' : List D) (b : α) (Q' : VK) (E' : XK), Same H H3 → Is R (fun _ => False) H3 x (.lst l') → Ok l' b → (∀ v' H', Same H3 H' → Is R (fun _ => False) H' v' (d b) → Q' v' H') → spL [x] H3 Q' E') ∧ Ok l a ∧ (∀ i e, m[i]? = some e → ∃ b, Ok (l.take i ++ [e] ++ l.drop (i + 1)) b ∧ a ≠ b) ∧ ∀ H', Same H H' → Q (.bl true) H'
section
variable {P : Program} {w : World} {K : PySem.W.Frag} {mg : Str → Option Value} {base : Heap} {R : Rp}
theorem ok_differ {α : Type} {c : Str} {d : α → D} {fl : α → List (Str × D)} (ed : ∀ l, d l = .obj c (fl l)) (hK : R.K = K) (A : DefAt K mg "_law_differ" s__law_differ ["_law_make", "_law_facts", "_law_others"]) (mL : mg "list" = none) (mR : mg "range" = none) (mN : mg "len" = none) (mT : mg "tuple" = none)
    (QV : MethG P w K mg base 4 (R.CA c) "__eq__" ["self", "other"] (spEqV R d)) (QO : MethG P w K mg base 1 (R.CA c) "__eq__" ["self", "other"] (spEqO R)) (nV : NeOk R.K (R.CA c)) (NS : NoSeq R.K (R.CA c)) :
    OverG P w K mg base 7 "_law_differ" ["_law_make", "_law_facts", "_law_others"] (spDiffer P w mg R d) := by
  intro base' Wd
  replace QV := QV.wide Wd
  replace QO := QO.wide Wd
  subst hK
  obtain ⟨f, fd, F, hm, hb⟩ := A.ex
  refine ⟨f, fd, okN F sc__law_differ (fun vs H Q E h => ?_) fun X H vs Q E hX hr tk h => ?_, hm, F.kp, hb⟩
  · obtain ⟨u, t, fa, l, m, a0, Ok, spL, rfl, _⟩ := h
    rfl
  · obtain ⟨cdv, A, outer, s, rfl⟩ := hX
    have hN := sc__law_differ.nd
    obtain ⟨u, t, fa, l, m, a0, Ok, spL, rfl, hu, ht, elm, l4, LV, kk, okl, dif, k⟩ := h
    have l0 : ∀ {H' : Hp}, Live (fun _ => False) H' := Live.none
    refine bCons <| sSet 3 <| eCallL 0 LV hr tk rfl <| aCons <| eV 1 rfl <| aNil <| kk H u l a0 _ _ (Same.refl _) hu okl fun v1 H1 s1 i1 => ?_
    refine bCons <| sIf <| tCmp (op_neO QV nV (hr.mono (by decide)) tk) <| eV 3 rfl <| eCallL 0 LV hr tk rfl <| aCons <| eCTy call_listO mL <| aCons <| eV 1 rfl <| aNil <| listOf (hu.up s1) rfl l0 fun v2 H2 s2 i2 => aNil <| kk H2 v2 l a0 _ _ (s1.trans s2) i2 okl fun v3 H3 s3 i3 => ownV ed (i1.up (s2.trans s3)) i3 fun H4 b s4 ib => ⟨_, rfl, ?_⟩
    rw [ib.mpr rfl]
    refine iteF <| bNil ?_
    have s14 := s2.trans (s3.trans s4)
    have i4 := i1.up s14
    have s04 := s1.trans s14
    clear ib i3 i2 i1 s1 s2 s3 s4 s14
    refine bCons <| sFor <| iR1 mR <| aCons <| eCB call_lenO mN <| aCons <| eV 1 rfl <| aNil <| lenOf (hu.up s04) rfl <| aNil ⟨(l.length : Nat), rfl, by omega, by omega, ?_⟩
    rw [Int.toNat_natCast]
    refine ⟨_, _, _, walk_range, fun i σ H' => (∃ b4 b5, σ = [some (.ref fa), some u, some t, some v1, b4, b5]) ∧ Same H4 H', ⟨⟨_, _, rfl⟩, Same.refl _⟩, fun _ _ _ _ _ => True.intro, ?_, ?_⟩
    · rintro i x σ H5 H5' hi ⟨⟨b4, b5, rfl⟩, s5⟩ ⟨rfl, rfl⟩
      have him : i < m.length := by omega
      have em : m[i]? = some m[i] := List.getElem?_eq_getElem him
      obtain ⟨bb, ok2, ne⟩ := dif i _ em
      have s05 := s04.trans s5
      have hu5 := hu.up s05
      have ht5 := ht.up s05
      have e1 : ((i : Int) + 1) = ((i + 1 : Nat) : Int) := by omega
      show wG _ _ (V.int (0 + (i : Nat))) _ _ _
      rw [Int.zero_add (i : Int)]
      refine BR.gN 4 <| bCons <| sSet 5 <| eCallL 0 LV hr tk rfl <| aCons <| eOp op_catR <| eOp op_catR <| eSl (lo := none) (hi := some _) sl_list po_none (po_some (pE _)) <| eV 1 rfl <| eV 4 rfl ⟨(i : Int), rfl, slTake (R := R) (S := fun _ => False) hu5 l0 i fun va H6 s6 ia => ?_⟩
      refine eLstD R (fun _ => False) [m[i]] <| aCons <| eIx ix_seq <| eV 2 rfl <| eV 4 rfl <| ixD (i := i) (ht5.up s6) rfl em fun x ix => aNil ⟨l0, .cons ix .nil, fun vl H7 s7 il => ?_⟩
      have lt : (l.take i).length ≤ 4 := by rw [List.length_take]; omega
      have ld : (l.drop (i + 1)).length ≤ 4 := by rw [List.length_drop]; omega
      refine catD (R := R) (S := fun _ => False) (ia.up s7) il l0 (by show _ + 1 ≤ 1000; omega) fun vb H8 s8 ib => ?_
      have s58 := s6.trans (s7.trans s8)
      refine eSl (lo := some _) (hi := none) sl_list (po_some (pE _)) po_none <| eV 1 rfl <| eOp op_add <| eV 4 rfl <| eI ⟨_, _, rfl, rfl, ((i + 1 : Nat) : Int), rfl, slDrop (R := R) (S := fun _ => False) (hu5.up s58) l0 (i + 1) fun vc H9 s9 ic => ?_⟩
      refine catD (R := R) (S := fun _ => False) (ib.up s9) ic l0 (by rw [List.length_append]; show _ + 1 + _ ≤ 1000; omega) fun vd Ha sa id6 => aNil <| kk Ha vd _ bb _ _ (s05.trans (s58.trans (s9.trans sa))) id6 ok2 fun ve Hb sb ie => ?_
      have s5b := s58.trans (s9.trans (sa.trans sb))
      have i4b := i4.up (s5.trans s5b)
      refine bOne <| sIf <| tOr2 <| tCmp (op_eqO QV (hr.mono (by decide)) tk) <| eV 3 rfl <| eV 5 rfl <| ownV ed i4b ie fun Hc b sc ibc => ⟨_, rfl, ?_⟩
      have eb : b = false := by
        cases b with
        | false => rfl
        | true => exact absurd (ibc.mp rfl) ne
      rw [eb]
      refine iteF <| tNot <| tCmp (op_neO QV nV (hr.mono (by decide)) tk) <| eV 3 rfl <| eV 5 rfl <| ownV ed (i4b.up sc) (ie.up sc) fun Hd b2 sd ibd => ⟨_, rfl, ?_⟩
      have eb2 : b2 = false := by
        cases b2 with
        | false => rfl
        | true => exact absurd (ibd.mp rfl) ne
      rw [eb2]
      exact iteF <| bNil ⟨⟨_, _, rfl⟩, s5.trans (s5b.trans (sc.trans sd))⟩
    · rintro σ H5 ⟨⟨b4, b5, rfl⟩, s5⟩
      have i5 := i4.up s5
      have s05 := s04.trans s5
      have hu5 := hu.up s05
      have E1 : EqB (cxOf (CX P w) P w R.K mg base' N__law_differ "_law_differ" (defScope s__law_differ) f cdv A outer s H E).nox 1 _ := eqb_refl QO NS tk
      refine bOne <| sRet <| eCmp (op_notInB E1 (hr.mono (by decide))) <| eV 3 rfl <| eLst <| aCons <| eN <| aCons <| eCTy call_tupO mT <| aCons <| eV 1 rfl <| aNil <| tupOf hu5 rfl l0 fun vt H6 s6 it => aCons <| eV 1 rfl <| aNil ⟨by show 3 ≤ sizeLine; decide, fun pl hpl => ?_⟩
      have s7 := same_new (o := HO.lst [.non, vt, u]) hpl
      have hpl1 : upd H6 pl (.lst [.non, vt, u]) pl = some (.lst [.non, vt, u]) := upd_same
      have s57 := s6.trans s7
      have i7 := i5.up s57
      have it7 := it.up s7
      have hu7 := hu5.up s57
      generalize upd H6 pl (.lst [.non, vt, u]) = H7 at s7 hpl1 s57 i7 it7 hu7
      obtain ⟨aM, dM, fM, rfl, eM⟩ := objP_ins (show Is R (fun _ => False) H7 v1 (.obj c (fl a0)) by rw [← ed]; exact i7)
      obtain ⟨aT, xT, rfl, hsT, _⟩ := id it7.tupE
      obtain ⟨aU, xU, rfl, _, hsU, _⟩ := id hu7.lstE
      have no : ∀ {y : V} {T : String} {Q' : VK}, TyX R.K H7 y (.type T) → (T = "tuple" ∨ T = "list" ∨ T = "NoneType") → Q' (.bl false) H7 → spEqO R [.ref aM, y] H7 Q' fun _ _ _ => False := fun h1 h2 h3 => ⟨_, _, _, rfl, h1, h2, h3⟩
      refine ⟨pl, [.non, .ref aT, .ref aU], rfl, hpl1, ?_⟩
      refine ⟨aM, dM, fM, rfl, eM, .inr (.inr rfl), no (.base .non) (.inr (.inr rfl)) ⟨false, rfl, hpl1, false, rfl, iteF ?_⟩⟩
      refine ⟨aM, dM, fM, rfl, eM, .inl ⟨aT, xT, rfl, hsT⟩, no (tup_tyx it7) (.inl rfl) ⟨false, rfl, hpl1, false, rfl, iteF ?_⟩⟩
      refine ⟨aM, dM, fM, rfl, eM, .inr (.inl ⟨aU, xU, rfl, SqL.of hsU⟩), no (lst_tyx hu7) (.inr (.inl rfl)) ⟨false, rfl, hpl1, false, rfl, iteF ⟨false, rfl, ?_⟩⟩⟩
      exact k _ (s05.trans s57)
end
end BR

namespace BR
open PySem PySem.Spec PyProof.Rows L2
def spEqH36 (T : List (Addr × Str)) (R : Rp) : Sp := fun vs H Q _ => ∃ (v : V) (g h : G2), vs = [v] ∧ Is R (fun _ => False) H v (.lst [gD g, gD h]) ∧ G9 g ∧ G9 h ∧ Tabs T H ∧ ∀ H', ExtN H H' → Tabs T H' → Q (.bl true) H'
/-- the facts of a spread -/
def OkSp (l : List D) (t : Rat × Rat × List G2 × List G2) : Prop := ∃ (p q a b : Int) (gs hs : List G2), l = [.tup [.int p, .int q], .tup [.int a, .int b], .lst (gs.map gD), .lst (hs.map gD)] ∧ 0 < q ∧ 0 < b ∧ p.natAbs < 2 ^ 4 ∧ q.natAbs < 2 ^ 4 ∧ a.natAbs < 2 ^ 4 ∧ b.natAbs < 2 ^ 4 ∧ t = (mkQ p q, mkQ a b, gs, hs)
def OkEx (l : List D) (t : Int × Int × Int × Rat) : Prop := ∃ (b m e p q : Int), l = [.int b, .int m, .int e, .tup [.int p, .int q]] ∧ 0 < q ∧ p.natAbs < 2 ^ 4 ∧ q.natAbs < 2 ^ 4 ∧ t = (b, m, e, mkQ p q)
def OkDb (l : List D) (t : List G2 × (Int × Int × Int × Rat)) : Prop := ∃ gs u, l = [.lst (gs.map gD), exT u] ∧ t = (gs, u)
def OkSo (l : List D) (t : G2 × List Int) : Prop := ∃ (g : G2) (os : List Int), l = [faD "Line" g.1 g.2, .tup (os.map D.int)] ∧ t = (g, os)
section
variable {P : Program} {w : World} {K : PySem.W.Frag} {mg : Str → Option Value} {base : Heap} {R : Rp}
theorem ok_eqH {CE c PT : Addr} {T : List (Addr × Str)} (hK : R.K = K) (A : DefAtC K mg "_law_equality_holds" s__law_equality_holds ["_law_gates"] c) (TB : TabB base mg c PT) (hmT : (PT, lamQ "_law_equality_holds") ∈ T) (hu : ∀ p ∈ T, p.1 = PT → p.2 = lamQ "_law_equality_holds")
    (GG : MakeG P w K mg base 4 "Gate" (R.CA "Gate") ["self", "factor", "amount"] (spGate R CE)) (GX : MakeG P w K mg base 3 "Exchange" (R.CA "Exchange") ["self", "begin", "middle", "end", "worth"] (spExch R)) (GP : MakeG P w K mg base 3 "Spread" (R.CA "Spread") ["self", "least", "greatest", "low", "high"] (spSpreadI R))
    (GD : MakeG P w K mg base 1 "Doubt" (R.CA "Doubt") ["self", "corner", "exchange"] (spDoubtI R)) (GS : MakeG P w K mg base 1 "Solved" (R.CA "Solved") ["self", "line", "order"] (spSolvedI R)) (GL : MakeG P w K mg base 3 "Line" (R.CA "Line") ["self", "factor", "amount"] (spLine R))
    (DW : OverG P w K mg base 7 "_law_differ" ["_law_make", "_law_facts", "_law_others"] (spDiffer P w mg R spT)) (DX : OverG P w K mg base 7 "_law_differ" ["_law_make", "_law_facts", "_law_others"] (spDiffer P w mg R exT))
    (DD : OverG P w K mg base 7 "_law_differ" ["_law_make", "_law_facts", "_law_others"] (spDiffer P w mg R dbT)) (DS : OverG P w K mg base 7 "_law_differ" ["_law_make", "_law_facts", "_law_others"] (spDiffer P w mg R solD)) :
    DefG P w K mg base 10 "_law_equality_holds" ["_law_gates"] (spEqH36 T R) := by
  subst hK
  obtain ⟨f, fd, F, hm, hb⟩ := A.ex
  refine ⟨f, fd, okL F sc__law_equality_holds (fun vs H Q E h => ?_) fun X H vs Q E hX hr tk h => ?_, hm, F.kp, hb⟩
  · obtain ⟨v, g, h, rfl, _⟩ := h
    rfl
  · obtain ⟨A, outer, s, rfl⟩ := hX
    have hN := sc__law_equality_holds.nd
    obtain ⟨v, g, h, rfl, hv, g9, h9, T0, k⟩ := h
    have l0 : ∀ {H' : Hp}, Live (fun _ => False) H' := Live.none
    have F' : ∀ {H' : Hp} {v' : V} {a b : Int}, Is R (fun _ => False) H' v' (.tup [.int a, .int b]) → 0 < b → a.natAbs < 2 ^ 4 → b.natAbs < 2 ^ 4 → Fr R (fun _ => False) H' v' 4 (mkQ a b) := fun i b0 za zb => ⟨_, _, .inl i, b0, za, zb, rfl, by decide⟩
    refine bCons <| sPar 1 2 <| aCons <| eLstD R (fun _ => False) [gD g] <| aCons <| eIx ix_seq <| eV 0 rfl <| eI <| ixD (i := 0) hv rfl rfl fun a1 k1 => aNil ⟨l0, .cons k1 .nil, fun v1 H1 s1 i1 => ?_⟩
    refine aCons <| eLstD R (fun _ => False) [gD (mkQ 1 7, mkQ 5 9)] <| aCons <| eGate GG hr tk <| aCons <| eTupD R (fun _ => False) [.int 1, .int 7] <| aCons <| eI <| aCons <| eI <| aNil ⟨l0, IsA.ints (is := [1, 7]), fun v5 H5 s5 i5 => aCons <| eTupD R (fun _ => False) [.int 5, .int 9] <| aCons <| eI <| aCons <| eI <| aNil ⟨l0, IsA.ints (is := [5, 9]), fun v6 H6 s6 i6 => ?_⟩⟩
    refine aNil ⟨fun _ => False, v5, v6, 1, 7, 5, 9, rfl, l0, .inl (i5.up s6), .inl i6, dueG_ok (by decide) (by decide) (by decide) (by decide) (by decide) (by decide) (by decide) (by decide), fun vg H7 s7 ig _ _ _ => aNil ⟨l0, .cons ig .nil, fun v2 H8 s8 i2 => aNil ⟨_, _, rfl, ?_⟩⟩⟩
    have s18 := s5.trans (s6.trans (s7.trans s8))
    have s08 := s1.trans s18
    have i1 := i1.up s18
    clear i5 i6 ig s5 s6 s7 s8 s18 s1 k1
    refine bCons <| sPar 3 4 <| aCons <| eMake GX hr tk <| aCons <| eI <| aCons <| eI <| aCons <| eI <| aCons <| eTupD R (fun _ => False) [.int 1, .int 1] <| aCons <| eI <| aCons <| eI <| aNil ⟨l0, IsA.ints (is := [1, 1]), fun v5 H9 s9 i5 => ?_⟩
    refine aNil fun x d hm hd hne => ⟨fun _ => False, H9, x, d, v5, 4, mkQ 1 1, 0, 1, 2, rfl, same_made hm hd, hm, upd_same, l0, F' i5 (by decide) (by decide) (by decide), by decide, fun Ha sa ix _ => ⟨rfl, ?_⟩⟩
    refine aCons <| eMake GX hr tk <| aCons <| eI <| aCons <| eI <| aCons <| eI <| aCons <| eTupD R (fun _ => False) [.int 1, .int 2] <| aCons <| eI <| aCons <| eI <| aNil ⟨l0, IsA.ints (is := [1, 2]), fun v6 Hb sb i6 => ?_⟩
    refine aNil fun y d hm hd hne => ⟨fun _ => False, Hb, y, d, v6, 4, mkQ 1 2, 0, 1, 2, rfl, same_made hm hd, hm, upd_same, l0, F' i6 (by decide) (by decide) (by decide), by decide, fun Hc sc iy _ => ⟨rfl, aNil ⟨_, _, rfl, ?_⟩⟩⟩
    have s8c := s9.trans (sa.trans (sb.trans sc))
    have s0c := s08.trans s8c
    have i1 := i1.up s8c
    have i2 := i2.up s8c
    have ix : Is R (fun _ => False) Hc (.ref x) (exT (0, 1, 2, mkQ 1 1)) := ix.up (sb.trans sc)
    have iy : Is R (fun _ => False) Hc (.ref y) (exT (0, 1, 2, mkQ 1 2)) := iy
    clear i5 i6 s9 sa sb sc s8c s08 hm hd hne
    refine bCons <| sPar 5 6 <| aCons <| eLstD R (fun _ => False) [.tup [.int 1, .int 2], .tup [.int 3, .int 2], .lst [gD g], .lst [gD g]] <| aCons <| eTupD R (fun _ => False) [.int 1, .int 2] <| aCons <| eI <| aCons <| eI <| aNil ⟨l0, IsA.ints (is := [1, 2]), fun v5 Hd sd i5 => aCons <| eTupD R (fun _ => False) [.int 3, .int 2] <| aCons <| eI <| aCons <| eI <| aNil ⟨l0, IsA.ints (is := [3, 2]), fun v6 He se i6 => ?_⟩⟩
    refine aCons <| eV 1 rfl <| aCons <| eV 1 rfl <| aNil ⟨l0, .cons (i5.up se) (.cons i6 (.cons (i1.up (sd.trans se)) (.cons (i1.up (sd.trans se)) .nil))), fun vF Hf sf iF => ?_⟩
    have scf := sd.trans (se.trans sf)
    refine aCons <| eLstD R (fun _ => False) [.tup [.int 0, .int 1], .tup [.int 5, .int 2], .lst [gD (mkQ 1 7, mkQ 5 9)], .lst [gD (mkQ 1 7, mkQ 5 9)]] <| aCons <| eTupD R (fun _ => False) [.int 0, .int 1] <| aCons <| eI <| aCons <| eI <| aNil ⟨l0, IsA.ints (is := [0, 1]), fun v7 Hg sg i7 => aCons <| eTupD R (fun _ => False) [.int 5, .int 2] <| aCons <| eI <| aCons <| eI <| aNil ⟨l0, IsA.ints (is := [5, 2]), fun v8 Hh sh i8 => ?_⟩⟩
    refine aCons <| eV 2 rfl <| aCons <| eV 2 rfl <| aNil ⟨l0, .cons (i7.up sh) (.cons i8 (.cons (i2.up (scf.trans (sg.trans sh))) (.cons (i2.up (scf.trans (sg.trans sh))) .nil))), fun vO Hi si iO => aNil ⟨_, _, rfl, ?_⟩⟩
    have sci := scf.trans (sg.trans (sh.trans si))
    have iF := iF.up (sg.trans (sh.trans si))
    have i1 := i1.up sci
    have i2 := i2.up sci
    have ix := ix.up sci
    have iy := iy.up sci
    have s0i := s0c.trans sci
    have Ti := T0.ext s0i
    have gne : g ≠ (mkQ 1 7, mkQ 5 9) := fun z => by
      have q := g9.d2
      rw [z] at q
      exact absurd q (by decide +kernel)
    clear i5 i6 i7 i8 sd se sf sg sh si scf sci s0c
    refine bCons <| sIf <| tNot <| tVal <| eLamF (p := "_law_x") (k := 4) s__law_equality_holds N__law_equality_holds DW TB rfl hmT hu hr tk ⟨Ti, fun H2 fa c' en T2 hco => aCons <| eV 5 rfl <| aCons <| eV 6 rfl <| aNil ⟨rfl, fun base' lv => ?_⟩⟩
    refine ⟨vF, vO, fa, _, _, (mkQ 1 2, mkQ 3 2, [g], [g]), OkSp, _, rfl, iF.en en, iO.en en, rfl, by show 4 ≤ 4; decide, lv, fun H3 x l' b Q' E' s3 il ok kq => ?_, ?_, ?_, fun H' s' => ?_⟩
    · refine ⟨x, rfl, s3 _ _ hco, fun A2 outer2 s2 H0 f2 c2 hr2 => ?_⟩
      obtain ⟨p, q, a, b', gs, hs, rfl, q0, b0, zp, zq, za, zb, rfl⟩ := ok
      refine eMake GP hr2 takes_lam1 <| aCons <| eIx ix_seq <| eV 0 rfl <| eI <| ixD (i := 0) il rfl rfl fun x1 j1 => aCons <| eIx ix_seq <| eV 0 rfl <| eI <| ixD (i := 1) il rfl rfl fun x2 j2 => aCons <| eIx ix_seq <| eV 0 rfl <| eI <| ixD (i := 2) il rfl rfl fun x3 j3 => aCons <| eIx ix_seq <| eV 0 rfl <| eI <| ixD (i := 3) il rfl rfl fun x4 j4 => ?_
      exact aNil fun m d hm hd hne => ⟨fun _ => False, H3, m, d, x1, x2, x3, x4, p, q, a, b', 4, _, _, gs, hs, rfl, same_made hm hd, hm, upd_same, l0, .inl j1, .inl j2, q0, b0, zp, zq, za, zb, by decide, j3, rfl, j4, rfl, fun H5 s5 i5 => ⟨rfl, kq _ _ s5 i5⟩⟩
    · exact ⟨1, 2, 3, 2, [g], [g], rfl, by decide, by decide, by decide, by decide, by decide, by decide, rfl⟩
    · intro i e he
      have n1 : mkQ 1 2 ≠ mkQ 0 1 := by decide +kernel
      have n2 : mkQ 3 2 ≠ mkQ 5 2 := by decide +kernel
      match i, he with
      | 0, he =>
        cases he
        exact ⟨(mkQ 0 1, mkQ 3 2, [g], [g]), ⟨0, 1, 3, 2, [g], [g], rfl, by decide, by decide, by decide, by decide, by decide, by decide, rfl⟩, fun z => n1 (congrArg Prod.fst z)⟩
      | 1, he =>
        cases he
        exact ⟨(mkQ 1 2, mkQ 5 2, [g], [g]), ⟨1, 2, 5, 2, [g], [g], rfl, by decide, by decide, by decide, by decide, by decide, by decide, rfl⟩, fun z => n2 (congrArg (fun t : Rat × Rat × List G2 × List G2 => t.2.1) z)⟩
      | 2, he =>
        cases he
        exact ⟨(mkQ 1 2, mkQ 3 2, [(mkQ 1 7, mkQ 5 9)], [g]), ⟨1, 2, 3, 2, [(mkQ 1 7, mkQ 5 9)], [g], rfl, by decide, by decide, by decide, by decide, by decide, by decide, rfl⟩, fun z => gne (List.cons.inj (congrArg (fun t : Rat × Rat × List G2 × List G2 => t.2.2.1) z)).1⟩
      | 3, he =>
        cases he
        exact ⟨(mkQ 1 2, mkQ 3 2, [g], [(mkQ 1 7, mkQ 5 9)]), ⟨1, 2, 3, 2, [g], [(mkQ 1 7, mkQ 5 9)], rfl, by decide, by decide, by decide, by decide, by decide, by decide, rfl⟩, fun z => gne (List.cons.inj (congrArg (fun t : Rat × Rat × List G2 × List G2 => t.2.2.2) z)).1⟩
      | n + 4, he => cases he
    refine ⟨_, rfl, iteF <| bNil ?_⟩
    have e1 : ExtN Hi H' := en.trans (en_of s')
    have T1 := T2.ext s'
    have i1 := i1.en e1
    have i2 := i2.en e1
    have ix := ix.en e1
    have iy := iy.en e1
    have e0 : ExtN H H' := (en_of s0i).trans e1
    clear iF iO hco s' T2 en Ti s0i e1 T0
    -- exchanges
    refine bCons <| sIf <| tNot <| tVal <| eLamF (p := "_law_x") (k := 4) s__law_equality_holds N__law_equality_holds DX TB rfl hmT hu hr tk ⟨T1, fun H2 fa c' en T2 hco => aCons <| eLstD R (fun _ => False) [.int 0, .int 2, .int 4, .tup [.int 1, .int 1]] <| aCons <| eI <| aCons <| eI <| aCons <| eI <| aCons <| eTupD R (fun _ => False) [.int 1, .int 1] <| aCons <| eI <| aCons <| eI <| aNil ⟨l0, IsA.ints (is := [1, 1]), fun v5 Ha sa ia => aNil ⟨l0, .cons (.int _) (.cons (.int _) (.cons (.int _) (.cons ia .nil))), fun v6 Hb sb ib => ?_⟩⟩⟩
    refine aCons <| eLstD R (fun _ => False) [.int 1, .int 3, .int 5, .tup [.int 2, .int 1]] <| aCons <| eI <| aCons <| eI <| aCons <| eI <| aCons <| eTupD R (fun _ => False) [.int 2, .int 1] <| aCons <| eI <| aCons <| eI <| aNil ⟨l0, IsA.ints (is := [2, 1]), fun v7 Hc sc ic => aNil ⟨l0, .cons (.int _) (.cons (.int _) (.cons (.int _) (.cons ic .nil))), fun v8 Hd sd id' => aNil ⟨rfl, fun base' lv => ?_⟩⟩⟩
    have s2d := sa.trans (sb.trans (sc.trans sd))
    refine ⟨v6, v8, fa, _, _, (0, 2, 4, mkQ 1 1), OkEx, _, rfl, ib.up (sc.trans sd), id', rfl, by show 4 ≤ 4; decide, lv, fun H3 x l' b Q' E' s3 il ok kq => ?_, ⟨0, 2, 4, 1, 1, rfl, by decide, by decide, by decide, rfl⟩, ?_, fun H5 s5 => ?_⟩
    · refine ⟨x, rfl, s3 _ _ (s2d _ _ hco), fun A2 outer2 s2 H0 f2 c2 hr2 => ?_⟩
      obtain ⟨b', m, e, p, q, rfl, q0, zp, zq, rfl⟩ := ok
      refine eMake GX hr2 takes_lam1 <| aCons <| eIx ix_seq <| eV 0 rfl <| eI <| ixD (i := 0) il rfl rfl fun x1 j1 => aCons <| eIx ix_seq <| eV 0 rfl <| eI <| ixD (i := 1) il rfl rfl fun x2 j2 => aCons <| eIx ix_seq <| eV 0 rfl <| eI <| ixD (i := 2) il rfl rfl fun x3 j3 => aCons <| eIx ix_seq <| eV 0 rfl <| eI <| ixD (i := 3) il rfl rfl fun x4 j4 => ?_
      cases j1
      cases j2
      cases j3
      exact aNil fun m' d hm hd hne => ⟨fun _ => False, H3, m', d, x4, 4, mkQ p q, b', m, e, rfl, same_made hm hd, hm, upd_same, l0, F' j4 q0 zp zq, by decide, fun H5 s5 i5 _ => ⟨rfl, kq _ _ s5 i5⟩⟩
    · intro i e he
      have n1 : mkQ 1 1 ≠ mkQ 2 1 := by decide +kernel
      match i, he with
      | 0, he =>
        cases he
        exact ⟨(1, 2, 4, mkQ 1 1), ⟨1, 2, 4, 1, 1, rfl, by decide, by decide, by decide, rfl⟩, fun z => absurd (congrArg Prod.fst z) (by decide)⟩
      | 1, he =>
        cases he
        exact ⟨(0, 3, 4, mkQ 1 1), ⟨0, 3, 4, 1, 1, rfl, by decide, by decide, by decide, rfl⟩, fun z => absurd (congrArg (fun t : Int × Int × Int × Rat => t.2.1) z) (by decide)⟩
      | 2, he =>
        cases he
        exact ⟨(0, 2, 5, mkQ 1 1), ⟨0, 2, 5, 1, 1, rfl, by decide, by decide, by decide, rfl⟩, fun z => absurd (congrArg (fun t : Int × Int × Int × Rat => t.2.2.1) z) (by decide)⟩
      | 3, he =>
        cases he
        exact ⟨(0, 2, 4, mkQ 2 1), ⟨0, 2, 4, 2, 1, rfl, by decide, by decide, by decide, rfl⟩, fun z => n1 (congrArg (fun t : Int × Int × Int × Rat => t.2.2.2) z)⟩
      | n + 4, he => cases he
    refine ⟨_, rfl, iteF <| bNil ?_⟩
    have e1 := (en.trans (en_of s2d)).trans (en_of s5)
    have T1 := (T2.ext s2d).ext s5
    have i1 := i1.en e1
    have i2 := i2.en e1
    have ix := ix.en e1
    have iy := iy.en e1
    have e0 : ExtN H H5 := e0.trans e1
    clear ia ib ic id' hco s5 s2d T2 en sa sb sc sd e1
    -- doubts
    refine bCons <| sIf <| tNot <| tVal <| eLamF (p := "_law_x") (k := 4) s__law_equality_holds N__law_equality_holds DD TB rfl hmT hu hr tk ⟨T1, fun H2 fa c' en T2 hco => aCons <| eLstD R (fun _ => False) [.lst [gD g], exT (0, 1, 2, mkQ 1 1)] <| aCons <| eV 1 rfl <| aCons <| eV 3 rfl <| aNil ⟨l0, .cons (i1.en en) (.cons (ix.en en) .nil), fun v5 Ha sa ia => aCons <| eLstD R (fun _ => False) [.lst [gD (mkQ 1 7, mkQ 5 9)], exT (0, 1, 2, mkQ 1 2)] <| aCons <| eV 2 rfl <| aCons <| eV 4 rfl <| aNil ⟨l0, .cons ((i2.en en).up sa) (.cons ((iy.en en).up sa) .nil), fun v6 Hb sb ib => aNil ⟨rfl, fun base' lv => ?_⟩⟩⟩⟩
    have s2d := sa.trans sb
    refine ⟨v5, v6, fa, _, _, ([g], (0, 1, 2, mkQ 1 1)), OkDb, _, rfl, ia.up sb, ib, rfl, by show 2 ≤ 4; decide, lv, fun H3 x' l' b Q' E' s3 il ok kq => ?_, ⟨[g], (0, 1, 2, mkQ 1 1), rfl, rfl⟩, ?_, fun H6 s6 => ?_⟩
    · refine ⟨x', rfl, s3 _ _ (s2d _ _ hco), fun A2 outer2 s2 H0 f2 c2 hr2 => ?_⟩
      obtain ⟨gs, w', rfl, rfl⟩ := ok
      exact eMake GD hr2 takes_lam1 <| aCons <| eIx ix_seq <| eV 0 rfl <| eI <| ixD (i := 0) il rfl rfl fun x1 j1 => aCons <| eIx ix_seq <| eV 0 rfl <| eI <| ixD (i := 1) il rfl rfl fun x2 j2 => aNil fun m d hm hd hne => ⟨fun _ => False, H3, m, d, x1, x2, _, gs, exT w', rfl, same_made hm hd, hm, upd_same, l0, j1, rfl, j2, fun H5 s5 i5 => ⟨rfl, kq _ _ s5 i5⟩⟩
    · intro i e he
      have n1 : mkQ 1 1 ≠ mkQ 1 2 := by decide +kernel
      match i, he with
      | 0, he =>
        cases he
        exact ⟨([(mkQ 1 7, mkQ 5 9)], (0, 1, 2, mkQ 1 1)), ⟨[(mkQ 1 7, mkQ 5 9)], (0, 1, 2, mkQ 1 1), rfl, rfl⟩, fun z => gne (List.cons.inj (congrArg Prod.fst z)).1⟩
      | 1, he =>
        cases he
        exact ⟨([g], (0, 1, 2, mkQ 1 2)), ⟨[g], (0, 1, 2, mkQ 1 2), rfl, rfl⟩, fun z => n1 (congrArg (fun t : List G2 × (Int × Int × Int × Rat) => t.2.2.2.2) z)⟩
      | n + 2, he => cases he
    refine ⟨_, rfl, iteF <| bNil ?_⟩
    have e1 := (en.trans (en_of s2d)).trans (en_of s6)
    have T1 := (T2.ext s2d).ext s6
    have e0 : ExtN H H6 := e0.trans e1
    clear ia ib i1 i2 ix iy hco s6 s2d T2 en sa sb e1
    -- solved ones
    refine bCons <| sSet 7 <| eLstD R (fun _ => False) [faD "Line" (mkQ 1 2) (mkQ 0 1), faD "Line" (mkQ 1 2) (mkQ 1 1)] <| aCons <| eLine GL hr tk <| aCons <| eTupD R (fun _ => False) [.int 1, .int 2] <| aCons <| eI <| aCons <| eI <| aNil ⟨l0, IsA.ints (is := [1, 2]), fun v5 Ha sa ia => aCons <| eTupD R (fun _ => False) [.int 0, .int 1] <| aCons <| eI <| aCons <| eI <| aNil ⟨l0, IsA.ints (is := [0, 1]), fun v6 Hb sb ib => ?_⟩⟩
    refine aNil ⟨fun _ => False, _, _, 4, 4, mkQ 1 2, mkQ 0 1, rfl, l0, F' (ia.up sb) (by decide) (by decide) (by decide), F' ib (by decide) (by decide) (by decide), by decide, by decide, fun w1 Hc sc j1 _ _ => ?_⟩
    refine aCons <| eLine GL hr tk <| aCons <| eTupD R (fun _ => False) [.int 1, .int 2] <| aCons <| eI <| aCons <| eI <| aNil ⟨l0, IsA.ints (is := [1, 2]), fun v5 Hd sd id' => aCons <| eTupD R (fun _ => False) [.int 1, .int 1] <| aCons <| eI <| aCons <| eI <| aNil ⟨l0, IsA.ints (is := [1, 1]), fun v6 He se ie => ?_⟩⟩
    refine aNil ⟨fun _ => False, _, _, 4, 4, mkQ 1 2, mkQ 1 1, rfl, l0, F' (id'.up se) (by decide) (by decide) (by decide), F' ie (by decide) (by decide) (by decide), by decide, by decide, fun w2 Hf sf j2 _ _ => aNil ⟨l0, .cons (j1.up (sd.trans (se.trans sf))) (.cons j2 .nil), fun vL Hg sg iL => ?_⟩⟩
    have s6g := (sa.trans (sb.trans sc)).trans ((sd.trans (se.trans sf)).trans sg)
    have e0 : ExtN H Hg := e0.trans (en_of s6g)
    have T1 := T1.ext s6g
    clear ia ib id' ie j1 j2 sa sb sc sd se sf sg s6g
    refine bOne <| sRet <| eLamF (p := "_law_x") (k := 4) s__law_equality_holds N__law_equality_holds DS TB rfl hmT hu hr tk ⟨T1, fun H2 fa c' en T2 hco => aCons <| eLstD R (fun _ => False) [faD "Line" (mkQ 1 2) (mkQ 0 1), .tup [.int 0, .int 1]] <| aCons <| eIx ix_seq <| eV 7 rfl <| eI <| ixD (i := 0) (iL.en en) rfl rfl fun x1 j1 => aCons <| eTupD R (fun _ => False) [.int 0, .int 1] <| aCons <| eI <| aCons <| eI <| aNil ⟨l0, IsA.ints (is := [0, 1]), fun v5 Ha sa ia => aNil ⟨l0, .cons (j1.up sa) (.cons ia .nil), fun v6 Hb sb ib => ?_⟩⟩⟩
    refine aCons <| eLstD R (fun _ => False) [faD "Line" (mkQ 1 2) (mkQ 1 1), .tup [.int 1, .int 0]] <| aCons <| eIx ix_seq <| eV 7 rfl <| eI <| ixD (i := 1) ((iL.en en).up (sa.trans sb)) rfl rfl fun x2 j2 => aCons <| eTupD R (fun _ => False) [.int 1, .int 0] <| aCons <| eI <| aCons <| eI <| aNil ⟨l0, IsA.ints (is := [1, 0]), fun v7 Hc sc ic => aNil ⟨l0, .cons (j2.up sc) (.cons ic .nil), fun v8 Hd sd id' => aNil ⟨rfl, fun base' lv => ?_⟩⟩⟩
    have s2d := (sa.trans sb).trans (sc.trans sd)
    refine ⟨v6, v8, fa, _, _, ((mkQ 1 2, mkQ 0 1), [0, 1]), OkSo, _, rfl, ib.up (sc.trans sd), id', rfl, by show 2 ≤ 4; decide, lv, fun H3 x' l' b Q' E' s3 il ok kq => ?_, ⟨(mkQ 1 2, mkQ 0 1), [0, 1], rfl, rfl⟩, ?_, fun H7 s7 => k _ (e0.trans ((en.trans (en_of s2d)).trans (en_of s7))) ((T2.ext s2d).ext s7)⟩
    · refine ⟨x', rfl, s3 _ _ (s2d _ _ hco), fun A2 outer2 s2 H0 f2 c2 hr2 => ?_⟩
      obtain ⟨gl, os, rfl, rfl⟩ := ok
      exact eMake GS hr2 takes_lam1 <| aCons <| eIx ix_seq <| eV 0 rfl <| eI <| ixD (i := 0) il rfl rfl fun x1 j1 => aCons <| eIx ix_seq <| eV 0 rfl <| eI <| ixD (i := 1) il rfl rfl fun x2 j2 => aNil fun m d hm hd hne => ⟨fun _ => False, H3, m, d, x1, x2, gl, _, os, rfl, same_made hm hd, hm, upd_same, l0, j1, j2, rfl, fun H5 s5 i5 => ⟨rfl, kq _ _ s5 i5⟩⟩
    · intro i e he
      have n1 : mkQ 0 1 ≠ mkQ 1 1 := by decide +kernel
      match i, he with
      | 0, he =>
        cases he
        exact ⟨((mkQ 1 2, mkQ 1 1), [0, 1]), ⟨(mkQ 1 2, mkQ 1 1), [0, 1], rfl, rfl⟩, fun z => n1 (congrArg (fun t : G2 × List Int => t.1.2) z)⟩
      | 1, he =>
        cases he
        exact ⟨((mkQ 1 2, mkQ 0 1), [1, 0]), ⟨(mkQ 1 2, mkQ 0 1), [1, 0], rfl, rfl⟩, fun z => absurd (congrArg (fun t : G2 × List Int => t.2) z) (by decide)⟩
      | n + 2, he => cases he
end
end BR

namespace BR
open PySem PySem.Spec PyProof.Rows L2
section
variable {P : Program} {w : World} {K : PySem.W.Frag} {mg : Str → Option Value} {base : Heap} {R : Rp}
theorem ok_cell (A : DefAt K mg "_law_cell" s__law_cell ["_law_script", "_law_index"]) (mL : mg "len" = none) : DefG P w K mg base 1 "_law_cell" ["_law_script", "_law_index"] (spCell K) := by
  obtain ⟨f, fd, F, hm, hb⟩ := A.ex
  refine ⟨f, fd, okN F sc__law_cell (fun vs H Q E h => ?_) fun X H vs Q E hX hr tk h => ?_, hm, F.kp, hb⟩
  · obtain ⟨a, ns, i, rfl, _⟩ := h
    rfl
  · obtain ⟨cdv, A, outer, s, rfl⟩ := hX
    obtain ⟨a, ns, i, rfl, hs, k⟩ := h
    refine bCons <| sIf <| tCmp op_lt <| eV 1 rfl <| eCB call_len_seq mL <| aCons <| eV 0 rfl <| aNil ⟨a, _, rfl, .inl hs, _, _, rfl, rfl, _, rfl, ?_⟩
    rw [List.length_map]
    by_cases c : (i : Int) < (ns.length : Int)
    · rw [decide_eq_true c]
      have hi : i < ns.length := by omega
      exact iteT <| bOne <| sRet <| eIx ix_seq <| eV 0 rfl <| eV 1 rfl <| .inl ⟨a, _, _, .int ns[i], rfl, rfl, hs, atI_nat (by rw [List.getElem?_map, List.getElem?_eq_getElem hi]; rfl), k _⟩
    · rw [decide_eq_false c]
      exact iteF <| bNil <| bOne <| sRet <| eI <| k _
end
section
variable {P : Program} {w : World} {K : PySem.W.Frag} {mg : Str → Option Value} {base : Heap} {R : Rp}
theorem ok_law {f : Addr} {fd : FuncData} {T : List (Addr × Str)} {cs : List (Addr × Addr)} (hT : ∀ x ∈ T, ∃ p ∈ cs, p.2 = x.1) (hK : R.K = K) (fG : FAok R "Gate") (F : L2.Fun K "law" "law" s_law f fd)
    (GC : DefG P w K mg base 1 "_law_cell" ["_law_script", "_law_index"] (spCell K)) (G0 : DefG P w K mg base 1 "_law_rng" ["_law_cell_here"] spSource) (GR : DefG P w K mg base 3 "_law_random_gate" ["_law_rng_here"] (spRG9 R))
    (Gh : DefG P w K mg base 8 "_law_loose_holds" ["_law_one", "_law_other"] (spLooH R)) (Gd : DefG P w K mg base 6 "_law_made" ["_law_gates"] (spMade R))
    (GP : MakeG P w K mg base 3 "Spread" (R.CA "Spread") ["self", "least", "greatest", "low", "high"] (spSpreadI R)) (GO : MakeG P w K mg base 6 "Loose" (R.CA "Loose") ["self", "low", "high"] (spLooseI R)) (GS : DefG P w K mg base 9 "spread" ["some", "order", "x"] (spSpread T R))
    (QW : MethG P w K mg base 4 (R.CA "Spread") "__eq__" ["self", "other"] (spEqV R spT)) (nW : NeOk R.K (R.CA "Spread")) (Gr : DefG P w K mg base 8 "_law_results_hold" ["_law_gates"] (spResH R)) (Ge : DefG P w K mg base 10 "_law_equality_holds" ["_law_gates"] (spEqH36 T R)) :
    FnOk P w K mg base (L2.CX P w) 11 f fd ["_law_script"] (spLawT K cs) := by
  subst hK
  refine okN F sc_law (fun vs H Q E h => ?_) fun X H vs Q E hX hr tk h => ?_
  · obtain ⟨a, ns, rfl, _⟩ := h
    rfl
  · obtain ⟨cdv, A, outer, sh, rfl⟩ := hX
    have hN := sc_law.nd
    obtain ⟨aS, ns, rfl, hs, h63, hcs, k⟩ := h
    have T0 : Tabs T H := tabs_nil fun x hx => by
      obtain ⟨p, hp, e⟩ := hT x hx
      rw [← e]
      exact hcs p hp
    have l0 : ∀ {H' : Hp}, Live (fun _ => False) H' := Live.none
    refine bCons <| sCellsC 0 (fun σ H' => (∃ b1 b2 b3 b4 b5 b6, σ = [some (.ref aS), b1, b2, b3, b4, b5, b6]) ∧ Tabs T H') hs h63 rfl GC hr tk (by decide) (fun H' s => ⟨⟨_, _, _, _, _, _, rfl⟩, T0.ext s⟩) ?_ ?_
    · rintro c L cl σ' H0 ⟨⟨b1, b2, b3, b4, b5, b6, rfl⟩, T1⟩ hL
      refine BR.gN 1 <| bCons <| sSet 2 <| eCall G0 hr tk <| aCons <| eV 1 rfl <| aNil ⟨c, rfl, fun s H2 s2 hs0 hsrc => ?_⟩
      have nLs : L ≠ s := fun z => by
        rw [← z, hL] at hs0
        cases hs0
      have hL2 := s2 _ _ hL
      have T2 := T1.ext s2
      clear T1
      refine bCons <| sPar 3 4 <| aCons <| eCall GR hr tk <| aCons <| eV 2 rfl <| aNil ⟨s, rfl, hsrc, fun f1 v1 H3 d3 i1 cg1 lf1 => aCons <| eCall GR hr tk <| aCons <| eV 2 rfl <| aNil ⟨s, rfl, d3.src, fun f2' v2 H4 d4 i2 cg2 lf2 => aNil ⟨_, _, rfl, ?_⟩⟩⟩
      have d24 := d3.trans d4
      have T4 : Tabs T H4 := Tabs.dr T2 hsrc d24
      have hL4 := d24.kp _ _ nLs hL2
      have i1 : Is R (fun _ => False) H4 v1 (fD f1) := (i1.dr d4).reg fun _ z => z.elim
      have i2 : Is R (fun _ => False) H4 v2 (fD f2') := i2.reg fun _ z => z.elim
      have g1 := cg_G9 cg1 lf1
      have g2 := cg_G9 cg2 lf2
      have j1 : Is R (fun _ => False) H4 v1 (vD (f2 f1)) := by rw [← low_fD lf1]; exact i1
      have j2 : Is R (fun _ => False) H4 v2 (vD (f2 f2')) := by rw [← low_fD lf2]; exact i2
      clear T2 hL2
      refine bCons <| sIf <| tOr3 <| tNot <| tVal <| eCall Gh hr tk <| aCons <| eV 3 rfl <| aCons <| eV 4 rfl <| aNil ⟨v1, v2, _, _, rfl, j1, j2, g1, g2, fun H5 s5 => ⟨_, rfl, iteF ?_⟩⟩
      refine tNot <| tVal <| eCall Gh hr tk <| aCons <| eV 4 rfl <| aCons <| eV 3 rfl <| aNil ⟨v2, v1, _, _, rfl, j2.up s5, j1.up s5, g2, g1, fun H6 s6 => ⟨_, rfl, iteF ?_⟩⟩
      refine tNot <| tVal <| eCall Gh hr tk <| aCons <| eV 3 rfl <| aCons <| eV 3 rfl <| aNil ⟨v1, v1, _, _, rfl, (j1.up s5).up s6, (j1.up s5).up s6, g1, g1, fun H7 s7 => ⟨_, rfl, iteF <| bNil ?_⟩⟩
      have s47 := s5.trans (s6.trans s7)
      have i17 := i1.up s47
      have i27 := i2.up s47
      refine bCons <| sSet 5 <| eCall Gd hr tk <| aCons <| eLstD R (fun _ => False) [fD f1, fD f2'] <| aCons <| eV 3 rfl <| aCons <| eV 4 rfl <| aNil ⟨l0, .cons i17 (.cons i27 .nil), fun vl H8 s8 i8 => ?_⟩
      refine aNil ⟨fun _ => False, vl, [f1, f2'], rfl, l0, ⟨⟨_, i8, rfl⟩, by show 1 ≤ 2; decide, by show 2 ≤ 8; decide, fun e he => ?_⟩, fun vG H9 s9 iG _ => ?_⟩
      · rcases List.mem_cons.mp he with z | z
        · rw [z]
          exact cg1.ok (by decide)
        · rw [List.mem_singleton.mp z]
          exact cg2.ok (by decide)
      have s49 := s47.trans (s8.trans s9)
      have iG : Is R (fun _ => False) H9 vG (.lst [gD (f2 f1), gD (f2 f2')]) := iG
      have T9 := T4.ext s49
      have hL9 := s49 _ _ hL4
      generalize f2 f1 = g at g1 j1 iG
      generalize f2 f2' = h at g2 j2 iG
      clear i1 i2 j1 j2 i17 i27 i8 T4 hL4 s47 s5 s6 s7 s8 s9 s49
      -- what is due
      have m9 : g.2.num.natAbs < 2 ^ 4 := by have := g1.n2; show _ < 16; omega
      have d9 : (g.2.den : Int).natAbs < 2 ^ 4 := by have := g1.d2; show _ < 16; omega
      have dp := den_pos g.2
      refine bCons <| sSet 6 <| eMake GP hr tk <| aCons <| eFld <| eIx ix_seq <| eV 5 rfl <| eI <| ixD (i := 0) iG rfl rfl fun x1 q1 => fldM q1 fG fun y1 r1 => aCons <| eFld <| eIx ix_seq <| eV 5 rfl <| eI <| ixD (i := 0) iG rfl rfl fun x2 q2 => fldM q2 fG fun y2 r2 => ?_
      refine aCons <| eSl (lo := none) (hi := some _) sl_list po_none (po_some (pE _)) <| eV 5 rfl <| eI ⟨(1 : Int), rfl, ?_⟩
      refine slTake (R := R) (S := fun _ => False) (n := 1) iG l0 fun v5 Ha sa ia => ?_
      have iGa := iG.up sa
      refine aCons <| eTupD R (fun _ => False) [gD g] <| aCons <| eIx ix_seq <| eV 5 rfl <| eI <| ixD (i := 0) iGa rfl rfl fun x3 q3 => aNil ⟨l0, .cons q3 .nil, fun v6 Hb sb ib => ?_⟩
      refine aNil fun m d hm hd hne => ⟨fun _ => False, Hb, m, d, y1, y2, v5, v6, g.2.num, g.2.den, g.2.num, g.2.den, 4, .lst [gD g], .tup [gD g], [g], [g], rfl, same_made hm hd, hm, upd_same, l0, .inl ((r1.up sa).up sb), .inl ((r2.up sa).up sb), dp, dp, m9, d9, m9, d9, by decide, ia.up sb, rfl, ib, rfl, fun Hc sc ic => ⟨rfl, ?_⟩⟩
      rw [mkQ_self] at ic
      have ic : Is R (fun _ => False) Hc (.ref m) (spT (g.2, g.2, [g], [g])) := ic
      have s9c := sa.trans (sb.trans sc)
      have iGc := iG.up s9c
      have Tc := T9.ext s9c
      have hLc := s9c _ _ hL9
      clear q1 q2 r1 r2 q3 ia ib iGa sa sb sc hm hd hne s9c T9 hL9 iG
      -- the spread
      have gn := g1.num
      refine bCons <| sIf <| tCmp (op_neO QW nW (hr.mono (by decide)) tk) <| eCall GS hr tk <| aCons <| eLstD R (fun _ => False) [loD (g, g)] <| aCons <| eMake GO hr tk <| aCons <| eIx ix_seq <| eV 5 rfl <| eI <| ixD (i := 0) iGc rfl rfl fun x1 q1 => aCons <| eIx ix_seq <| eV 5 rfl <| eI <| ixD (i := 0) iGc rfl rfl fun x2 q2 => ?_
      refine aNil fun m2 d hm hd hne => ⟨fun _ => False, Hc, m2, d, x1, x2, g, g, rfl, same_made hm hd, hm, upd_same, l0, q1, q2, gn, gn, fun Hd sd id' => ⟨rfl, ?_⟩⟩
      rw [looQ_self (l := (g, g)) Rat.le_refl Rat.le_refl] at id'
      refine aNil ⟨l0, .cons id' .nil, fun vL He se ie => aCons <| eLstD R (fun _ => False) [.int 0] <| aCons <| eI <| aNil ⟨l0, IsA.ints (is := [0]), fun vO Hf sf if' => aCons <| eTupD R (fun _ => False) [.int 0, .int 1] <| aCons <| eI <| aCons <| eI <| aNil ⟨l0, IsA.ints (is := [0, 1]), fun vX Hg sg ig => ?_⟩⟩⟩
      have scg := sd.trans (se.trans (sf.trans sg))
      refine aNil ⟨vL, vO, vX, fixL [g], [0], 0, 1, 1, rfl, ⟨⟨_, ie.up (sf.trans sg), rfl⟩, by show 1 ≤ 1; decide, by show 1 ≤ 4; decide, fun l hl => ?_⟩, ⟨⟨_, if'.up sg, rfl⟩, by show ordB 1 [0] = true; decide⟩, .inl ig, by decide, ⟨by decide, by decide⟩, by decide, by decide, Tc.ext scg, fun vF Hh eh Th iF => ?_⟩
      · rw [List.mem_singleton.mp (show l ∈ [(g, g)] from hl)]
        exact ⟨gn, gn⟩
      rw [sprQ_fX (fun i hi => by rw [List.mem_singleton.mp hi]; decide) (by decide), loC_fix, hiC_fix] at iF
      have eX : thrX [g] [0] (mkQ 0 1) = g.2 := by
        show g.1 * mkQ 0 1 + g.2 = g.2
        have z : mkQ 0 1 = 0 := by decide +kernel
        rw [z, Rat.mul_zero, Rat.zero_add]
      rw [eX] at iF
      have ech : ExtN Hc Hh := (en_of scg).trans eh
      refine eV 6 rfl <| ownV (d := spT) (c := "Spread") (fun _ => rfl) (show Is R (fun _ => False) Hh vF (spT (g.2, g.2, [g], [g])) from iF) (ic.en ech) fun Hi b si ib => ⟨_, rfl, ?_⟩
      rw [ib.mpr rfl]
      refine iteF <| bNil ?_
      have iGi := (iGc.en ech).up si
      have Ti := Th.ext si
      have hLi := si _ _ (ech _ _ hLc fun _ z => by cases z)
      clear iF eX ic ib iGc Tc hLc q1 q2 hm hd hne ie if' ig sd se sf sg scg eh Th si id' ech
      refine bOne <| sIf <| tOr2 <| tNot <| tVal <| eCall Gr hr tk <| aCons <| eV 5 rfl <| aNil ⟨vG, g, h, rfl, iGi, fun Hj sj => ⟨_, rfl, iteF ?_⟩⟩
      refine tNot <| tVal <| eCall Ge hr tk <| aCons <| eV 5 rfl <| aNil ⟨vG, g, h, rfl, iGi.up sj, g1, g2, Ti.ext sj, fun Hk ek Tk => ⟨_, rfl, iteF <| bNil ?_⟩⟩
      exact ⟨⟨⟨_, _, _, _, _, _, rfl⟩, Tk⟩, ek _ _ (sj _ _ hLi) fun _ z => by cases z⟩
    · rintro σ' H' ⟨⟨b1, b2, b3, b4, b5, b6, rfl⟩, T1⟩
      exact bOne <| sRet <| eBl <| k _
end
end BR

namespace BR
open PySem PySem.Spec PyProof.Rows L2
theorem MethG.mono4 {P : Program} {w : World} {K : PySem.W.Frag} {mg : Str → Option Value} {base : Heap} {k : Nat} {C : Addr} {m : Str} {ps : List Str} {sp : Sp} (G : MethG P w K mg base k C m ps sp) (h : k ≤ 4 := by decide) : MethG P w K mg base 4 C m ps sp := by
  obtain ⟨f, fd, hc, hm, F, hb⟩ := G.ex
  exact ⟨f, fd, hc, hm, F.mono h, hb⟩
section
variable {P : Program} {w : World} {K : PySem.W.Frag} {mg : Str → Option Value} {base : Heap} {R : Rp}
theorem ok_eqGate (hK : R.K = K) (A : MethAt K (R.CA "Gate") "__eq__" "Gate.__eq__" s_Gate_eq ["self", "other"]) (mI : mg "isinstance" = none) (T : EqC R mg "Gate") : MethG P w K mg base 1 (R.CA "Gate") "__eq__" ["self", "other"] (spEqF R mg "Gate") := by
  subst hK
  obtain ⟨f, fd, c0, m0, F, hb⟩ := A.ex
  refine ⟨f, fd, c0, m0, okN F sc_Gate_eq (fun vs H Q E h => ?_) fun X H vs Q E hX hr tk h => ?_, hb⟩
  · obtain ⟨S, S', x, y, r, b, c', r', b', rfl, _⟩ := h
    rfl
  · obtain ⟨cdv, A, outer, s, rfl⟩ := hX
    obtain ⟨S, S', x, y, r, b, c', r', b', rfl, hx, C', t, hy, k⟩ := h
    obtain ⟨a', dx', fs', rfl, e'⟩ := faD_ins hy
    refine bOne <| sRet <| eAnd3 <| eCB call_isi mI <| aCons <| eV 1 rfl <| aCons <| eGl (v := .ref (R.CA "Gate")) T.nam.gC rfl <| aNil ⟨_, _, _, _, _, rfl, .own (R.CA "Gate"), C'.tyX e', t.kit T, _, rfl, ?_⟩
    by_cases h1 : c' = "Gate"
    · rw [decide_eq_true h1]
      refine iteT <| eCmp (op_eqD hr.units) <| eFld <| eV 0 rfl <| fldF hx T.fa fun v1 f1 => eFld <| eV 1 rfl <| fldF hy C'.fa fun v2 f2 => eqD (S := fun _ => False) (f1.reg fun _ z => z.elim) (f2.reg fun _ z => z.elim) (okEq_frac _) (okEq_frac _) ⟨_, rfl, ?_⟩
      rw [eqv_frac]
      by_cases h2 : r = r'
      · rw [decide_eq_true h2]
        refine iteT <| eCmp (op_eqD hr.units) <| eFld <| eV 0 rfl <| fldM hx T.fa fun v3 f3 => eFld <| eV 1 rfl <| fldM hy C'.fa fun v4 f4 => eqD (S := fun _ => False) (f3.reg fun _ z => z.elim) (f4.reg fun _ z => z.elim) (okEq_frac _) (okEq_frac _) ?_
        rw [eqv_frac]
        simpa [h1, h2] using k
      · rw [decide_eq_false h2]
        exact iteF (by simpa [h1, h2] using k)
    · rw [decide_eq_false h1]
      exact iteF (by simpa [h1] using k)
theorem ok_eqLine (hK : R.K = K) (A : MethAt K (R.CA "Line") "__eq__" "Line.__eq__" s_Line_eq ["self", "other"]) (mI : mg "isinstance" = none) (T : EqC R mg "Line") : MethG P w K mg base 1 (R.CA "Line") "__eq__" ["self", "other"] (spEqF R mg "Line") := by
  subst hK
  obtain ⟨f, fd, c0, m0, F, hb⟩ := A.ex
  refine ⟨f, fd, c0, m0, okN F sc_Line_eq (fun vs H Q E h => ?_) fun X H vs Q E hX hr tk h => ?_, hb⟩
  · obtain ⟨S, S', x, y, r, b, c', r', b', rfl, _⟩ := h
    rfl
  · obtain ⟨cdv, A, outer, s, rfl⟩ := hX
    obtain ⟨S, S', x, y, r, b, c', r', b', rfl, hx, C', t, hy, k⟩ := h
    obtain ⟨a', dx', fs', rfl, e'⟩ := faD_ins hy
    refine bOne <| sRet <| eAnd3 <| eCB call_isi mI <| aCons <| eV 1 rfl <| aCons <| eGl (v := .ref (R.CA "Line")) T.nam.gC rfl <| aNil ⟨_, _, _, _, _, rfl, .own (R.CA "Line"), C'.tyX e', t.kit T, _, rfl, ?_⟩
    by_cases h1 : c' = "Line"
    · rw [decide_eq_true h1]
      refine iteT <| eCmp (op_eqD hr.units) <| eFld <| eV 0 rfl <| fldF hx T.fa fun v1 f1 => eFld <| eV 1 rfl <| fldF hy C'.fa fun v2 f2 => eqD (S := fun _ => False) (f1.reg fun _ z => z.elim) (f2.reg fun _ z => z.elim) (okEq_frac _) (okEq_frac _) ⟨_, rfl, ?_⟩
      rw [eqv_frac]
      by_cases h2 : r = r'
      · rw [decide_eq_true h2]
        refine iteT <| eCmp (op_eqD hr.units) <| eFld <| eV 0 rfl <| fldM hx T.fa fun v3 f3 => eFld <| eV 1 rfl <| fldM hy C'.fa fun v4 f4 => eqD (S := fun _ => False) (f3.reg fun _ z => z.elim) (f4.reg fun _ z => z.elim) (okEq_frac _) (okEq_frac _) ?_
        rw [eqv_frac]
        simpa [h1, h2] using k
      · rw [decide_eq_false h2]
        exact iteF (by simpa [h1, h2] using k)
    · rw [decide_eq_false h1]
      exact iteF (by simpa [h1] using k)
end
section
variable {P : Program} {w : World} {K : PySem.W.Frag} {mg : Str → Option Value} {base : Heap} {R : Rp}
theorem ok_Line {C : Addr} (hK : R.K = K) (hC : R.CA "Line" = C) (A : InitAt K mg "Line" "Line.__init__" C s_Line_init ["self", "factor", "amount"]) (c : Cls K C) (n1 : NoAttr K C "factor") (n2 : NoAttr K C "amount") (G2 : DefG P w K mg base 2 "lowest" ["fraction"] (spLow R)) :
    MakeG P w K mg base 3 "Line" C ["self", "factor", "amount"] (spLine R) := by
  subst hK
  subst hC
  obtain ⟨f, fd, M, F, hm, hb⟩ := A.ex
  refine ⟨f, fd, M, okN F sc_Line_init (fun vs H Q E h => ?_) fun X H vs Q E hX hr tk h => ?_, hm, hb⟩
  · obtain ⟨S, H0, n, dx, x, y, i, j, r, t, rfl, _⟩ := h
    rfl
  · obtain ⟨cdv, A, outer, s, rfl⟩ := hX
    have hN := sc_Line_init.nd
    obtain ⟨S, H0, n, dx, x, y, i, j, r, t, rfl, s0, n0, hn, l0, hx, hy, i9, j9, kQ⟩ := h
    obtain ⟨p, q, px, q0, pn, qn, rfl, _⟩ := hx.ex
    obtain ⟨a, b, py, b0, an, bn, rfl, _⟩ := hy.ex
    refine bCons <| sFld <| eCall G2 hr tk <| aCons <| eV 1 rfl <| aNil ⟨S, x, p, q, i, rfl, l0.up s0, px.up s0, q0, pn, qn, i9, fun v3 H3 s3 f3 z3 => ?_⟩
    have hn3 := s3 _ _ hn
    refine eV 0 rfl ⟨n, _, dx, [], rfl, hn3, c, n1, by show 0 < 1000; decide, ?_⟩
    have s04 : Same H0 (upd H3 n (.ins (R.CA "Line") dx (putF "factor" v3 []))) := fun b o e => by
      rw [upd_ne (ne_of_none e n0)]
      exact s3 _ _ (s0 _ _ e)
    have f4 := Is.kpI (kpI_upd (C' := R.CA "Line") (dx' := dx) (fs' := putF "factor" v3 []) hn3) f3 rfl
    refine bOne <| sFld <| eCall G2 hr tk <| aCons <| eV 2 rfl <| aNil ⟨S, y, a, b, j, rfl, l0.up s04, py.up s04, b0, an, bn, j9, fun v5 H5 s5 f5 z5 => ?_⟩
    have hn5 : H5 n = some (.ins (R.CA "Line") dx (putF "factor" v3 [])) := s5 _ _ upd_same
    refine eV 0 rfl ⟨n, _, dx, _, rfl, hn5, c, n2, by show 1 < 1000; decide, ?_⟩
    refine kQ _ ?_ ?_ z3 z5
    · intro b o e
      rw [upd_ne (ne_of_none e n0)]
      exact s5 _ _ (s04 _ _ e)
    · refine .obj (l0.new n0) upd_same ?_
      have ep : putF "amount" v5 (putF "factor" v3 []) = ([("factor", v3), ("amount", v5)] : List (Str × V)) := by
        show (if ("factor" : Str) = "amount" then _ else _) = _
        rw [if_neg (by decide +kernel)]
        rfl
      rw [ep]
      have k6 := kpI_upd (C' := R.CA "Line") (dx' := dx) (fs' := ([("factor", v3), ("amount", v5)] : List (Str × V))) hn5
      exact .cons (Is.kpI k6 (f4.up s5) rfl) (.cons (Is.kpI k6 f5 rfl) .nil)
end
end BR

namespace BR
open PySem PySem.Spec PyProof.Rows L2
theorem all_mk {l : PySem.W.OpenLaw} {w : World} {K : PySem.W.Frag} {h : Heap} {mg : Str → Option Value} {fa : Addr} (X : K.In h) (G : h.Ns mainGlobals mg) (hfa : mg "law" = some (.ref fa))
    {CB : Addr}
    {CE : Addr}
    {nm_CE q_CE : Str} {N_CE : Addr} {bs_CE : List Value} {sn_CE : List Str} {sub_CE : List Value} {ab_CE : Bool} {col_CE : Option Bool} {dd_CE : Option Addr} {m0_CE m1_CE m2_CE m3_CE m5_CE : Option Value}
    {bm_CE : List Value}
    {od_iCE an_iCE : Option Addr} {sl_iCE : Array (Option Value)} {oc_iCE kv_iCE dc_iCE pm_iCE cd_iCE ct_iCE : Value} {f_iCE : Addr}
    {CN : Addr}
    {nm_CN q_CN : Str} {N_CN : Addr} {bs_CN : List Value} {sn_CN : List Str} {sub_CN : List Value} {ab_CN : Bool} {col_CN : Option Bool} {dd_CN : Option Addr} {m0_CN m1_CN m2_CN m3_CN m5_CN : Option Value}
    {bm_CN : List Value}
    {CG : Addr}
    {od_iCG an_iCG : Option Addr} {sl_iCG : Array (Option Value)} {oc_iCG kv_iCG dc_iCG pm_iCG cd_iCG ct_iCG : Value} {f_iCG : Addr}
    {CL : Addr}
    {od_iCL an_iCL : Option Addr} {sl_iCL : Array (Option Value)} {oc_iCL kv_iCL dc_iCL pm_iCL cd_iCL ct_iCL : Value} {f_iCL : Addr}
    {CX : Addr}
    {od_iCX an_iCX : Option Addr} {sl_iCX : Array (Option Value)} {oc_iCX kv_iCX dc_iCX pm_iCX cd_iCX ct_iCX : Value} {f_iCX : Addr}
    {CO : Addr}
    {od_iCO an_iCO : Option Addr} {sl_iCO : Array (Option Value)} {oc_iCO kv_iCO dc_iCO pm_iCO cd_iCO ct_iCO : Value} {f_iCO : Addr}
    {CV : Addr}
    {od_iCV an_iCV : Option Addr} {sl_iCV : Array (Option Value)} {oc_iCV kv_iCV dc_iCV pm_iCV cd_iCV ct_iCV : Value} {f_iCV : Addr}
    {CW : Addr}
    {od_iCW an_iCW : Option Addr} {sl_iCW : Array (Option Value)} {oc_iCW kv_iCW dc_iCW pm_iCW cd_iCW ct_iCW : Value} {f_iCW : Addr}
    {CD : Addr}
    {od_iCD an_iCD : Option Addr} {sl_iCD : Array (Option Value)} {oc_iCD kv_iCD dc_iCD pm_iCD cd_iCD ct_iCD : Value} {f_iCD : Addr}
    {od_eG an_eG : Option Addr} {sl_eG : Array (Option Value)} {oc_eG kv_eG dc_eG pm_eG cd_eG ct_eG : Value} {f_eG : Addr}
    {od_eL an_eL : Option Addr} {sl_eL : Array (Option Value)} {oc_eL kv_eL dc_eL pm_eL cd_eL ct_eL : Value} {f_eL : Addr}
    {od_eX an_eX : Option Addr} {sl_eX : Array (Option Value)} {oc_eX kv_eX dc_eX pm_eX cd_eX ct_eX : Value} {f_eX : Addr}
    {od_eV an_eV : Option Addr} {sl_eV : Array (Option Value)} {oc_eV kv_eV dc_eV pm_eV cd_eV ct_eV : Value} {f_eV : Addr}
    {od_eW an_eW : Option Addr} {sl_eW : Array (Option Value)} {oc_eW kv_eW dc_eW pm_eW cd_eW ct_eW : Value} {f_eW : Addr}
    {od_eD an_eD : Option Addr} {sl_eD : Array (Option Value)} {oc_eD kv_eD dc_eD pm_eD cd_eD ct_eD : Value} {f_eD : Addr}
    {od_eO an_eO : Option Addr} {sl_eO : Array (Option Value)} {oc_eO kv_eO dc_eO pm_eO cd_eO ct_eO : Value} {f_eO : Addr}
    {t_N : Tok}
    {od_check_fraction an_check_fraction : Option Addr} {sl_check_fraction : Array (Option Value)} {oc_check_fraction kv_check_fraction dc_check_fraction pm_check_fraction cd_check_fraction ct_check_fraction : Value} {f_check_fraction : Addr}
    {od_check_loose an_check_loose : Option Addr} {sl_check_loose : Array (Option Value)} {oc_check_loose kv_check_loose dc_check_loose pm_check_loose cd_check_loose ct_check_loose : Value} {f_check_loose : Addr}
    {od_is_number an_is_number : Option Addr} {sl_is_number : Array (Option Value)} {oc_is_number kv_is_number dc_is_number pm_is_number cd_is_number ct_is_number : Value} {f_is_number : Addr}
    {od_is_order an_is_order : Option Addr} {sl_is_order : Array (Option Value)} {oc_is_order kv_is_order dc_is_order pm_is_order cd_is_order ct_is_order : Value} {f_is_order : Addr}
    {od_check_order an_check_order : Option Addr} {sl_check_order : Array (Option Value)} {oc_check_order kv_check_order dc_check_order pm_check_order cd_check_order ct_check_order : Value} {f_check_order : Addr}
    {od_common_divisor an_common_divisor : Option Addr} {sl_common_divisor : Array (Option Value)} {oc_common_divisor kv_common_divisor dc_common_divisor pm_common_divisor cd_common_divisor ct_common_divisor : Value} {f_common_divisor : Addr}
    {od_lowest an_lowest : Option Addr} {sl_lowest : Array (Option Value)} {oc_lowest kv_lowest dc_lowest pm_lowest cd_lowest ct_lowest : Value} {f_lowest : Addr}
    {od_below an_below : Option Addr} {sl_below : Array (Option Value)} {oc_below kv_below dc_below pm_below cd_below ct_below : Value} {f_below : Addr}
    {od_smaller an_smaller : Option Addr} {sl_smaller : Array (Option Value)} {oc_smaller kv_smaller dc_smaller pm_smaller cd_smaller ct_smaller : Value} {f_smaller : Addr}
    {od_greater an_greater : Option Addr} {sl_greater : Array (Option Value)} {oc_greater kv_greater dc_greater pm_greater cd_greater ct_greater : Value} {f_greater : Addr}
    {od_step_of an_step_of : Option Addr} {sl_step_of : Array (Option Value)} {oc_step_of kv_step_of dc_step_of pm_step_of cd_step_of ct_step_of : Value} {f_step_of : Addr}
    {od_passed an_passed : Option Addr} {sl_passed : Array (Option Value)} {oc_passed kv_passed dc_passed pm_passed cd_passed ct_passed : Value} {f_passed : Addr}
    {od_passed_all an_passed_all : Option Addr} {sl_passed_all : Array (Option Value)} {oc_passed_all kv_passed_all dc_passed_all pm_passed_all cd_passed_all ct_passed_all : Value} {f_passed_all : Addr}
    {od_outer_values an_outer_values : Option Addr} {sl_outer_values : Array (Option Value)} {oc_outer_values kv_outer_values dc_outer_values pm_outer_values cd_outer_values ct_outer_values : Value} {f_outer_values : Addr}
    {od_outer_gates an_outer_gates : Option Addr} {sl_outer_gates : Array (Option Value)} {oc_outer_gates kv_outer_gates dc_outer_gates pm_outer_gates cd_outer_gates ct_outer_gates : Value} {f_outer_gates : Addr}
    {od_corners an_corners : Option Addr} {sl_corners : Array (Option Value)} {oc_corners kv_corners dc_corners pm_corners cd_corners ct_corners : Value} {f_corners : Addr}
    {od_spread_of an_spread_of : Option Addr} {sl_spread_of : Array (Option Value)} {oc_spread_of kv_spread_of dc_spread_of pm_spread_of cd_spread_of ct_spread_of : Value} {f_spread_of : Addr}
    {od_spread an_spread oq_spread : Option Addr} {sl_spread sq_spread : Array (Option Value)} {oc_spread kv_spread dc_spread pm_spread ct_spread tq_spread : Value} {f_spread c_spread P_spread : Addr} {vs_spread : Array Value}
    {od__law_cell an__law_cell : Option Addr} {sl__law_cell : Array (Option Value)} {oc__law_cell kv__law_cell dc__law_cell pm__law_cell cd__law_cell ct__law_cell : Value} {f__law_cell : Addr}
    {od__law_rng an__law_rng : Option Addr} {sl__law_rng : Array (Option Value)} {oc__law_rng kv__law_rng dc__law_rng pm__law_rng cd__law_rng ct__law_rng : Value} {f__law_rng : Addr}
    {od__law_draw an__law_draw : Option Addr} {sl__law_draw : Array (Option Value)} {oc__law_draw kv__law_draw dc__law_draw pm__law_draw cd__law_draw ct__law_draw : Value} {f__law_draw : Addr}
    {od__law_pick an__law_pick : Option Addr} {sl__law_pick : Array (Option Value)} {oc__law_pick kv__law_pick dc__law_pick pm__law_pick cd__law_pick ct__law_pick : Value} {f__law_pick : Addr}
    {od__law_fraction an__law_fraction : Option Addr} {sl__law_fraction : Array (Option Value)} {oc__law_fraction kv__law_fraction dc__law_fraction pm__law_fraction cd__law_fraction ct__law_fraction : Value} {f__law_fraction : Addr}
    {od__law_random_gate an__law_random_gate : Option Addr} {sl__law_random_gate : Array (Option Value)} {oc__law_random_gate kv__law_random_gate dc__law_random_gate pm__law_random_gate cd__law_random_gate ct__law_random_gate : Value} {f__law_random_gate : Addr}
    {od__law_made an__law_made : Option Addr} {sl__law_made : Array (Option Value)} {oc__law_made kv__law_made dc__law_made pm__law_made cd__law_made ct__law_made : Value} {f__law_made : Addr}
    {od__law_less an__law_less : Option Addr} {sl__law_less : Array (Option Value)} {oc__law_less kv__law_less dc__law_less pm__law_less cd__law_less ct__law_less : Value} {f__law_less : Addr}
    {od__law_loose_holds an__law_loose_holds : Option Addr} {sl__law_loose_holds : Array (Option Value)} {oc__law_loose_holds kv__law_loose_holds dc__law_loose_holds pm__law_loose_holds cd__law_loose_holds ct__law_loose_holds : Value} {f__law_loose_holds : Addr}
    {od__law_differ an__law_differ : Option Addr} {sl__law_differ : Array (Option Value)} {oc__law_differ kv__law_differ dc__law_differ pm__law_differ cd__law_differ ct__law_differ : Value} {f__law_differ : Addr}
    {od__law_results_hold an__law_results_hold : Option Addr} {sl__law_results_hold : Array (Option Value)} {oc__law_results_hold kv__law_results_hold dc__law_results_hold pm__law_results_hold cd__law_results_hold ct__law_results_hold : Value} {f__law_results_hold : Addr}
    {od__law_equality_holds an__law_equality_holds oq__law_equality_holds : Option Addr} {sl__law_equality_holds sq__law_equality_holds : Array (Option Value)} {oc__law_equality_holds kv__law_equality_holds dc__law_equality_holds pm__law_equality_holds ct__law_equality_holds tq__law_equality_holds : Value} {f__law_equality_holds c__law_equality_holds P__law_equality_holds : Addr} {vs__law_equality_holds : Array Value}
    {od_law an_law : Option Addr} {sl_law : Array (Option Value)} {oc_law kv_law dc_law pm_law cd_law ct_law : Value} {f_law : Addr}
    {t_MZ : Tok}
    (a_CB : PySem.W.nsIn K mainGlobals "GateError" = some (some (.ref CB)))
    (hd_CB : PySem.W.hasDictIn K CB = true)
    (ty_CB : PySem.W.typeIn K (.ref CB) = some (.type "type"))
    (a_CE : PySem.W.nsIn K mainGlobals "BadCount" = some (some (.ref CE)))
    (xl_CE : K.lookup CE = some (PySem.excClassObj nm_CE q_CE CE N_CE bs_CE bm_CE true sn_CE sub_CE ab_CE col_CE dd_CE m0_CE m1_CE m2_CE m3_CE m5_CE "ValueError.__new__"))
    (rb_CE : PySem.HandSPX.refsVE bm_CE = true)
    (sa_CE : PySem.W.findIn K (.ref CE) "__setattr__" = some (some (.builtin "object.__setattr__")))
    (ga_CE : PySem.W.findIn K (.ref CE) "__getattribute__" = some (some (.builtin "BaseException.__getattribute__")))
    (gg_CE : PySem.W.findIn K (.ref CE) "__getattr__" = some none)
    (eb_CE : PySem.W.subIn K (.ref CE) (.type "BaseException") = some true)
    (ty_CE : PySem.W.typeIn K (.ref CE) = some (.type "type"))
    (kc_CE : PySem.W.keepIn K (.ref CE) = true)
    (hd_CE : PySem.W.hasDictIn K CE = true)
    (ha_CE : PySem.W.findIn K (.ref CE) "__class__" = some (some (.builtin "object.__class__")))
    (hm_CE : PySem.W.mroIn K CE (.type "object") = some true)
    (sp_get : PySem.W.specialIn K (.builtin "object.__class__") "__get__" = some (some (.builtin "getset_descriptor.__get__")))
    (tk_get : PySem.W.takesIn K (.builtin "object.__class__") = some true)
    (a_iCE : PySem.W.findIn K (.ref CE) "__init__" = some (some (.ref f_iCE)))
    (t_iCE : PySem.W.typeIn K (.ref f_iCE) = some (.type "function"))
    (l_iCE : K.lookup f_iCE = some ⟨oc_iCE, od_iCE, .func (PySem.W.fnOf "__init__" "BadCount.__init__" (L2.defArgs s_BadCount_init) (L2.defBody s_BadCount_init) (L2.defScope s_BadCount_init) .none kv_iCE dc_iCE pm_iCE an_iCE cd_iCE ct_iCE), sl_iCE⟩)
    (c_iCE : PySem.W.codeIn K cd_iCE "BadCount.__init__" = true)
    (k_iCE : PySem.W.keepIn K (.ref f_iCE) = true)
    (n_CE_what : PySem.W.findIn K (.ref CE) "what" = some none)
    (n_CE_count : PySem.W.findIn K (.ref CE) "count" = some none)
    (a_CN : PySem.W.nsIn K mainGlobals "NoOrder" = some (some (.ref CN)))
    (xl_CN : K.lookup CN = some (PySem.excClassObj nm_CN q_CN CN N_CN bs_CN bm_CN true sn_CN sub_CN ab_CN col_CN dd_CN m0_CN m1_CN m2_CN m3_CN m5_CN "ValueError.__new__"))
    (rb_CN : PySem.HandSPX.refsVE bm_CN = true)
    (sa_CN : PySem.W.findIn K (.ref CN) "__setattr__" = some (some (.builtin "object.__setattr__")))
    (ga_CN : PySem.W.findIn K (.ref CN) "__getattribute__" = some (some (.builtin "BaseException.__getattribute__")))
    (gg_CN : PySem.W.findIn K (.ref CN) "__getattr__" = some none)
    (eb_CN : PySem.W.subIn K (.ref CN) (.type "BaseException") = some true)
    (ty_CN : PySem.W.typeIn K (.ref CN) = some (.type "type"))
    (kc_CN : PySem.W.keepIn K (.ref CN) = true)
    (hd_CN : PySem.W.hasDictIn K CN = true)
    (ha_CN : PySem.W.findIn K (.ref CN) "__class__" = some (some (.builtin "object.__class__")))
    (hm_CN : PySem.W.mroIn K CN (.type "object") = some true)
    (xq_CN : PySem.W.excIn K CN veL "ValueError.__new__" = true)
    (s_CE_CE : PySem.W.subIn K (.ref CE) (.ref CE) = some true)
    (s_CE_CN : PySem.W.subIn K (.ref CE) (.ref CN) = some false)
    (s_CN_CE : PySem.W.subIn K (.ref CN) (.ref CE) = some false)
    (s_CN_CN : PySem.W.subIn K (.ref CN) (.ref CN) = some true)
    (ex_CE : PySem.W.exmOne K (.ref CE) (.ref CB) = some true)
    (ex_CN : PySem.W.exmOne K (.ref CN) (.ref CB) = some true)
    (ne_EN : CE ≠ CN)
    (a_CG : PySem.W.nsIn K mainGlobals "Gate" = some (some (.ref CG)))
    (pg_CG : PySem.W.plainGet K CG Str.empty = true)
    (hd_CG : PySem.W.hasDictIn K CG = true)
    (po_CG : PySem.W.plainOver K CG = true)
    (sa_CG : PySem.W.findIn K (.ref CG) "__setattr__" = some (some (.builtin "object.__setattr__")))
    (mk_CG : PySem.W.makesIn K CG = true)
    (kc_CG : PySem.W.keepIn K (.ref CG) = true)
    (a_iCG : PySem.W.findIn K (.ref CG) "__init__" = some (some (.ref f_iCG)))
    (i_iCG : PySem.W.isFn K (.ref f_iCG) = true)
    (l_iCG : K.lookup f_iCG = some ⟨oc_iCG, od_iCG, .func (PySem.W.fnOf "__init__" "Gate.__init__" (L2.defArgs s_Gate_init) (L2.defBody s_Gate_init) (L2.defScope s_Gate_init) .none kv_iCG dc_iCG pm_iCG an_iCG cd_iCG ct_iCG), sl_iCG⟩)
    (c_iCG : PySem.W.codeIn K cd_iCG "Gate.__init__" = true)
    (k_iCG : PySem.W.keepIn K (.ref f_iCG) = true)
    (n_CG_factor : PySem.W.findIn K (.ref CG) "factor" = some none)
    (n_CG_amount : PySem.W.findIn K (.ref CG) "amount" = some none)
    (a_CL : PySem.W.nsIn K mainGlobals "Line" = some (some (.ref CL)))
    (pg_CL : PySem.W.plainGet K CL Str.empty = true)
    (hd_CL : PySem.W.hasDictIn K CL = true)
    (po_CL : PySem.W.plainOver K CL = true)
    (sa_CL : PySem.W.findIn K (.ref CL) "__setattr__" = some (some (.builtin "object.__setattr__")))
    (mk_CL : PySem.W.makesIn K CL = true)
    (kc_CL : PySem.W.keepIn K (.ref CL) = true)
    (a_iCL : PySem.W.findIn K (.ref CL) "__init__" = some (some (.ref f_iCL)))
    (i_iCL : PySem.W.isFn K (.ref f_iCL) = true)
    (l_iCL : K.lookup f_iCL = some ⟨oc_iCL, od_iCL, .func (PySem.W.fnOf "__init__" "Line.__init__" (L2.defArgs s_Line_init) (L2.defBody s_Line_init) (L2.defScope s_Line_init) .none kv_iCL dc_iCL pm_iCL an_iCL cd_iCL ct_iCL), sl_iCL⟩)
    (c_iCL : PySem.W.codeIn K cd_iCL "Line.__init__" = true)
    (k_iCL : PySem.W.keepIn K (.ref f_iCL) = true)
    (n_CL_factor : PySem.W.findIn K (.ref CL) "factor" = some none)
    (n_CL_amount : PySem.W.findIn K (.ref CL) "amount" = some none)
    (a_CX : PySem.W.nsIn K mainGlobals "Exchange" = some (some (.ref CX)))
    (pg_CX : PySem.W.plainGet K CX Str.empty = true)
    (hd_CX : PySem.W.hasDictIn K CX = true)
    (po_CX : PySem.W.plainOver K CX = true)
    (sa_CX : PySem.W.findIn K (.ref CX) "__setattr__" = some (some (.builtin "object.__setattr__")))
    (mk_CX : PySem.W.makesIn K CX = true)
    (kc_CX : PySem.W.keepIn K (.ref CX) = true)
    (a_iCX : PySem.W.findIn K (.ref CX) "__init__" = some (some (.ref f_iCX)))
    (i_iCX : PySem.W.isFn K (.ref f_iCX) = true)
    (l_iCX : K.lookup f_iCX = some ⟨oc_iCX, od_iCX, .func (PySem.W.fnOf "__init__" "Exchange.__init__" (L2.defArgs s_Exchange_init) (L2.defBody s_Exchange_init) (L2.defScope s_Exchange_init) .none kv_iCX dc_iCX pm_iCX an_iCX cd_iCX ct_iCX), sl_iCX⟩)
    (c_iCX : PySem.W.codeIn K cd_iCX "Exchange.__init__" = true)
    (k_iCX : PySem.W.keepIn K (.ref f_iCX) = true)
    (n_CX_begin : PySem.W.findIn K (.ref CX) "begin" = some none)
    (n_CX_middle : PySem.W.findIn K (.ref CX) "middle" = some none)
    (n_CX_end : PySem.W.findIn K (.ref CX) "end" = some none)
    (n_CX_worth : PySem.W.findIn K (.ref CX) "worth" = some none)
    (a_CO : PySem.W.nsIn K mainGlobals "Solved" = some (some (.ref CO)))
    (pg_CO : PySem.W.plainGet K CO Str.empty = true)
    (hd_CO : PySem.W.hasDictIn K CO = true)
    (po_CO : PySem.W.plainOver K CO = true)
    (sa_CO : PySem.W.findIn K (.ref CO) "__setattr__" = some (some (.builtin "object.__setattr__")))
    (mk_CO : PySem.W.makesIn K CO = true)
    (kc_CO : PySem.W.keepIn K (.ref CO) = true)
    (a_iCO : PySem.W.findIn K (.ref CO) "__init__" = some (some (.ref f_iCO)))
    (i_iCO : PySem.W.isFn K (.ref f_iCO) = true)
    (l_iCO : K.lookup f_iCO = some ⟨oc_iCO, od_iCO, .func (PySem.W.fnOf "__init__" "Solved.__init__" (L2.defArgs s_Solved_init) (L2.defBody s_Solved_init) (L2.defScope s_Solved_init) .none kv_iCO dc_iCO pm_iCO an_iCO cd_iCO ct_iCO), sl_iCO⟩)
    (c_iCO : PySem.W.codeIn K cd_iCO "Solved.__init__" = true)
    (k_iCO : PySem.W.keepIn K (.ref f_iCO) = true)
    (n_CO_line : PySem.W.findIn K (.ref CO) "line" = some none)
    (n_CO_order : PySem.W.findIn K (.ref CO) "order" = some none)
    (a_CV : PySem.W.nsIn K mainGlobals "Loose" = some (some (.ref CV)))
    (pg_CV : PySem.W.plainGet K CV Str.empty = true)
    (hd_CV : PySem.W.hasDictIn K CV = true)
    (po_CV : PySem.W.plainOver K CV = true)
    (sa_CV : PySem.W.findIn K (.ref CV) "__setattr__" = some (some (.builtin "object.__setattr__")))
    (mk_CV : PySem.W.makesIn K CV = true)
    (kc_CV : PySem.W.keepIn K (.ref CV) = true)
    (a_iCV : PySem.W.findIn K (.ref CV) "__init__" = some (some (.ref f_iCV)))
    (i_iCV : PySem.W.isFn K (.ref f_iCV) = true)
    (l_iCV : K.lookup f_iCV = some ⟨oc_iCV, od_iCV, .func (PySem.W.fnOf "__init__" "Loose.__init__" (L2.defArgs s_Loose_init) (L2.defBody s_Loose_init) (L2.defScope s_Loose_init) .none kv_iCV dc_iCV pm_iCV an_iCV cd_iCV ct_iCV), sl_iCV⟩)
    (c_iCV : PySem.W.codeIn K cd_iCV "Loose.__init__" = true)
    (k_iCV : PySem.W.keepIn K (.ref f_iCV) = true)
    (n_CV_low : PySem.W.findIn K (.ref CV) "low" = some none)
    (n_CV_high : PySem.W.findIn K (.ref CV) "high" = some none)
    (a_CW : PySem.W.nsIn K mainGlobals "Spread" = some (some (.ref CW)))
    (pg_CW : PySem.W.plainGet K CW Str.empty = true)
    (hd_CW : PySem.W.hasDictIn K CW = true)
    (po_CW : PySem.W.plainOver K CW = true)
    (sa_CW : PySem.W.findIn K (.ref CW) "__setattr__" = some (some (.builtin "object.__setattr__")))
    (mk_CW : PySem.W.makesIn K CW = true)
    (kc_CW : PySem.W.keepIn K (.ref CW) = true)
    (a_iCW : PySem.W.findIn K (.ref CW) "__init__" = some (some (.ref f_iCW)))
    (i_iCW : PySem.W.isFn K (.ref f_iCW) = true)
    (l_iCW : K.lookup f_iCW = some ⟨oc_iCW, od_iCW, .func (PySem.W.fnOf "__init__" "Spread.__init__" (L2.defArgs s_Spread_init) (L2.defBody s_Spread_init) (L2.defScope s_Spread_init) .none kv_iCW dc_iCW pm_iCW an_iCW cd_iCW ct_iCW), sl_iCW⟩)
    (c_iCW : PySem.W.codeIn K cd_iCW "Spread.__init__" = true)
    (k_iCW : PySem.W.keepIn K (.ref f_iCW) = true)
    (n_CW_least : PySem.W.findIn K (.ref CW) "least" = some none)
    (n_CW_greatest : PySem.W.findIn K (.ref CW) "greatest" = some none)
    (n_CW_low : PySem.W.findIn K (.ref CW) "low" = some none)
    (n_CW_high : PySem.W.findIn K (.ref CW) "high" = some none)
    (a_CD : PySem.W.nsIn K mainGlobals "Doubt" = some (some (.ref CD)))
    (pg_CD : PySem.W.plainGet K CD Str.empty = true)
    (hd_CD : PySem.W.hasDictIn K CD = true)
    (po_CD : PySem.W.plainOver K CD = true)
    (sa_CD : PySem.W.findIn K (.ref CD) "__setattr__" = some (some (.builtin "object.__setattr__")))
    (mk_CD : PySem.W.makesIn K CD = true)
    (kc_CD : PySem.W.keepIn K (.ref CD) = true)
    (a_iCD : PySem.W.findIn K (.ref CD) "__init__" = some (some (.ref f_iCD)))
    (i_iCD : PySem.W.isFn K (.ref f_iCD) = true)
    (l_iCD : K.lookup f_iCD = some ⟨oc_iCD, od_iCD, .func (PySem.W.fnOf "__init__" "Doubt.__init__" (L2.defArgs s_Doubt_init) (L2.defBody s_Doubt_init) (L2.defScope s_Doubt_init) .none kv_iCD dc_iCD pm_iCD an_iCD cd_iCD ct_iCD), sl_iCD⟩)
    (c_iCD : PySem.W.codeIn K cd_iCD "Doubt.__init__" = true)
    (k_iCD : PySem.W.keepIn K (.ref f_iCD) = true)
    (n_CD_corner : PySem.W.findIn K (.ref CD) "corner" = some none)
    (n_CD_exchange : PySem.W.findIn K (.ref CD) "exchange" = some none)
    (ty_CG : PySem.W.typeIn K (.ref CG) = some (.type "type"))
    (ha_CG : PySem.W.findIn K (.ref CG) "__class__" = some (some (.builtin "object.__class__")))
    (hm_CG : PySem.W.mroIn K CG (.type "object") = some true)
    (a_eG : PySem.W.findIn K (.ref CG) "__eq__" = some (some (.ref f_eG)))
    (i_eG : PySem.W.isFn K (.ref f_eG) = true)
    (l_eG : K.lookup f_eG = some ⟨oc_eG, od_eG, .func (PySem.W.fnOf "__eq__" "Gate.__eq__" (L2.defArgs s_Gate_eq) (L2.defBody s_Gate_eq) (L2.defScope s_Gate_eq) .none kv_eG dc_eG pm_eG an_eG cd_eG ct_eG), sl_eG⟩)
    (c_eG : PySem.W.codeIn K cd_eG "Gate.__eq__" = true)
    (k_eG : PySem.W.keepIn K (.ref f_eG) = true)
    (nn_CG : PySem.W.findIn K (.ref CG) "__ne__" = some (some (.builtin "object.__ne__")))
    (ty_CL : PySem.W.typeIn K (.ref CL) = some (.type "type"))
    (ha_CL : PySem.W.findIn K (.ref CL) "__class__" = some (some (.builtin "object.__class__")))
    (hm_CL : PySem.W.mroIn K CL (.type "object") = some true)
    (a_eL : PySem.W.findIn K (.ref CL) "__eq__" = some (some (.ref f_eL)))
    (i_eL : PySem.W.isFn K (.ref f_eL) = true)
    (l_eL : K.lookup f_eL = some ⟨oc_eL, od_eL, .func (PySem.W.fnOf "__eq__" "Line.__eq__" (L2.defArgs s_Line_eq) (L2.defBody s_Line_eq) (L2.defScope s_Line_eq) .none kv_eL dc_eL pm_eL an_eL cd_eL ct_eL), sl_eL⟩)
    (c_eL : PySem.W.codeIn K cd_eL "Line.__eq__" = true)
    (k_eL : PySem.W.keepIn K (.ref f_eL) = true)
    (nn_CL : PySem.W.findIn K (.ref CL) "__ne__" = some (some (.builtin "object.__ne__")))
    (ty_CX : PySem.W.typeIn K (.ref CX) = some (.type "type"))
    (ha_CX : PySem.W.findIn K (.ref CX) "__class__" = some (some (.builtin "object.__class__")))
    (hm_CX : PySem.W.mroIn K CX (.type "object") = some true)
    (a_eX : PySem.W.findIn K (.ref CX) "__eq__" = some (some (.ref f_eX)))
    (i_eX : PySem.W.isFn K (.ref f_eX) = true)
    (l_eX : K.lookup f_eX = some ⟨oc_eX, od_eX, .func (PySem.W.fnOf "__eq__" "Exchange.__eq__" (L2.defArgs s_Exchange_eq) (L2.defBody s_Exchange_eq) (L2.defScope s_Exchange_eq) .none kv_eX dc_eX pm_eX an_eX cd_eX ct_eX), sl_eX⟩)
    (c_eX : PySem.W.codeIn K cd_eX "Exchange.__eq__" = true)
    (k_eX : PySem.W.keepIn K (.ref f_eX) = true)
    (nn_CX : PySem.W.findIn K (.ref CX) "__ne__" = some (some (.builtin "object.__ne__")))
    (ty_CV : PySem.W.typeIn K (.ref CV) = some (.type "type"))
    (ha_CV : PySem.W.findIn K (.ref CV) "__class__" = some (some (.builtin "object.__class__")))
    (hm_CV : PySem.W.mroIn K CV (.type "object") = some true)
    (a_eV : PySem.W.findIn K (.ref CV) "__eq__" = some (some (.ref f_eV)))
    (i_eV : PySem.W.isFn K (.ref f_eV) = true)
    (l_eV : K.lookup f_eV = some ⟨oc_eV, od_eV, .func (PySem.W.fnOf "__eq__" "Loose.__eq__" (L2.defArgs s_Loose_eq) (L2.defBody s_Loose_eq) (L2.defScope s_Loose_eq) .none kv_eV dc_eV pm_eV an_eV cd_eV ct_eV), sl_eV⟩)
    (c_eV : PySem.W.codeIn K cd_eV "Loose.__eq__" = true)
    (k_eV : PySem.W.keepIn K (.ref f_eV) = true)
    (nn_CV : PySem.W.findIn K (.ref CV) "__ne__" = some (some (.builtin "object.__ne__")))
    (ty_CW : PySem.W.typeIn K (.ref CW) = some (.type "type"))
    (ha_CW : PySem.W.findIn K (.ref CW) "__class__" = some (some (.builtin "object.__class__")))
    (hm_CW : PySem.W.mroIn K CW (.type "object") = some true)
    (a_eW : PySem.W.findIn K (.ref CW) "__eq__" = some (some (.ref f_eW)))
    (i_eW : PySem.W.isFn K (.ref f_eW) = true)
    (l_eW : K.lookup f_eW = some ⟨oc_eW, od_eW, .func (PySem.W.fnOf "__eq__" "Spread.__eq__" (L2.defArgs s_Spread_eq) (L2.defBody s_Spread_eq) (L2.defScope s_Spread_eq) .none kv_eW dc_eW pm_eW an_eW cd_eW ct_eW), sl_eW⟩)
    (c_eW : PySem.W.codeIn K cd_eW "Spread.__eq__" = true)
    (k_eW : PySem.W.keepIn K (.ref f_eW) = true)
    (nn_CW : PySem.W.findIn K (.ref CW) "__ne__" = some (some (.builtin "object.__ne__")))
    (ty_CD : PySem.W.typeIn K (.ref CD) = some (.type "type"))
    (ha_CD : PySem.W.findIn K (.ref CD) "__class__" = some (some (.builtin "object.__class__")))
    (hm_CD : PySem.W.mroIn K CD (.type "object") = some true)
    (a_eD : PySem.W.findIn K (.ref CD) "__eq__" = some (some (.ref f_eD)))
    (i_eD : PySem.W.isFn K (.ref f_eD) = true)
    (l_eD : K.lookup f_eD = some ⟨oc_eD, od_eD, .func (PySem.W.fnOf "__eq__" "Doubt.__eq__" (L2.defArgs s_Doubt_eq) (L2.defBody s_Doubt_eq) (L2.defScope s_Doubt_eq) .none kv_eD dc_eD pm_eD an_eD cd_eD ct_eD), sl_eD⟩)
    (c_eD : PySem.W.codeIn K cd_eD "Doubt.__eq__" = true)
    (k_eD : PySem.W.keepIn K (.ref f_eD) = true)
    (nn_CD : PySem.W.findIn K (.ref CD) "__ne__" = some (some (.builtin "object.__ne__")))
    (ty_CO : PySem.W.typeIn K (.ref CO) = some (.type "type"))
    (ha_CO : PySem.W.findIn K (.ref CO) "__class__" = some (some (.builtin "object.__class__")))
    (hm_CO : PySem.W.mroIn K CO (.type "object") = some true)
    (a_eO : PySem.W.findIn K (.ref CO) "__eq__" = some (some (.ref f_eO)))
    (i_eO : PySem.W.isFn K (.ref f_eO) = true)
    (l_eO : K.lookup f_eO = some ⟨oc_eO, od_eO, .func (PySem.W.fnOf "__eq__" "Solved.__eq__" (L2.defArgs s_Solved_eq) (L2.defBody s_Solved_eq) (L2.defScope s_Solved_eq) .none kv_eO dc_eO pm_eO an_eO cd_eO ct_eO), sl_eO⟩)
    (c_eO : PySem.W.codeIn K cd_eO "Solved.__eq__" = true)
    (k_eO : PySem.W.keepIn K (.ref f_eO) = true)
    (nn_CO : PySem.W.findIn K (.ref CO) "__ne__" = some (some (.builtin "object.__ne__")))
    (g_N : PySem.W.nsIn K mainGlobals "GREATEST_NUMBER" = some (some (.int 1000000 t_N)))
    (a_check_fraction : PySem.W.nsIn K mainGlobals "check_fraction" = some (some (.ref f_check_fraction)))
    (l_check_fraction : K.lookup f_check_fraction = some ⟨oc_check_fraction, od_check_fraction, .func (PySem.W.fnOf "check_fraction" "check_fraction" (L2.defArgs s_check_fraction) (L2.defBody s_check_fraction) (L2.defScope s_check_fraction) .none kv_check_fraction dc_check_fraction pm_check_fraction an_check_fraction cd_check_fraction ct_check_fraction), sl_check_fraction⟩)
    (c_check_fraction : PySem.W.codeIn K cd_check_fraction "check_fraction" = true)
    (k_check_fraction : PySem.W.keepIn K (.ref f_check_fraction) = true)
    (a_check_loose : PySem.W.nsIn K mainGlobals "check_loose" = some (some (.ref f_check_loose)))
    (l_check_loose : K.lookup f_check_loose = some ⟨oc_check_loose, od_check_loose, .func (PySem.W.fnOf "check_loose" "check_loose" (L2.defArgs s_check_loose) (L2.defBody s_check_loose) (L2.defScope s_check_loose) .none kv_check_loose dc_check_loose pm_check_loose an_check_loose cd_check_loose ct_check_loose), sl_check_loose⟩)
    (c_check_loose : PySem.W.codeIn K cd_check_loose "check_loose" = true)
    (k_check_loose : PySem.W.keepIn K (.ref f_check_loose) = true)
    (a_is_number : PySem.W.nsIn K mainGlobals "is_number" = some (some (.ref f_is_number)))
    (l_is_number : K.lookup f_is_number = some ⟨oc_is_number, od_is_number, .func (PySem.W.fnOf "is_number" "is_number" (L2.defArgs s_is_number) (L2.defBody s_is_number) (L2.defScope s_is_number) .none kv_is_number dc_is_number pm_is_number an_is_number cd_is_number ct_is_number), sl_is_number⟩)
    (c_is_number : PySem.W.codeIn K cd_is_number "is_number" = true)
    (k_is_number : PySem.W.keepIn K (.ref f_is_number) = true)
    (a_is_order : PySem.W.nsIn K mainGlobals "is_order" = some (some (.ref f_is_order)))
    (l_is_order : K.lookup f_is_order = some ⟨oc_is_order, od_is_order, .func (PySem.W.fnOf "is_order" "is_order" (L2.defArgs s_is_order) (L2.defBody s_is_order) (L2.defScope s_is_order) .none kv_is_order dc_is_order pm_is_order an_is_order cd_is_order ct_is_order), sl_is_order⟩)
    (c_is_order : PySem.W.codeIn K cd_is_order "is_order" = true)
    (k_is_order : PySem.W.keepIn K (.ref f_is_order) = true)
    (a_check_order : PySem.W.nsIn K mainGlobals "check_order" = some (some (.ref f_check_order)))
    (l_check_order : K.lookup f_check_order = some ⟨oc_check_order, od_check_order, .func (PySem.W.fnOf "check_order" "check_order" (L2.defArgs s_check_order) (L2.defBody s_check_order) (L2.defScope s_check_order) .none kv_check_order dc_check_order pm_check_order an_check_order cd_check_order ct_check_order), sl_check_order⟩)
    (c_check_order : PySem.W.codeIn K cd_check_order "check_order" = true)
    (k_check_order : PySem.W.keepIn K (.ref f_check_order) = true)
    (a_common_divisor : PySem.W.nsIn K mainGlobals "common_divisor" = some (some (.ref f_common_divisor)))
    (l_common_divisor : K.lookup f_common_divisor = some ⟨oc_common_divisor, od_common_divisor, .func (PySem.W.fnOf "common_divisor" "common_divisor" (L2.defArgs s_common_divisor) (L2.defBody s_common_divisor) (L2.defScope s_common_divisor) .none kv_common_divisor dc_common_divisor pm_common_divisor an_common_divisor cd_common_divisor ct_common_divisor), sl_common_divisor⟩)
    (c_common_divisor : PySem.W.codeIn K cd_common_divisor "common_divisor" = true)
    (k_common_divisor : PySem.W.keepIn K (.ref f_common_divisor) = true)
    (a_lowest : PySem.W.nsIn K mainGlobals "lowest" = some (some (.ref f_lowest)))
    (l_lowest : K.lookup f_lowest = some ⟨oc_lowest, od_lowest, .func (PySem.W.fnOf "lowest" "lowest" (L2.defArgs s_lowest) (L2.defBody s_lowest) (L2.defScope s_lowest) .none kv_lowest dc_lowest pm_lowest an_lowest cd_lowest ct_lowest), sl_lowest⟩)
    (c_lowest : PySem.W.codeIn K cd_lowest "lowest" = true)
    (k_lowest : PySem.W.keepIn K (.ref f_lowest) = true)
    (a_below : PySem.W.nsIn K mainGlobals "below" = some (some (.ref f_below)))
    (l_below : K.lookup f_below = some ⟨oc_below, od_below, .func (PySem.W.fnOf "below" "below" (L2.defArgs s_below) (L2.defBody s_below) (L2.defScope s_below) .none kv_below dc_below pm_below an_below cd_below ct_below), sl_below⟩)
    (c_below : PySem.W.codeIn K cd_below "below" = true)
    (k_below : PySem.W.keepIn K (.ref f_below) = true)
    (a_smaller : PySem.W.nsIn K mainGlobals "smaller" = some (some (.ref f_smaller)))
    (l_smaller : K.lookup f_smaller = some ⟨oc_smaller, od_smaller, .func (PySem.W.fnOf "smaller" "smaller" (L2.defArgs s_smaller) (L2.defBody s_smaller) (L2.defScope s_smaller) .none kv_smaller dc_smaller pm_smaller an_smaller cd_smaller ct_smaller), sl_smaller⟩)
    (c_smaller : PySem.W.codeIn K cd_smaller "smaller" = true)
    (k_smaller : PySem.W.keepIn K (.ref f_smaller) = true)
    (a_greater : PySem.W.nsIn K mainGlobals "greater" = some (some (.ref f_greater)))
    (l_greater : K.lookup f_greater = some ⟨oc_greater, od_greater, .func (PySem.W.fnOf "greater" "greater" (L2.defArgs s_greater) (L2.defBody s_greater) (L2.defScope s_greater) .none kv_greater dc_greater pm_greater an_greater cd_greater ct_greater), sl_greater⟩)
    (c_greater : PySem.W.codeIn K cd_greater "greater" = true)
    (k_greater : PySem.W.keepIn K (.ref f_greater) = true)
    (a_step_of : PySem.W.nsIn K mainGlobals "step_of" = some (some (.ref f_step_of)))
    (l_step_of : K.lookup f_step_of = some ⟨oc_step_of, od_step_of, .func (PySem.W.fnOf "step_of" "step_of" (L2.defArgs s_step_of) (L2.defBody s_step_of) (L2.defScope s_step_of) .none kv_step_of dc_step_of pm_step_of an_step_of cd_step_of ct_step_of), sl_step_of⟩)
    (c_step_of : PySem.W.codeIn K cd_step_of "step_of" = true)
    (k_step_of : PySem.W.keepIn K (.ref f_step_of) = true)
    (a_passed : PySem.W.nsIn K mainGlobals "passed" = some (some (.ref f_passed)))
    (l_passed : K.lookup f_passed = some ⟨oc_passed, od_passed, .func (PySem.W.fnOf "passed" "passed" (L2.defArgs s_passed) (L2.defBody s_passed) (L2.defScope s_passed) .none kv_passed dc_passed pm_passed an_passed cd_passed ct_passed), sl_passed⟩)
    (c_passed : PySem.W.codeIn K cd_passed "passed" = true)
    (k_passed : PySem.W.keepIn K (.ref f_passed) = true)
    (a_passed_all : PySem.W.nsIn K mainGlobals "passed_all" = some (some (.ref f_passed_all)))
    (l_passed_all : K.lookup f_passed_all = some ⟨oc_passed_all, od_passed_all, .func (PySem.W.fnOf "passed_all" "passed_all" (L2.defArgs s_passed_all) (L2.defBody s_passed_all) (L2.defScope s_passed_all) .none kv_passed_all dc_passed_all pm_passed_all an_passed_all cd_passed_all ct_passed_all), sl_passed_all⟩)
    (c_passed_all : PySem.W.codeIn K cd_passed_all "passed_all" = true)
    (k_passed_all : PySem.W.keepIn K (.ref f_passed_all) = true)
    (a_outer_values : PySem.W.nsIn K mainGlobals "outer_values" = some (some (.ref f_outer_values)))
    (l_outer_values : K.lookup f_outer_values = some ⟨oc_outer_values, od_outer_values, .func (PySem.W.fnOf "outer_values" "outer_values" (L2.defArgs s_outer_values) (L2.defBody s_outer_values) (L2.defScope s_outer_values) .none kv_outer_values dc_outer_values pm_outer_values an_outer_values cd_outer_values ct_outer_values), sl_outer_values⟩)
    (c_outer_values : PySem.W.codeIn K cd_outer_values "outer_values" = true)
    (k_outer_values : PySem.W.keepIn K (.ref f_outer_values) = true)
    (a_outer_gates : PySem.W.nsIn K mainGlobals "outer_gates" = some (some (.ref f_outer_gates)))
    (l_outer_gates : K.lookup f_outer_gates = some ⟨oc_outer_gates, od_outer_gates, .func (PySem.W.fnOf "outer_gates" "outer_gates" (L2.defArgs s_outer_gates) (L2.defBody s_outer_gates) (L2.defScope s_outer_gates) .none kv_outer_gates dc_outer_gates pm_outer_gates an_outer_gates cd_outer_gates ct_outer_gates), sl_outer_gates⟩)
    (c_outer_gates : PySem.W.codeIn K cd_outer_gates "outer_gates" = true)
    (k_outer_gates : PySem.W.keepIn K (.ref f_outer_gates) = true)
    (a_corners : PySem.W.nsIn K mainGlobals "corners" = some (some (.ref f_corners)))
    (l_corners : K.lookup f_corners = some ⟨oc_corners, od_corners, .func (PySem.W.fnOf "corners" "corners" (L2.defArgs s_corners) (L2.defBody s_corners) (L2.defScope s_corners) .none kv_corners dc_corners pm_corners an_corners cd_corners ct_corners), sl_corners⟩)
    (c_corners : PySem.W.codeIn K cd_corners "corners" = true)
    (k_corners : PySem.W.keepIn K (.ref f_corners) = true)
    (a_spread_of : PySem.W.nsIn K mainGlobals "spread_of" = some (some (.ref f_spread_of)))
    (l_spread_of : K.lookup f_spread_of = some ⟨oc_spread_of, od_spread_of, .func (PySem.W.fnOf "spread_of" "spread_of" (L2.defArgs s_spread_of) (L2.defBody s_spread_of) (L2.defScope s_spread_of) .none kv_spread_of dc_spread_of pm_spread_of an_spread_of cd_spread_of ct_spread_of), sl_spread_of⟩)
    (c_spread_of : PySem.W.codeIn K cd_spread_of "spread_of" = true)
    (k_spread_of : PySem.W.keepIn K (.ref f_spread_of) = true)
    (a_spread : PySem.W.nsIn K mainGlobals "spread" = some (some (.ref f_spread)))
    (l_spread : K.lookup f_spread = some ⟨oc_spread, od_spread, .func (PySem.W.fnOf "spread" "spread" (L2.defArgs s_spread) (L2.defBody s_spread) (L2.defScope s_spread) .none kv_spread dc_spread pm_spread an_spread (.ref c_spread) ct_spread), sl_spread⟩)
    (c_spreadq : PySem.W.codeIn K (.ref c_spread) "spread" = true)
    (k_spread : PySem.W.keepIn K (.ref f_spread) = true)
    (q_spread : K.lookup c_spread = some ⟨tq_spread, oq_spread, .fields vs_spread, sq_spread⟩)
    (v_spread : vs_spread[11]? = some (.ref P_spread))
    (h_spread : PySem.W.codeHdIn K c_spread P_spread = true)
    (n_spread : K.lookup P_spread = none)
    (t_spread : h.get? P_spread = some { cls := .none, data := .fields #[] })
    (a__law_cell : PySem.W.nsIn K mainGlobals "_law_cell" = some (some (.ref f__law_cell)))
    (l__law_cell : K.lookup f__law_cell = some ⟨oc__law_cell, od__law_cell, .func (PySem.W.fnOf "_law_cell" "_law_cell" (L2.defArgs s__law_cell) (L2.defBody s__law_cell) (L2.defScope s__law_cell) .none kv__law_cell dc__law_cell pm__law_cell an__law_cell cd__law_cell ct__law_cell), sl__law_cell⟩)
    (c__law_cell : PySem.W.codeIn K cd__law_cell "_law_cell" = true)
    (k__law_cell : PySem.W.keepIn K (.ref f__law_cell) = true)
    (a__law_rng : PySem.W.nsIn K mainGlobals "_law_rng" = some (some (.ref f__law_rng)))
    (l__law_rng : K.lookup f__law_rng = some ⟨oc__law_rng, od__law_rng, .func (PySem.W.fnOf "_law_rng" "_law_rng" (L2.defArgs s__law_rng) (L2.defBody s__law_rng) (L2.defScope s__law_rng) .none kv__law_rng dc__law_rng pm__law_rng an__law_rng cd__law_rng ct__law_rng), sl__law_rng⟩)
    (c__law_rng : PySem.W.codeIn K cd__law_rng "_law_rng" = true)
    (k__law_rng : PySem.W.keepIn K (.ref f__law_rng) = true)
    (a__law_draw : PySem.W.nsIn K mainGlobals "_law_draw" = some (some (.ref f__law_draw)))
    (l__law_draw : K.lookup f__law_draw = some ⟨oc__law_draw, od__law_draw, .func (PySem.W.fnOf "_law_draw" "_law_draw" (L2.defArgs s__law_draw) (L2.defBody s__law_draw) (L2.defScope s__law_draw) .none kv__law_draw dc__law_draw pm__law_draw an__law_draw cd__law_draw ct__law_draw), sl__law_draw⟩)
    (c__law_draw : PySem.W.codeIn K cd__law_draw "_law_draw" = true)
    (k__law_draw : PySem.W.keepIn K (.ref f__law_draw) = true)
    (a__law_pick : PySem.W.nsIn K mainGlobals "_law_pick" = some (some (.ref f__law_pick)))
    (l__law_pick : K.lookup f__law_pick = some ⟨oc__law_pick, od__law_pick, .func (PySem.W.fnOf "_law_pick" "_law_pick" (L2.defArgs s__law_pick) (L2.defBody s__law_pick) (L2.defScope s__law_pick) .none kv__law_pick dc__law_pick pm__law_pick an__law_pick cd__law_pick ct__law_pick), sl__law_pick⟩)
    (c__law_pick : PySem.W.codeIn K cd__law_pick "_law_pick" = true)
    (k__law_pick : PySem.W.keepIn K (.ref f__law_pick) = true)
    (a__law_fraction : PySem.W.nsIn K mainGlobals "_law_fraction" = some (some (.ref f__law_fraction)))
    (l__law_fraction : K.lookup f__law_fraction = some ⟨oc__law_fraction, od__law_fraction, .func (PySem.W.fnOf "_law_fraction" "_law_fraction" (L2.defArgs s__law_fraction) (L2.defBody s__law_fraction) (L2.defScope s__law_fraction) .none kv__law_fraction dc__law_fraction pm__law_fraction an__law_fraction cd__law_fraction ct__law_fraction), sl__law_fraction⟩)
    (c__law_fraction : PySem.W.codeIn K cd__law_fraction "_law_fraction" = true)
    (k__law_fraction : PySem.W.keepIn K (.ref f__law_fraction) = true)
    (a__law_random_gate : PySem.W.nsIn K mainGlobals "_law_random_gate" = some (some (.ref f__law_random_gate)))
    (l__law_random_gate : K.lookup f__law_random_gate = some ⟨oc__law_random_gate, od__law_random_gate, .func (PySem.W.fnOf "_law_random_gate" "_law_random_gate" (L2.defArgs s__law_random_gate) (L2.defBody s__law_random_gate) (L2.defScope s__law_random_gate) .none kv__law_random_gate dc__law_random_gate pm__law_random_gate an__law_random_gate cd__law_random_gate ct__law_random_gate), sl__law_random_gate⟩)
    (c__law_random_gate : PySem.W.codeIn K cd__law_random_gate "_law_random_gate" = true)
    (k__law_random_gate : PySem.W.keepIn K (.ref f__law_random_gate) = true)
    (a__law_made : PySem.W.nsIn K mainGlobals "_law_made" = some (some (.ref f__law_made)))
    (l__law_made : K.lookup f__law_made = some ⟨oc__law_made, od__law_made, .func (PySem.W.fnOf "_law_made" "_law_made" (L2.defArgs s__law_made) (L2.defBody s__law_made) (L2.defScope s__law_made) .none kv__law_made dc__law_made pm__law_made an__law_made cd__law_made ct__law_made), sl__law_made⟩)
    (c__law_made : PySem.W.codeIn K cd__law_made "_law_made" = true)
    (k__law_made : PySem.W.keepIn K (.ref f__law_made) = true)
    (a__law_less : PySem.W.nsIn K mainGlobals "_law_less" = some (some (.ref f__law_less)))
    (l__law_less : K.lookup f__law_less = some ⟨oc__law_less, od__law_less, .func (PySem.W.fnOf "_law_less" "_law_less" (L2.defArgs s__law_less) (L2.defBody s__law_less) (L2.defScope s__law_less) .none kv__law_less dc__law_less pm__law_less an__law_less cd__law_less ct__law_less), sl__law_less⟩)
    (c__law_less : PySem.W.codeIn K cd__law_less "_law_less" = true)
    (k__law_less : PySem.W.keepIn K (.ref f__law_less) = true)
    (a__law_loose_holds : PySem.W.nsIn K mainGlobals "_law_loose_holds" = some (some (.ref f__law_loose_holds)))
    (l__law_loose_holds : K.lookup f__law_loose_holds = some ⟨oc__law_loose_holds, od__law_loose_holds, .func (PySem.W.fnOf "_law_loose_holds" "_law_loose_holds" (L2.defArgs s__law_loose_holds) (L2.defBody s__law_loose_holds) (L2.defScope s__law_loose_holds) .none kv__law_loose_holds dc__law_loose_holds pm__law_loose_holds an__law_loose_holds cd__law_loose_holds ct__law_loose_holds), sl__law_loose_holds⟩)
    (c__law_loose_holds : PySem.W.codeIn K cd__law_loose_holds "_law_loose_holds" = true)
    (k__law_loose_holds : PySem.W.keepIn K (.ref f__law_loose_holds) = true)
    (a__law_differ : PySem.W.nsIn K mainGlobals "_law_differ" = some (some (.ref f__law_differ)))
    (l__law_differ : K.lookup f__law_differ = some ⟨oc__law_differ, od__law_differ, .func (PySem.W.fnOf "_law_differ" "_law_differ" (L2.defArgs s__law_differ) (L2.defBody s__law_differ) (L2.defScope s__law_differ) .none kv__law_differ dc__law_differ pm__law_differ an__law_differ cd__law_differ ct__law_differ), sl__law_differ⟩)
    (c__law_differ : PySem.W.codeIn K cd__law_differ "_law_differ" = true)
    (k__law_differ : PySem.W.keepIn K (.ref f__law_differ) = true)
    (a__law_results_hold : PySem.W.nsIn K mainGlobals "_law_results_hold" = some (some (.ref f__law_results_hold)))
    (l__law_results_hold : K.lookup f__law_results_hold = some ⟨oc__law_results_hold, od__law_results_hold, .func (PySem.W.fnOf "_law_results_hold" "_law_results_hold" (L2.defArgs s__law_results_hold) (L2.defBody s__law_results_hold) (L2.defScope s__law_results_hold) .none kv__law_results_hold dc__law_results_hold pm__law_results_hold an__law_results_hold cd__law_results_hold ct__law_results_hold), sl__law_results_hold⟩)
    (c__law_results_hold : PySem.W.codeIn K cd__law_results_hold "_law_results_hold" = true)
    (k__law_results_hold : PySem.W.keepIn K (.ref f__law_results_hold) = true)
    (a__law_equality_holds : PySem.W.nsIn K mainGlobals "_law_equality_holds" = some (some (.ref f__law_equality_holds)))
    (l__law_equality_holds : K.lookup f__law_equality_holds = some ⟨oc__law_equality_holds, od__law_equality_holds, .func (PySem.W.fnOf "_law_equality_holds" "_law_equality_holds" (L2.defArgs s__law_equality_holds) (L2.defBody s__law_equality_holds) (L2.defScope s__law_equality_holds) .none kv__law_equality_holds dc__law_equality_holds pm__law_equality_holds an__law_equality_holds (.ref c__law_equality_holds) ct__law_equality_holds), sl__law_equality_holds⟩)
    (c__law_equality_holdsq : PySem.W.codeIn K (.ref c__law_equality_holds) "_law_equality_holds" = true)
    (k__law_equality_holds : PySem.W.keepIn K (.ref f__law_equality_holds) = true)
    (q__law_equality_holds : K.lookup c__law_equality_holds = some ⟨tq__law_equality_holds, oq__law_equality_holds, .fields vs__law_equality_holds, sq__law_equality_holds⟩)
    (v__law_equality_holds : vs__law_equality_holds[11]? = some (.ref P__law_equality_holds))
    (h__law_equality_holds : PySem.W.codeHdIn K c__law_equality_holds P__law_equality_holds = true)
    (n__law_equality_holds : K.lookup P__law_equality_holds = none)
    (t__law_equality_holds : h.get? P__law_equality_holds = some { cls := .none, data := .fields #[] })
    (a_law : PySem.W.nsIn K mainGlobals "law" = some (some (.ref f_law)))
    (l_law : K.lookup f_law = some ⟨oc_law, od_law, .func (PySem.W.fnOf "law" "law" (L2.defArgs s_law) (L2.defBody s_law) (L2.defScope s_law) .none kv_law dc_law pm_law an_law cd_law ct_law), sl_law⟩)
    (c_law : PySem.W.codeIn K cd_law "law" = true)
    (k_law : PySem.W.keepIn K (.ref f_law) = true)
    (np_spread__law_equality_holds : P_spread ≠ P__law_equality_holds)
    (g_MZ : PySem.W.nsIn K mainGlobals "MOST_LOOSE" = some (some (.int 4 t_MZ)))
    (s_CV_CG : PySem.W.subIn K (.ref CV) (.ref CG) = some false)
    (ne_VG : CV ≠ CG)
    (u1_CV_tuple : PySem.W.subIn K (.ref CV) (.type "tuple") = some false)
    (u2_CV_tuple : PySem.W.subIn K (.type "tuple") (.ref CV) = some false)
    (u1_CV_list : PySem.W.subIn K (.ref CV) (.type "list") = some false)
    (u2_CV_list : PySem.W.subIn K (.type "list") (.ref CV) = some false)
    (u1_CV_NoneType : PySem.W.subIn K (.ref CV) (.type "NoneType") = some false)
    (u2_CV_NoneType : PySem.W.subIn K (.type "NoneType") (.ref CV) = some false)
    (u1_CW_tuple : PySem.W.subIn K (.ref CW) (.type "tuple") = some false)
    (u2_CW_tuple : PySem.W.subIn K (.type "tuple") (.ref CW) = some false)
    (u1_CW_list : PySem.W.subIn K (.ref CW) (.type "list") = some false)
    (u2_CW_list : PySem.W.subIn K (.type "list") (.ref CW) = some false)
    (u1_CW_NoneType : PySem.W.subIn K (.ref CW) (.type "NoneType") = some false)
    (u2_CW_NoneType : PySem.W.subIn K (.type "NoneType") (.ref CW) = some false)
    (u1_CD_tuple : PySem.W.subIn K (.ref CD) (.type "tuple") = some false)
    (u2_CD_tuple : PySem.W.subIn K (.type "tuple") (.ref CD) = some false)
    (u1_CD_list : PySem.W.subIn K (.ref CD) (.type "list") = some false)
    (u2_CD_list : PySem.W.subIn K (.type "list") (.ref CD) = some false)
    (u1_CD_NoneType : PySem.W.subIn K (.ref CD) (.type "NoneType") = some false)
    (u2_CD_NoneType : PySem.W.subIn K (.type "NoneType") (.ref CD) = some false)
    (u1_CO_tuple : PySem.W.subIn K (.ref CO) (.type "tuple") = some false)
    (u2_CO_tuple : PySem.W.subIn K (.type "tuple") (.ref CO) = some false)
    (u1_CO_list : PySem.W.subIn K (.ref CO) (.type "list") = some false)
    (u2_CO_list : PySem.W.subIn K (.type "list") (.ref CO) = some false)
    (u1_CO_NoneType : PySem.W.subIn K (.ref CO) (.type "NoneType") = some false)
    (u2_CO_NoneType : PySem.W.subIn K (.type "NoneType") (.ref CO) = some false)
    (u1_CX_tuple : PySem.W.subIn K (.ref CX) (.type "tuple") = some false)
    (u2_CX_tuple : PySem.W.subIn K (.type "tuple") (.ref CX) = some false)
    (u1_CX_list : PySem.W.subIn K (.ref CX) (.type "list") = some false)
    (u2_CX_list : PySem.W.subIn K (.type "list") (.ref CX) = some false)
    (u1_CX_NoneType : PySem.W.subIn K (.ref CX) (.type "NoneType") = some false)
    (u2_CX_NoneType : PySem.W.subIn K (.type "NoneType") (.ref CX) = some false)
    (z_abs : PySem.W.nsIn K mainGlobals "abs" = some none)
    (z_bool : PySem.W.nsIn K mainGlobals "bool" = some none)
    (z_int : PySem.W.nsIn K mainGlobals "int" = some none)
    (z_isinstance : PySem.W.nsIn K mainGlobals "isinstance" = some none)
    (z_len : PySem.W.nsIn K mainGlobals "len" = some none)
    (z_list : PySem.W.nsIn K mainGlobals "list" = some none)
    (z_range : PySem.W.nsIn K mainGlobals "range" = some none)
    (z_set : PySem.W.nsIn K mainGlobals "set" = some none)
    (z_tuple : PySem.W.nsIn K mainGlobals "tuple" = some none)
    : LamX.LawAtS l w K (L2.CX l.prog w) 11 63 "_law_script" mg fa h := by
  have T_CB : NamC K mg "GateError" CB := ⟨PySem.W.mg_of X G a_CB, hd_CB, ty_CB⟩
  have T_CE : ErrC K mg "BadCount" CE := errC_mk X G a_CE xl_CE rb_CE sa_CE ga_CE gg_CE eb_CE ty_CE kc_CE hd_CE ha_CE sp_get tk_get hm_CE
  have I_CE : ErrI K mg "BadCount" "BadCount.__init__" CE s_BadCount_init ["self", "what", "count"] := errI_mk T_CE (fun _ _ _ _ _ _ us hl => match us, hl with | [_, _, _], _ => rfl) a_iCE t_iCE l_iCE c_iCE k_iCE
  have T_CN : ErrC K mg "NoOrder" CN := errC_mk X G a_CN xl_CN rb_CN sa_CN ga_CN gg_CN eb_CN ty_CN kc_CN hd_CN ha_CN sp_get tk_get hm_CN
  have N_CN : ErrN K mg "NoOrder" CN := ⟨T_CN, xq_CN, kc_CN, eb_CN, ty_CN⟩
  have L_CG : Cls K CG := ⟨pg_CG, hd_CG, po_CG, sa_CG⟩
  have I_CG : InitAt K mg "Gate" "Gate.__init__" CG s_Gate_init ["self", "factor", "amount"] := initAt_mk X G (fun _ _ _ _ _ _ us hl => match us, hl with | [_, _, _], _ => rfl) a_CG mk_CG kc_CG a_iCG i_iCG l_iCG c_iCG k_iCG
  have L_CL : Cls K CL := ⟨pg_CL, hd_CL, po_CL, sa_CL⟩
  have I_CL : InitAt K mg "Line" "Line.__init__" CL s_Line_init ["self", "factor", "amount"] := initAt_mk X G (fun _ _ _ _ _ _ us hl => match us, hl with | [_, _, _], _ => rfl) a_CL mk_CL kc_CL a_iCL i_iCL l_iCL c_iCL k_iCL
  have L_CX : Cls K CX := ⟨pg_CX, hd_CX, po_CX, sa_CX⟩
  have I_CX : InitAt K mg "Exchange" "Exchange.__init__" CX s_Exchange_init ["self", "begin", "middle", "end", "worth"] := initAt_mk X G (fun _ _ _ _ _ _ us hl => match us, hl with | [_, _, _, _, _], _ => rfl) a_CX mk_CX kc_CX a_iCX i_iCX l_iCX c_iCX k_iCX
  have L_CO : Cls K CO := ⟨pg_CO, hd_CO, po_CO, sa_CO⟩
  have I_CO : InitAt K mg "Solved" "Solved.__init__" CO s_Solved_init ["self", "line", "order"] := initAt_mk X G (fun _ _ _ _ _ _ us hl => match us, hl with | [_, _, _], _ => rfl) a_CO mk_CO kc_CO a_iCO i_iCO l_iCO c_iCO k_iCO
  have L_CV : Cls K CV := ⟨pg_CV, hd_CV, po_CV, sa_CV⟩
  have I_CV : InitAt K mg "Loose" "Loose.__init__" CV s_Loose_init ["self", "low", "high"] := initAt_mk X G (fun _ _ _ _ _ _ us hl => match us, hl with | [_, _, _], _ => rfl) a_CV mk_CV kc_CV a_iCV i_iCV l_iCV c_iCV k_iCV
  have L_CW : Cls K CW := ⟨pg_CW, hd_CW, po_CW, sa_CW⟩
  have I_CW : InitAt K mg "Spread" "Spread.__init__" CW s_Spread_init ["self", "least", "greatest", "low", "high"] := initAt_mk X G (fun _ _ _ _ _ _ us hl => match us, hl with | [_, _, _, _, _], _ => rfl) a_CW mk_CW kc_CW a_iCW i_iCW l_iCW c_iCW k_iCW
  have L_CD : Cls K CD := ⟨pg_CD, hd_CD, po_CD, sa_CD⟩
  have I_CD : InitAt K mg "Doubt" "Doubt.__init__" CD s_Doubt_init ["self", "corner", "exchange"] := initAt_mk X G (fun _ _ _ _ _ _ us hl => match us, hl with | [_, _, _], _ => rfl) a_CD mk_CD kc_CD a_iCD i_iCD l_iCD c_iCD k_iCD
  have M_eG : MethAt K CG "__eq__" "Gate.__eq__" s_Gate_eq ["self", "other"] := methAt_mk L_CG (fun _ _ _ _ _ _ us hl => match us, hl with | [_, _], _ => rfl) a_eG i_eG l_eG c_eG k_eG
  have M_eL : MethAt K CL "__eq__" "Line.__eq__" s_Line_eq ["self", "other"] := methAt_mk L_CL (fun _ _ _ _ _ _ us hl => match us, hl with | [_, _], _ => rfl) a_eL i_eL l_eL c_eL k_eL
  have M_eX : MethAt K CX "__eq__" "Exchange.__eq__" s_Exchange_eq ["self", "other"] := methAt_mk L_CX (fun _ _ _ _ _ _ us hl => match us, hl with | [_, _], _ => rfl) a_eX i_eX l_eX c_eX k_eX
  have M_eV : MethAt K CV "__eq__" "Loose.__eq__" s_Loose_eq ["self", "other"] := methAt_mk L_CV (fun _ _ _ _ _ _ us hl => match us, hl with | [_, _], _ => rfl) a_eV i_eV l_eV c_eV k_eV
  have M_eW : MethAt K CW "__eq__" "Spread.__eq__" s_Spread_eq ["self", "other"] := methAt_mk L_CW (fun _ _ _ _ _ _ us hl => match us, hl with | [_, _], _ => rfl) a_eW i_eW l_eW c_eW k_eW
  have M_eD : MethAt K CD "__eq__" "Doubt.__eq__" s_Doubt_eq ["self", "other"] := methAt_mk L_CD (fun _ _ _ _ _ _ us hl => match us, hl with | [_, _], _ => rfl) a_eD i_eD l_eD c_eD k_eD
  have M_eO : MethAt K CO "__eq__" "Solved.__eq__" s_Solved_eq ["self", "other"] := methAt_mk L_CO (fun _ _ _ _ _ _ us hl => match us, hl with | [_, _], _ => rfl) a_eO i_eO l_eO c_eO k_eO
  have v_N := PySem.W.mg_of X G g_N
  have D_check_fraction : DefAt K mg "check_fraction" s_check_fraction ["fraction"] := defAt_mk X G (fun _ _ _ _ _ _ us hl => match us, hl with | [_], _ => rfl) a_check_fraction l_check_fraction c_check_fraction k_check_fraction
  have D_check_loose : DefAt K mg "check_loose" s_check_loose ["some"] := defAt_mk X G (fun _ _ _ _ _ _ us hl => match us, hl with | [_], _ => rfl) a_check_loose l_check_loose c_check_loose k_check_loose
  have D_is_number : DefAt K mg "is_number" s_is_number ["thing"] := defAt_mk X G (fun _ _ _ _ _ _ us hl => match us, hl with | [_], _ => rfl) a_is_number l_is_number c_is_number k_is_number
  have D_is_order : DefAt K mg "is_order" s_is_order ["order", "many"] := defAt_mk X G (fun _ _ _ _ _ _ us hl => match us, hl with | [_, _], _ => rfl) a_is_order l_is_order c_is_order k_is_order
  have D_check_order : DefAt K mg "check_order" s_check_order ["gates", "order"] := defAt_mk X G (fun _ _ _ _ _ _ us hl => match us, hl with | [_, _], _ => rfl) a_check_order l_check_order c_check_order k_check_order
  have D_common_divisor : DefAt K mg "common_divisor" s_common_divisor ["one", "other"] := defAt_mk X G (fun _ _ _ _ _ _ us hl => match us, hl with | [_, _], _ => rfl) a_common_divisor l_common_divisor c_common_divisor k_common_divisor
  have D_lowest : DefAt K mg "lowest" s_lowest ["fraction"] := defAt_mk X G (fun _ _ _ _ _ _ us hl => match us, hl with | [_], _ => rfl) a_lowest l_lowest c_lowest k_lowest
  have D_below : DefAt K mg "below" s_below ["one", "other"] := defAt_mk X G (fun _ _ _ _ _ _ us hl => match us, hl with | [_, _], _ => rfl) a_below l_below c_below k_below
  have D_smaller : DefAt K mg "smaller" s_smaller ["one", "other"] := defAt_mk X G (fun _ _ _ _ _ _ us hl => match us, hl with | [_, _], _ => rfl) a_smaller l_smaller c_smaller k_smaller
  have D_greater : DefAt K mg "greater" s_greater ["one", "other"] := defAt_mk X G (fun _ _ _ _ _ _ us hl => match us, hl with | [_, _], _ => rfl) a_greater l_greater c_greater k_greater
  have D_step_of : DefAt K mg "step_of" s_step_of ["gate"] := defAt_mk X G (fun _ _ _ _ _ _ us hl => match us, hl with | [_], _ => rfl) a_step_of l_step_of c_step_of k_step_of
  have D_passed : DefAt K mg "passed" s_passed ["step", "fraction"] := defAt_mk X G (fun _ _ _ _ _ _ us hl => match us, hl with | [_, _], _ => rfl) a_passed l_passed c_passed k_passed
  have D_passed_all : DefAt K mg "passed_all" s_passed_all ["gates", "order", "fraction"] := defAt_mk X G (fun _ _ _ _ _ _ us hl => match us, hl with | [_, _, _], _ => rfl) a_passed_all l_passed_all c_passed_all k_passed_all
  have D_outer_values : DefAt K mg "outer_values" s_outer_values ["low", "high"] := defAt_mk X G (fun _ _ _ _ _ _ us hl => match us, hl with | [_, _], _ => rfl) a_outer_values l_outer_values c_outer_values k_outer_values
  have D_outer_gates : DefAt K mg "outer_gates" s_outer_gates ["loose"] := defAt_mk X G (fun _ _ _ _ _ _ us hl => match us, hl with | [_], _ => rfl) a_outer_gates l_outer_gates c_outer_gates k_outer_gates
  have D_corners : DefAt K mg "corners" s_corners ["some"] := defAt_mk X G (fun _ _ _ _ _ _ us hl => match us, hl with | [_], _ => rfl) a_corners l_corners c_corners k_corners
  have D_spread_of : DefAt K mg "spread_of" s_spread_of ["some", "worth_at"] := defAt_mk X G (fun _ _ _ _ _ _ us hl => match us, hl with | [_, _], _ => rfl) a_spread_of l_spread_of c_spread_of k_spread_of
  have D_spread : DefAtC K mg "spread" s_spread ["some", "order", "x"] c_spread := defAtC_mk X G (fun _ _ _ _ _ _ us hl => match us, hl with | [_, _, _], _ => rfl) a_spread l_spread c_spreadq k_spread
  have D__law_cell : DefAt K mg "_law_cell" s__law_cell ["_law_script", "_law_index"] := defAt_mk X G (fun _ _ _ _ _ _ us hl => match us, hl with | [_, _], _ => rfl) a__law_cell l__law_cell c__law_cell k__law_cell
  have D__law_rng : DefAt K mg "_law_rng" s__law_rng ["_law_cell_here"] := defAt_mk X G (fun _ _ _ _ _ _ us hl => match us, hl with | [_], _ => rfl) a__law_rng l__law_rng c__law_rng k__law_rng
  have D__law_draw : DefAt K mg "_law_draw" s__law_draw ["_law_rng_here", "_law_limit"] := defAt_mk X G (fun _ _ _ _ _ _ us hl => match us, hl with | [_, _], _ => rfl) a__law_draw l__law_draw c__law_draw k__law_draw
  have D__law_pick : DefAt K mg "_law_pick" s__law_pick ["_law_rng_here", "_law_items"] := defAt_mk X G (fun _ _ _ _ _ _ us hl => match us, hl with | [_, _], _ => rfl) a__law_pick l__law_pick c__law_pick k__law_pick
  have D__law_fraction : DefAt K mg "_law_fraction" s__law_fraction ["_law_top", "_law_bottom"] := defAt_mk X G (fun _ _ _ _ _ _ us hl => match us, hl with | [_, _], _ => rfl) a__law_fraction l__law_fraction c__law_fraction k__law_fraction
  have D__law_random_gate : DefAt K mg "_law_random_gate" s__law_random_gate ["_law_rng_here"] := defAt_mk X G (fun _ _ _ _ _ _ us hl => match us, hl with | [_], _ => rfl) a__law_random_gate l__law_random_gate c__law_random_gate k__law_random_gate
  have D__law_made : DefAt K mg "_law_made" s__law_made ["_law_gates"] := defAt_mk X G (fun _ _ _ _ _ _ us hl => match us, hl with | [_], _ => rfl) a__law_made l__law_made c__law_made k__law_made
  have D__law_less : DefAt K mg "_law_less" s__law_less ["_law_one", "_law_other"] := defAt_mk X G (fun _ _ _ _ _ _ us hl => match us, hl with | [_, _], _ => rfl) a__law_less l__law_less c__law_less k__law_less
  have D__law_loose_holds : DefAt K mg "_law_loose_holds" s__law_loose_holds ["_law_one", "_law_other"] := defAt_mk X G (fun _ _ _ _ _ _ us hl => match us, hl with | [_, _], _ => rfl) a__law_loose_holds l__law_loose_holds c__law_loose_holds k__law_loose_holds
  have D__law_differ : DefAt K mg "_law_differ" s__law_differ ["_law_make", "_law_facts", "_law_others"] := defAt_mk X G (fun _ _ _ _ _ _ us hl => match us, hl with | [_, _, _], _ => rfl) a__law_differ l__law_differ c__law_differ k__law_differ
  have D__law_results_hold : DefAt K mg "_law_results_hold" s__law_results_hold ["_law_gates"] := defAt_mk X G (fun _ _ _ _ _ _ us hl => match us, hl with | [_], _ => rfl) a__law_results_hold l__law_results_hold c__law_results_hold k__law_results_hold
  have D__law_equality_holds : DefAtC K mg "_law_equality_holds" s__law_equality_holds ["_law_gates"] c__law_equality_holds := defAtC_mk X G (fun _ _ _ _ _ _ us hl => match us, hl with | [_], _ => rfl) a__law_equality_holds l__law_equality_holds c__law_equality_holdsq k__law_equality_holds
  have F_law := L2.fun_mk (st := s_law) l_law c_law k_law
  have e_law := hfa.symm.trans (PySem.W.mg_of X G a_law)
  cases e_law
  have v_MZ := PySem.W.mg_of X G g_MZ
  have K_V : KwI K CV ["self", "low", "high"] ["high", "low"] [1, 0] := kwI_mk ["high", "low"] [1, 0] (fun us ws h1 h2 => match us, ws, h1, h2 with | [_], [_, _], _, _ => rfl) a_iCV l_iCV
  have K_W : KwI K CW ["self", "least", "greatest", "low", "high"] ["high", "low", "greatest", "least"] [3, 2, 1, 0] := kwI_mk ["high", "low", "greatest", "least"] [3, 2, 1, 0] (fun us ws h1 h2 => match us, ws, h1, h2 with | [_], [_, _, _, _], _, _ => rfl) a_iCW l_iCW
  have K_X : KwI K CX ["self", "begin", "middle", "end", "worth"] ["worth", "end", "middle", "begin"] [3, 2, 1, 0] := kwI_mk ["worth", "end", "middle", "begin"] [3, 2, 1, 0] (fun us ws h1 h2 => match us, ws, h1, h2 with | [_], [_, _, _, _], _, _ => rfl) a_iCX l_iCX
  have K_D : KwI K CD ["self", "corner", "exchange"] ["exchange", "corner"] [1, 0] := kwI_mk ["exchange", "corner"] [1, 0] (fun us ws h1 h2 => match us, ws, h1, h2 with | [_], [_, _], _, _ => rfl) a_iCD l_iCD
  have K_O : KwI K CO ["self", "line", "order"] ["order", "line"] [1, 0] := kwI_mk ["order", "line"] [1, 0] (fun us ws h1 h2 => match us, ws, h1, h2 with | [_], [_, _], _, _ => rfl) a_iCO l_iCO
  have m_abs : mg "abs" = none := PySem.W.mg_none_of X G z_abs
  have m_bool : mg "bool" = none := PySem.W.mg_none_of X G z_bool
  have m_int : mg "int" = none := PySem.W.mg_none_of X G z_int
  have m_isinstance : mg "isinstance" = none := PySem.W.mg_none_of X G z_isinstance
  have m_len : mg "len" = none := PySem.W.mg_none_of X G z_len
  have m_list : mg "list" = none := PySem.W.mg_none_of X G z_list
  have m_range : mg "range" = none := PySem.W.mg_none_of X G z_range
  have m_set : mg "set" = none := PySem.W.mg_none_of X G z_set
  have m_tuple : mg "tuple" = none := PySem.W.mg_none_of X G z_tuple
  let R : Rp := ⟨K, fun x => if x = "Gate" then CG else if x = "Line" then CL else if x = "Exchange" then CX else if x = "Solved" then CO else if x = "Loose" then CV else if x = "Spread" then CW else CD⟩
  have hG : R.CA "Gate" = CG := rfl
  have hL : R.CA "Line" = CL := rfl
  have hX : R.CA "Exchange" = CX := rfl
  have hO : R.CA "Solved" = CO := rfl
  have hV : R.CA "Loose" = CV := rfl
  have hW : R.CA "Spread" = CW := rfl
  have hD : R.CA "Doubt" = CD := rfl
  have fG : FAok R "Gate" := by
    refine ⟨?_, ?_, ?_⟩ <;> rw [hG]
    · exact L_CG
    · exact n_CG_factor
    · exact n_CG_amount
  have fL : FAok R "Line" := by
    refine ⟨?_, ?_, ?_⟩ <;> rw [hL]
    · exact L_CL
    · exact n_CL_factor
    · exact n_CL_amount
  have fX : ExOk R := by
    refine ⟨?_, ?_, ?_, ?_, ?_⟩ <;> rw [hX]
    · exact L_CX
    · exact n_CX_begin
    · exact n_CX_middle
    · exact n_CX_end
    · exact n_CX_worth
  have TG : EqC R mg "Gate" := ⟨⟨PySem.W.mg_of X G a_CG, hd_CG, ty_CG⟩, fG, ha_CG, hm_CG, sp_get, tk_get⟩
  have nG : NeOk R.K (R.CA "Gate") := ⟨nn_CG, hm_CG⟩
  have TL : EqC R mg "Line" := ⟨⟨PySem.W.mg_of X G a_CL, hd_CL, ty_CL⟩, fL, ha_CL, hm_CL, sp_get, tk_get⟩
  have nL : NeOk R.K (R.CA "Line") := ⟨nn_CL, hm_CL⟩
  have TX : ClC R mg "Exchange" := ⟨⟨PySem.W.mg_of X G a_CX, hd_CX, ty_CX⟩, L_CX, ha_CX, hm_CX, sp_get, tk_get⟩
  have nX : NeOk R.K (R.CA "Exchange") := ⟨nn_CX, hm_CX⟩
  have TV : ClC R mg "Loose" := ⟨⟨PySem.W.mg_of X G a_CV, hd_CV, ty_CV⟩, L_CV, ha_CV, hm_CV, sp_get, tk_get⟩
  have nV : NeOk R.K (R.CA "Loose") := ⟨nn_CV, hm_CV⟩
  have TW : ClC R mg "Spread" := ⟨⟨PySem.W.mg_of X G a_CW, hd_CW, ty_CW⟩, L_CW, ha_CW, hm_CW, sp_get, tk_get⟩
  have nW : NeOk R.K (R.CA "Spread") := ⟨nn_CW, hm_CW⟩
  have TD : ClC R mg "Doubt" := ⟨⟨PySem.W.mg_of X G a_CD, hd_CD, ty_CD⟩, L_CD, ha_CD, hm_CD, sp_get, tk_get⟩
  have nD : NeOk R.K (R.CA "Doubt") := ⟨nn_CD, hm_CD⟩
  have TO : ClC R mg "Solved" := ⟨⟨PySem.W.mg_of X G a_CO, hd_CO, ty_CO⟩, L_CO, ha_CO, hm_CO, sp_get, tk_get⟩
  have nO : NeOk R.K (R.CA "Solved") := ⟨nn_CO, hm_CO⟩
  obtain ⟨cs, hcs⟩ : ∃ cs : List (Addr × Addr), cs = [(c_spread, P_spread), (c__law_equality_holds, P__law_equality_holds)] := ⟨_, rfl⟩
  refine ⟨PySem.W.fnOf "law" "law" (L2.defArgs s_law) (L2.defBody s_law) (L2.defScope s_law) .none kv_law dc_law pm_law an_law cd_law ct_law, cs, spLawT K cs, ?_, ?_, ?_, fun s u => .of_eq rfl, fun H a ns hl _ hT hS => ⟨a, ns, rfl, hS, hl, hT, fun _ => rfl⟩, fun base _ _ TBs => ?_⟩
  · rw [hcs]
    exact List.forall_mem_cons.mpr ⟨t_spread, List.forall_mem_cons.mpr ⟨t__law_equality_holds, fun _ z => nomatch z⟩⟩
  · rw [hcs]
    exact List.forall_mem_cons.mpr ⟨n_spread, List.forall_mem_cons.mpr ⟨n__law_equality_holds, fun _ z => nomatch z⟩⟩
  · rw [hcs]
    exact List.forall_mem_cons.mpr ⟨PySem.W.codeHd_of_K X h_spread, List.forall_mem_cons.mpr ⟨PySem.W.codeHd_of_K X h__law_equality_holds, fun _ z => nomatch z⟩⟩
  rw [hcs] at TBs
  have B_spread := TBs (c_spread, P_spread) (List.mem_cons_self ..)
  have B__law_equality_holds := TBs (c__law_equality_holds, P__law_equality_holds) (List.mem_cons_of_mem _ (List.mem_cons_self ..))
  have g1 := ok_gcd (P := l.prog) (w := w) (base := base) D_common_divisor
  have g2 := ok_low (R := R) rfl D_lowest g1
  have gE := ok_bci (P := l.prog) (w := w) (base := base) I_CE n_CE_what n_CE_count
  have g3 := ok_chk (R := R) rfl D_check_fraction (.inr ⟨_, v_N⟩) gE
  have g4 := ok_gate (R := R) rfl hG I_CG L_CG n_CG_factor n_CG_amount g3 g2 gE
  have gl := ok_Line (R := R) rfl hL I_CL L_CL n_CL_factor n_CL_amount g2
  have h2 := ok_isNum (P := l.prog) (w := w) (base := base) D_is_number m_isinstance m_int m_bool
  have h3 := ok_isOrd (R := R) rfl D_is_order m_len m_set h2
  have h4 := ok_chkO (R := R) rfl D_check_order m_len h3
  have x4 := ok_exch (R := R) rfl hX I_CX fX g2
  have s1 := ok_stepOf (P := l.prog) (w := w) (base := base) (R := R) rfl D_step_of
  have qG := ok_eqGate (P := l.prog) (w := w) (base := base) (R := R) rfl M_eG m_isinstance TG
  have qL := ok_eqLine (P := l.prog) (w := w) (base := base) (R := R) rfl M_eL m_isinstance TL
  have C0 := ok_rng (P := l.prog) (w := w) (base := base) D__law_rng m_abs
  have C1 := ok_drawC (P := l.prog) (w := w) (base := base) (R := R) rfl D__law_draw
  have C2 := ok_pickC (R := R) rfl D__law_pick m_len C1
  have C3 := ok_lowC (P := l.prog) (w := w) (base := base) (R := R) rfl D__law_fraction m_abs
  have C7 := ok_cell (P := l.prog) (w := w) (base := base) D__law_cell m_len
  have C8 := ok_madeC (R := R) rfl D__law_made g4
  have bl := ok_belowP (P := l.prog) (w := w) (base := base) (R := R) rfl D_below
  have bi := ok_belowI (P := l.prog) (w := w) (base := base) (R := R) rfl D_below
  have mn := ok_smaller (R := R) rfl D_smaller bl g2
  have mx := ok_greater (R := R) rfl D_greater bl g2
  have kl := ok_chkL (R := R) rfl D_check_loose ⟨_, v_MZ⟩ m_len gE
  have LO := (show LooOk R from ⟨L_CV, n_CV_low, n_CV_high⟩)
  have LS := (show SprOk R from ⟨L_CW, n_CW_least, n_CW_greatest, n_CW_low, n_CW_high⟩)
  have LD := (show DbtOk R from ⟨L_CD, n_CD_corner, n_CD_exchange⟩)
  have iL := ok_Loose (R := R) rfl hV fG I_CV L_CV n_CV_low n_CV_high g4 mn mx
  have iP := ok_Spread (R := R) rfl hW I_CW L_CW n_CW_least n_CW_greatest n_CW_low n_CW_high m_tuple g2
  have iD := ok_Doubt (P := l.prog) (w := w) (base := base) (R := R) rfl hD I_CD L_CD n_CD_corner n_CD_exchange m_tuple
  have iS := ok_Solved (P := l.prog) (w := w) (base := base) (R := R) rfl hO I_CO L_CO n_CO_line n_CO_order m_tuple
  have ov := ok_outerV (P := l.prog) (w := w) (base := base) (R := R) rfl D_outer_values
  have og := ok_outerG (R := R) rfl fG LO D_outer_gates ov g4
  have cn := ok_corners (R := R) rfl D_corners og
  have sf := ok_spreadOf (R := R) rfl D_spread_of cn bi iP
  have sp := ok_passedP (P := l.prog) (w := w) (base := base) (R := R) rfl D_passed
  have pa := ok_passAll (R := R) rfl fG D_passed_all s1 sp
  have sr := ok_spread (R := R) (T := [(P_spread, lamQ "spread"), (P__law_equality_holds, lamQ "_law_equality_holds")]) rfl D_spread B_spread (List.mem_cons_self ..) (fun p hp e => by rcases List.mem_cons.mp hp with rfl | hp; rfl; rcases List.mem_cons.mp hp with rfl | hp; exact absurd e.symm np_spread__law_equality_holds; cases hp) kl h4 sf pa
  have g9 := ok_rgate9 (R := R) rfl D__law_random_gate C1 C2 C3
  have le := ok_lessC (P := l.prog) (w := w) (base := base) (R := R) rfl D__law_less
  have qV := ok_eqLooV (R := R) rfl LO M_eV m_isinstance TV qG TG
  have qW := ok_eqSprV (R := R) rfl LS M_eW m_isinstance TW qG TG
  have qX := ok_eqXV (P := l.prog) (w := w) (base := base) (R := R) rfl M_eX m_isinstance TX fX
  have qD := ok_eqDbtV (R := R) rfl LD M_eD m_isinstance TD qG TG qX
  have qO := ok_eqSolV (R := R) rfl M_eO m_isinstance TO n_CO_line n_CO_order qL TL
  have oV := ok_eqLooO (P := l.prog) (w := w) (base := base) (R := R) rfl M_eV m_isinstance TV ⟨u2_CV_tuple, u2_CV_list, u2_CV_NoneType⟩
  have oW := ok_eqSprO (P := l.prog) (w := w) (base := base) (R := R) rfl M_eW m_isinstance TW ⟨u2_CW_tuple, u2_CW_list, u2_CW_NoneType⟩
  have oX := ok_eqExO (P := l.prog) (w := w) (base := base) (R := R) rfl M_eX m_isinstance TX ⟨u2_CX_tuple, u2_CX_list, u2_CX_NoneType⟩
  have oD := ok_eqDbtO (P := l.prog) (w := w) (base := base) (R := R) rfl M_eD m_isinstance TD ⟨u2_CD_tuple, u2_CD_list, u2_CD_NoneType⟩
  have oO := ok_eqSolO (P := l.prog) (w := w) (base := base) (R := R) rfl M_eO m_isinstance TO ⟨u2_CO_tuple, u2_CO_list, u2_CO_NoneType⟩
  have qC := ok_eqGateC (P := l.prog) (w := w) (base := base) (R := R) rfl M_eG m_isinstance TG
  have tVG := (show EqTo R "Gate" "Loose" from .inr ⟨by decide, (by rw [hV, hG]; exact ne_VG), s_CV_CG⟩)
  have lh := ok_looH (R := R) rfl LO D__law_loose_holds m_range g4 iL K_V le qG TG qC tVG TV qV oV nV (show NoSeq R.K (R.CA "Loose") from ⟨u1_CV_tuple, u1_CV_list, u1_CV_NoneType⟩)
  have rh := ok_resH (R := R) rfl LS D__law_results_hold iP K_W fX x4 K_X LD iD K_D L_CO n_CO_line n_CO_order iS K_O gl qL TL m_tuple qX nX qD nD qG TG qW nW
  have dW := ok_differ (R := R) (c := "Spread") (d := spT) (fl := fun t => [("least", frac t.1), ("greatest", frac t.2.1), ("low", .tup (t.2.2.1.map gD)), ("high", .tup (t.2.2.2.map gD))]) (fun _ => rfl) rfl D__law_differ m_list m_range m_len m_tuple qW oW nW (show NoSeq R.K (R.CA "Spread") from ⟨u1_CW_tuple, u1_CW_list, u1_CW_NoneType⟩)
  have dX := ok_differ (R := R) (c := "Exchange") (d := exT) (fl := exF) (fun _ => rfl) rfl D__law_differ m_list m_range m_len m_tuple (qX.mono4) oX nX (show NoSeq R.K (R.CA "Exchange") from ⟨u1_CX_tuple, u1_CX_list, u1_CX_NoneType⟩)
  have dD := ok_differ (R := R) (c := "Doubt") (d := dbT) (fl := fun t => [("corner", .tup (t.1.map gD)), ("exchange", exT t.2)]) (fun _ => rfl) rfl D__law_differ m_list m_range m_len m_tuple qD oD nD (show NoSeq R.K (R.CA "Doubt") from ⟨u1_CD_tuple, u1_CD_list, u1_CD_NoneType⟩)
  have dO := ok_differ (R := R) (c := "Solved") (d := solD) (fl := fun t => [("line", faD "Line" t.1.1 t.1.2), ("order", .tup (t.2.map D.int))]) (fun _ => rfl) rfl D__law_differ m_list m_range m_len m_tuple (qO.mono4) oO nO (show NoSeq R.K (R.CA "Solved") from ⟨u1_CO_tuple, u1_CO_list, u1_CO_NoneType⟩)
  have eh := ok_eqH (R := R) (T := [(P_spread, lamQ "spread"), (P__law_equality_holds, lamQ "_law_equality_holds")]) rfl D__law_equality_holds B__law_equality_holds (List.mem_cons_of_mem _ (List.mem_cons_self ..)) (fun p hp e => by rcases List.mem_cons.mp hp with rfl | hp; exact absurd e np_spread__law_equality_holds; rcases List.mem_cons.mp hp with rfl | hp; rfl; cases hp) g4 x4 iP iD iS gl dW dX dD dO
  exact ok_law (R := R) (T := [(P_spread, lamQ "spread"), (P__law_equality_holds, lamQ "_law_equality_holds")]) (by rw [hcs]; intro x hx; simp only [List.mem_cons, List.not_mem_nil, or_false] at hx ⊢; rcases hx with rfl | rfl <;> simp) rfl fG F_law C7 C0 g9 lh C8 iP iL sr qW nW rh eh
end BR

open PySem PySem.W PyProof.Rows in
set_option maxRecDepth 100000 in
set_option maxHeartbeats 0 in
theorem PySem.Challenge.cw_bestround_k36_loose_gates_and_results_holds : PySem.Challenge.rw_bestround_k36_loose_gates_and_results.Holds := by
  w_on; o_law; k_head; (case hw => w_witness2)
  k_fill
  refine LamX.walk_ofTs (l := PySem.Challenge.rw_bestround_k36_loose_gates_and_results) (n := 63) (k := 11) (x := "_law_script") (CX := fun w => L2.CX PySem.Challenge.rw_bestround_k36_loose_gates_and_results.prog w) rfl (by decide) rfl ⟨rfl, by decide, by decide⟩ (fun w h Y => PySem.W.km_in_of Y) ?F BR.cx_never
  case F =>
    intro w mg fa h Y KX G hmg
    refine' BR.all_mk KX G hmg ?a_CB ?hd_CB ?ty_CB ?a_CE ?xl_CE ?rb_CE ?sa_CE ?ga_CE ?gg_CE ?eb_CE ?ty_CE ?kc_CE ?hd_CE ?ha_CE ?hm_CE ?sp_get ?tk_get ?a_iCE ?t_iCE ?l_iCE ?c_iCE ?k_iCE ?n_CE_what ?n_CE_count ?a_CN ?xl_CN ?rb_CN ?sa_CN ?ga_CN ?gg_CN ?eb_CN ?ty_CN ?kc_CN ?hd_CN ?ha_CN ?hm_CN ?xq_CN ?s_CE_CE ?s_CE_CN ?s_CN_CE ?s_CN_CN ?ex_CE ?ex_CN ?ne_EN ?a_CG ?pg_CG ?hd_CG ?po_CG ?sa_CG ?mk_CG ?kc_CG ?a_iCG ?i_iCG ?l_iCG ?c_iCG ?k_iCG ?n_CG_factor ?n_CG_amount ?a_CL ?pg_CL ?hd_CL ?po_CL ?sa_CL ?mk_CL ?kc_CL ?a_iCL ?i_iCL ?l_iCL ?c_iCL ?k_iCL ?n_CL_factor ?n_CL_amount ?a_CX ?pg_CX ?hd_CX ?po_CX ?sa_CX ?mk_CX ?kc_CX ?a_iCX ?i_iCX ?l_iCX ?c_iCX ?k_iCX ?n_CX_begin ?n_CX_middle ?n_CX_end ?n_CX_worth ?a_CO ?pg_CO ?hd_CO ?po_CO ?sa_CO ?mk_CO ?kc_CO ?a_iCO ?i_iCO ?l_iCO ?c_iCO ?k_iCO ?n_CO_line ?n_CO_order ?a_CV ?pg_CV ?hd_CV ?po_CV ?sa_CV ?mk_CV ?kc_CV ?a_iCV ?i_iCV ?l_iCV ?c_iCV ?k_iCV ?n_CV_low ?n_CV_high ?a_CW ?pg_CW ?hd_CW ?po_CW ?sa_CW ?mk_CW ?kc_CW ?a_iCW ?i_iCW ?l_iCW ?c_iCW ?k_iCW ?n_CW_least ?n_CW_greatest ?n_CW_low ?n_CW_high ?a_CD ?pg_CD ?hd_CD ?po_CD ?sa_CD ?mk_CD ?kc_CD ?a_iCD ?i_iCD ?l_iCD ?c_iCD ?k_iCD ?n_CD_corner ?n_CD_exchange ?ty_CG ?ha_CG ?hm_CG ?a_eG ?i_eG ?l_eG ?c_eG ?k_eG ?nn_CG ?ty_CL ?ha_CL ?hm_CL ?a_eL ?i_eL ?l_eL ?c_eL ?k_eL ?nn_CL ?ty_CX ?ha_CX ?hm_CX ?a_eX ?i_eX ?l_eX ?c_eX ?k_eX ?nn_CX ?ty_CV ?ha_CV ?hm_CV ?a_eV ?i_eV ?l_eV ?c_eV ?k_eV ?nn_CV ?ty_CW ?ha_CW ?hm_CW ?a_eW ?i_eW ?l_eW ?c_eW ?k_eW ?nn_CW ?ty_CD ?ha_CD ?hm_CD ?a_eD ?i_eD ?l_eD ?c_eD ?k_eD ?nn_CD ?ty_CO ?ha_CO ?hm_CO ?a_eO ?i_eO ?l_eO ?c_eO ?k_eO ?nn_CO ?g_N ?a_check_fraction ?l_check_fraction ?c_check_fraction ?k_check_fraction ?a_check_loose ?l_check_loose ?c_check_loose ?k_check_loose ?a_is_number ?l_is_number ?c_is_number ?k_is_number ?a_is_order ?l_is_order ?c_is_order ?k_is_order ?a_check_order ?l_check_order ?c_check_order ?k_check_order ?a_common_divisor ?l_common_divisor ?c_common_divisor ?k_common_divisor ?a_lowest ?l_lowest ?c_lowest ?k_lowest ?a_below ?l_below ?c_below ?k_below ?a_smaller ?l_smaller ?c_smaller ?k_smaller ?a_greater ?l_greater ?c_greater ?k_greater ?a_step_of ?l_step_of ?c_step_of ?k_step_of ?a_passed ?l_passed ?c_passed ?k_passed ?a_passed_all ?l_passed_all ?c_passed_all ?k_passed_all ?a_outer_values ?l_outer_values ?c_outer_values ?k_outer_values ?a_outer_gates ?l_outer_gates ?c_outer_gates ?k_outer_gates ?a_corners ?l_corners ?c_corners ?k_corners ?a_spread_of ?l_spread_of ?c_spread_of ?k_spread_of ?a_spread ?l_spread ?c_spreadq ?k_spread ?q_spread ?v_spread ?h_spread ?n_spread ?t_spread ?a__law_cell ?l__law_cell ?c__law_cell ?k__law_cell ?a__law_rng ?l__law_rng ?c__law_rng ?k__law_rng ?a__law_draw ?l__law_draw ?c__law_draw ?k__law_draw ?a__law_pick ?l__law_pick ?c__law_pick ?k__law_pick ?a__law_fraction ?l__law_fraction ?c__law_fraction ?k__law_fraction ?a__law_random_gate ?l__law_random_gate ?c__law_random_gate ?k__law_random_gate ?a__law_made ?l__law_made ?c__law_made ?k__law_made ?a__law_less ?l__law_less ?c__law_less ?k__law_less ?a__law_loose_holds ?l__law_loose_holds ?c__law_loose_holds ?k__law_loose_holds ?a__law_differ ?l__law_differ ?c__law_differ ?k__law_differ ?a__law_results_hold ?l__law_results_hold ?c__law_results_hold ?k__law_results_hold ?a__law_equality_holds ?l__law_equality_holds ?c__law_equality_holdsq ?k__law_equality_holds ?q__law_equality_holds ?v__law_equality_holds ?h__law_equality_holds ?n__law_equality_holds ?t__law_equality_holds ?a_law ?l_law ?c_law ?k_law ?np_spread__law_equality_holds ?g_MZ ?s_CV_CG ?ne_VG ?u1_CV_tuple ?u2_CV_tuple ?u1_CV_list ?u2_CV_list ?u1_CV_NoneType ?u2_CV_NoneType ?u1_CW_tuple ?u2_CW_tuple ?u1_CW_list ?u2_CW_list ?u1_CW_NoneType ?u2_CW_NoneType ?u1_CD_tuple ?u2_CD_tuple ?u1_CD_list ?u2_CD_list ?u1_CD_NoneType ?u2_CD_NoneType ?u1_CO_tuple ?u2_CO_tuple ?u1_CO_list ?u2_CO_list ?u1_CO_NoneType ?u2_CO_NoneType ?u1_CX_tuple ?u2_CX_tuple ?u1_CX_list ?u2_CX_list ?u1_CX_NoneType ?u2_CX_NoneType ?z_abs ?z_bool ?z_int ?z_isinstance ?z_len ?z_list ?z_range ?z_set ?z_tuple
    (case a_CB => k_is)
    (case hd_CB => k_is)
    (case ty_CB => k_is)
    (case a_CE => k_is)
    (case xl_CE => k_is)
    (case rb_CE => decide +kernel)
    (case sa_CE => k_is)
    (case ga_CE => k_is)
    (case gg_CE => k_is)
    (case eb_CE => k_is)
    (case ty_CE => k_is)
    (case kc_CE => k_is)
    (case hd_CE => k_is)
    (case ha_CE => k_is)
    (case hm_CE => k_is)
    (case sp_get => k_is)
    (case tk_get => k_is)
    (case a_iCE => k_is)
    (case t_iCE => k_is)
    (case l_iCE => k_is)
    (case c_iCE => k_is)
    (case k_iCE => k_is)
    (case n_CE_what => k_is)
    (case n_CE_count => k_is)
    (case a_CN => k_is)
    (case xl_CN => k_is)
    (case rb_CN => decide +kernel)
    (case sa_CN => k_is)
    (case ga_CN => k_is)
    (case gg_CN => k_is)
    (case eb_CN => k_is)
    (case ty_CN => k_is)
    (case kc_CN => k_is)
    (case hd_CN => k_is)
    (case ha_CN => k_is)
    (case hm_CN => k_is)
    (case xq_CN => first | kernel_rfl | rfl)
    (case s_CE_CE => first | rfl | k_is)
    (case s_CE_CN => first | rfl | k_is)
    (case s_CN_CE => first | rfl | k_is)
    (case s_CN_CN => first | rfl | k_is)
    (case ex_CE => first | kernel_rfl | rfl)
    (case ex_CN => first | kernel_rfl | rfl)
    (case ne_EN => decide)
    (case a_CG => k_is)
    (case pg_CG => k_is)
    (case hd_CG => k_is)
    (case po_CG => k_is)
    (case sa_CG => k_is)
    (case mk_CG => k_is)
    (case kc_CG => k_is)
    (case a_iCG => k_is)
    (case i_iCG => k_is)
    (case l_iCG => k_is)
    (case c_iCG => k_is)
    (case k_iCG => k_is)
    (case n_CG_factor => k_is)
    (case n_CG_amount => k_is)
    (case a_CL => k_is)
    (case pg_CL => k_is)
    (case hd_CL => k_is)
    (case po_CL => k_is)
    (case sa_CL => k_is)
    (case mk_CL => k_is)
    (case kc_CL => k_is)
    (case a_iCL => k_is)
    (case i_iCL => k_is)
    (case l_iCL => k_is)
    (case c_iCL => k_is)
    (case k_iCL => k_is)
    (case n_CL_factor => k_is)
    (case n_CL_amount => k_is)
    (case a_CX => k_is)
    (case pg_CX => k_is)
    (case hd_CX => k_is)
    (case po_CX => k_is)
    (case sa_CX => k_is)
    (case mk_CX => k_is)
    (case kc_CX => k_is)
    (case a_iCX => k_is)
    (case i_iCX => k_is)
    (case l_iCX => k_is)
    (case c_iCX => k_is)
    (case k_iCX => k_is)
    (case n_CX_begin => k_is)
    (case n_CX_middle => k_is)
    (case n_CX_end => k_is)
    (case n_CX_worth => k_is)
    (case a_CO => k_is)
    (case pg_CO => k_is)
    (case hd_CO => k_is)
    (case po_CO => k_is)
    (case sa_CO => k_is)
    (case mk_CO => k_is)
    (case kc_CO => k_is)
    (case a_iCO => k_is)
    (case i_iCO => k_is)
    (case l_iCO => k_is)
    (case c_iCO => k_is)
    (case k_iCO => k_is)
    (case n_CO_line => k_is)
    (case n_CO_order => k_is)
    (case a_CV => k_is)
    (case pg_CV => k_is)
    (case hd_CV => k_is)
    (case po_CV => k_is)
    (case sa_CV => k_is)
    (case mk_CV => k_is)
    (case kc_CV => k_is)
    (case a_iCV => k_is)
    (case i_iCV => k_is)
    (case l_iCV => k_is)
    (case c_iCV => k_is)
    (case k_iCV => k_is)
    (case n_CV_low => k_is)
    (case n_CV_high => k_is)
    (case a_CW => k_is)
    (case pg_CW => k_is)
    (case hd_CW => k_is)
    (case po_CW => k_is)
    (case sa_CW => k_is)
    (case mk_CW => k_is)
    (case kc_CW => k_is)
    (case a_iCW => k_is)
    (case i_iCW => k_is)
    (case l_iCW => k_is)
    (case c_iCW => k_is)
    (case k_iCW => k_is)
    (case n_CW_least => k_is)
    (case n_CW_greatest => k_is)
    (case n_CW_low => k_is)
    (case n_CW_high => k_is)
    (case a_CD => k_is)
    (case pg_CD => k_is)
    (case hd_CD => k_is)
    (case po_CD => k_is)
    (case sa_CD => k_is)
    (case mk_CD => k_is)
    (case kc_CD => k_is)
    (case a_iCD => k_is)
    (case i_iCD => k_is)
    (case l_iCD => k_is)
    (case c_iCD => k_is)
    (case k_iCD => k_is)
    (case n_CD_corner => k_is)
    (case n_CD_exchange => k_is)
    (case ty_CG => k_is)
    (case ha_CG => k_is)
    (case hm_CG => k_is)
    (case a_eG => k_is)
    (case i_eG => k_is)
    (case l_eG => k_is)
    (case c_eG => k_is)
    (case k_eG => k_is)
    (case nn_CG => k_is)
    (case ty_CL => k_is)
    (case ha_CL => k_is)
    (case hm_CL => k_is)
    (case a_eL => k_is)
    (case i_eL => k_is)
    (case l_eL => k_is)
    (case c_eL => k_is)
    (case k_eL => k_is)
    (case nn_CL => k_is)
    (case ty_CX => k_is)
    (case ha_CX => k_is)
    (case hm_CX => k_is)
    (case a_eX => k_is)
    (case i_eX => k_is)
    (case l_eX => k_is)
    (case c_eX => k_is)
    (case k_eX => k_is)
    (case nn_CX => k_is)
    (case ty_CV => k_is)
    (case ha_CV => k_is)
    (case hm_CV => k_is)
    (case a_eV => k_is)
    (case i_eV => k_is)
    (case l_eV => k_is)
    (case c_eV => k_is)
    (case k_eV => k_is)
    (case nn_CV => k_is)
    (case ty_CW => k_is)
    (case ha_CW => k_is)
    (case hm_CW => k_is)
    (case a_eW => k_is)
    (case i_eW => k_is)
    (case l_eW => k_is)
    (case c_eW => k_is)
    (case k_eW => k_is)
    (case nn_CW => k_is)
    (case ty_CD => k_is)
    (case ha_CD => k_is)
    (case hm_CD => k_is)
    (case a_eD => k_is)
    (case i_eD => k_is)
    (case l_eD => k_is)
    (case c_eD => k_is)
    (case k_eD => k_is)
    (case nn_CD => k_is)
    (case ty_CO => k_is)
    (case ha_CO => k_is)
    (case hm_CO => k_is)
    (case a_eO => k_is)
    (case i_eO => k_is)
    (case l_eO => k_is)
    (case c_eO => k_is)
    (case k_eO => k_is)
    (case nn_CO => k_is)
    (case g_N => k_is)
    (case a_check_fraction => k_is)
    (case l_check_fraction => k_is)
    (case c_check_fraction => k_is)
    (case k_check_fraction => k_is)
    (case a_check_loose => k_is)
    (case l_check_loose => k_is)
    (case c_check_loose => k_is)
    (case k_check_loose => k_is)
    (case a_is_number => k_is)
    (case l_is_number => k_is)
    (case c_is_number => k_is)
    (case k_is_number => k_is)
    (case a_is_order => k_is)
    (case l_is_order => k_is)
    (case c_is_order => k_is)
    (case k_is_order => k_is)
    (case a_check_order => k_is)
    (case l_check_order => k_is)
    (case c_check_order => k_is)
    (case k_check_order => k_is)
    (case a_common_divisor => k_is)
    (case l_common_divisor => k_is)
    (case c_common_divisor => k_is)
    (case k_common_divisor => k_is)
    (case a_lowest => k_is)
    (case l_lowest => k_is)
    (case c_lowest => k_is)
    (case k_lowest => k_is)
    (case a_below => k_is)
    (case l_below => k_is)
    (case c_below => k_is)
    (case k_below => k_is)
    (case a_smaller => k_is)
    (case l_smaller => k_is)
    (case c_smaller => k_is)
    (case k_smaller => k_is)
    (case a_greater => k_is)
    (case l_greater => k_is)
    (case c_greater => k_is)
    (case k_greater => k_is)
    (case a_step_of => k_is)
    (case l_step_of => k_is)
    (case c_step_of => k_is)
    (case k_step_of => k_is)
    (case a_passed => k_is)
    (case l_passed => k_is)
    (case c_passed => k_is)
    (case k_passed => k_is)
    (case a_passed_all => k_is)
    (case l_passed_all => k_is)
    (case c_passed_all => k_is)
    (case k_passed_all => k_is)
    (case a_outer_values => k_is)
    (case l_outer_values => k_is)
    (case c_outer_values => k_is)
    (case k_outer_values => k_is)
    (case a_outer_gates => k_is)
    (case l_outer_gates => k_is)
    (case c_outer_gates => k_is)
    (case k_outer_gates => k_is)
    (case a_corners => k_is)
    (case l_corners => k_is)
    (case c_corners => k_is)
    (case k_corners => k_is)
    (case a_spread_of => k_is)
    (case l_spread_of => k_is)
    (case c_spread_of => k_is)
    (case k_spread_of => k_is)
    (case a_spread => k_is)
    (case l_spread => k_is)
    (case c_spreadq => k_is)
    (case k_spread => k_is)
    (case q_spread => k_is)
    (case v_spread => rfl)
    (case h_spread => first | kernel_rfl | rfl)
    (case n_spread => first | kernel_rfl | rfl)
    (case t_spread => exact PySem.W.km_tabs_of Y _ (by k_mem))
    (case a__law_cell => k_is)
    (case l__law_cell => k_is)
    (case c__law_cell => k_is)
    (case k__law_cell => k_is)
    (case a__law_rng => k_is)
    (case l__law_rng => k_is)
    (case c__law_rng => k_is)
    (case k__law_rng => k_is)
    (case a__law_draw => k_is)
    (case l__law_draw => k_is)
    (case c__law_draw => k_is)
    (case k__law_draw => k_is)
    (case a__law_pick => k_is)
    (case l__law_pick => k_is)
    (case c__law_pick => k_is)
    (case k__law_pick => k_is)
    (case a__law_fraction => k_is)
    (case l__law_fraction => k_is)
    (case c__law_fraction => k_is)
    (case k__law_fraction => k_is)
    (case a__law_random_gate => k_is)
    (case l__law_random_gate => k_is)
    (case c__law_random_gate => k_is)
    (case k__law_random_gate => k_is)
    (case a__law_made => k_is)
    (case l__law_made => k_is)
    (case c__law_made => k_is)
    (case k__law_made => k_is)
    (case a__law_less => k_is)
    (case l__law_less => k_is)
    (case c__law_less => k_is)
    (case k__law_less => k_is)
    (case a__law_loose_holds => k_is)
    (case l__law_loose_holds => k_is)
    (case c__law_loose_holds => k_is)
    (case k__law_loose_holds => k_is)
    (case a__law_differ => k_is)
    (case l__law_differ => k_is)
    (case c__law_differ => k_is)
    (case k__law_differ => k_is)
    (case a__law_results_hold => k_is)
    (case l__law_results_hold => k_is)
    (case c__law_results_hold => k_is)
    (case k__law_results_hold => k_is)
    (case a__law_equality_holds => k_is)
    (case l__law_equality_holds => k_is)
    (case c__law_equality_holdsq => k_is)
    (case k__law_equality_holds => k_is)
    (case q__law_equality_holds => k_is)
    (case v__law_equality_holds => rfl)
    (case h__law_equality_holds => first | kernel_rfl | rfl)
    (case n__law_equality_holds => first | kernel_rfl | rfl)
    (case t__law_equality_holds => exact PySem.W.km_tabs_of Y _ (by k_mem))
    (case a_law => k_is)
    (case l_law => k_is)
    (case c_law => k_is)
    (case k_law => k_is)
    (case np_spread__law_equality_holds => decide)
    (case g_MZ => k_is)
    (case s_CV_CG => first | rfl | k_is)
    (case ne_VG => decide)
    (case u1_CV_tuple => first | rfl | k_is)
    (case u2_CV_tuple => first | rfl | k_is)
    (case u1_CV_list => first | rfl | k_is)
    (case u2_CV_list => first | rfl | k_is)
    (case u1_CV_NoneType => first | rfl | k_is)
    (case u2_CV_NoneType => first | rfl | k_is)
    (case u1_CW_tuple => first | rfl | k_is)
    (case u2_CW_tuple => first | rfl | k_is)
    (case u1_CW_list => first | rfl | k_is)
    (case u2_CW_list => first | rfl | k_is)
    (case u1_CW_NoneType => first | rfl | k_is)
    (case u2_CW_NoneType => first | rfl | k_is)
    (case u1_CD_tuple => first | rfl | k_is)
    (case u2_CD_tuple => first | rfl | k_is)
    (case u1_CD_list => first | rfl | k_is)
    (case u2_CD_list => first | rfl | k_is)
    (case u1_CD_NoneType => first | rfl | k_is)
    (case u2_CD_NoneType => first | rfl | k_is)
    (case u1_CO_tuple => first | rfl | k_is)
    (case u2_CO_tuple => first | rfl | k_is)
    (case u1_CO_list => first | rfl | k_is)
    (case u2_CO_list => first | rfl | k_is)
    (case u1_CO_NoneType => first | rfl | k_is)
    (case u2_CO_NoneType => first | rfl | k_is)
    (case u1_CX_tuple => first | rfl | k_is)
    (case u2_CX_tuple => first | rfl | k_is)
    (case u1_CX_list => first | rfl | k_is)
    (case u2_CX_list => first | rfl | k_is)
    (case u1_CX_NoneType => first | rfl | k_is)
    (case u2_CX_NoneType => first | rfl | k_is)
    (case z_abs => k_is)
    (case z_bool => k_is)
    (case z_int => k_is)
    (case z_isinstance => k_is)
    (case z_len => k_is)
    (case z_list => k_is)
    (case z_range => k_is)
    (case z_set => k_is)
    (case z_tuple => k_is)
