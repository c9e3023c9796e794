import PyProof.Rows.All
import Wide.All
import OpenK.AllK
import Wide.FinOn
import Open.SpecLaws
import KE.OsGo
import HandS.ForSpec
import HandS.ForMost
import PyProof.AutoSeq1
import HandS.ExcField
import HandS.Lambda
import HandS.ExcInit
import HandS.Words
import KE.KExcInit
import HandS.Exc
import KE.GoesComp
import HandS.CallLocal
import HandS.Text
import HandS.Codes
import HandS.Spec
import HandS.More
import HandS.Steps
import HandS.IsInst
import KE.KIntText
import PySem.Challenge.RW_blocktrees_s20_difference
set_option Elab.async false
set_option maxRecDepth 100000
set_option maxHeartbeats 2000000
set_option linter.all false
namespace Bt
open PySem PySem.Spec PyProof.Rows L2
/-! own words over the layer -/
structure OwnOk (P : Program) (w : World) (K : PySem.W.Frag) (mg : Str → Option Value) (base : Heap) (CX : CXT) (k : Nat) (x : Str) (ps : List Str) (sp : Sp) : Prop where
  ex : ∃ f fd, mg x = some (.ref f) ∧ PySem.W.keepIn K (.ref f) = true ∧ Binds K fd ps [] ∧ FnOk P w K mg base CX k f fd ps sp
theorem pe_own {X : Cx} {CX : CXT} {k : Nat} {x : Str} {ps : List Str} {sp : Sp} {E : XK} {p pos : Pos} {e : Expr} {es : List Expr} {t : TA} (O : OwnOk X.prog X.w X.K X.mg X.base CX k x ps sp) (hr : Room k X.A) (hg : Gl X x) (hx : Passes CX X E) (ha : PA X (e :: es) t)
    (hdb : (x == ("__debug__" : Str)) = false := by decide) (he : starEach (e :: es) X.env = (false, eval e X.env) :: starEach es X.env := by rfl) (hpl : (backTo pos (starEach es X.env)).any (·.1) = false := by rfl) : PE X (.Call (.Name x p) (e :: es) [] pos) (tCall sp [] E t) := by
  obtain ⟨f, fd, hm, hk, hb, F⟩ := O.ex
  exact pe_call F hr hg hm hk hb .nil hx ha hdb he hpl
/-- a def of the text at its place -/
structure Dn (K : PySem.W.Frag) (mg : Str → Option Value) (x : Str) (st : Stmt) (ps : List Str) : Prop where
  ex : ∃ f fd, mg x = some (.ref f) ∧ Fun K x x st f fd ∧ Binds K fd ps []
section
variable {P : Program} {w : World} {K : PySem.W.Frag} {mg : Str → Option Value} {base : Heap}
theorem own_ok {x : Str} {st : Stmt} {N ps : List Str} {k : Nat} {sp : Sp} (D : Dn K mg x st ps) (S : FnScope N ps (defScope st)) (len : ∀ vs H Q E, sp vs H Q E → vs.length = ps.length)
    (hbody : ∀ (f : Addr) (cdv : Value) (A : Around) (outer : List Env) (s : Shared) (H : Hp) (vs : List V) (Q : VK) (E : XK), Room k (A.deeper (envOfC x (defScope st) s.heap.objs.size f cdv)) → sp vs H Q E →
      ∃ t, PSs (cxOf CX0 P w K mg base N x (defScope st) f cdv A outer s H E).nox (defBody st) t ∧ t { nx := fun _ H' => Q .non H', rt := Q } (start N vs) H) : OwnOk P w K mg base CX0 (k + 1) x ps sp := by
  obtain ⟨f, fd, hm, F, hb⟩ := D.ex
  exact ⟨f, fd, hm, F.kp, hb, F.ok S len (hbody f)⟩
theorem own_fn {x : Str} {st : Stmt} {N ps : List Str} {k : Nat} {sp : Sp} {f : Addr} {fd : FuncData} (F : Fun K x x st f fd) (S : FnScope N ps (defScope st)) (len : ∀ vs H Q E, sp vs H Q E → vs.length = ps.length)
    (hbody : ∀ (f : Addr) (cdv : Value) (A : Around) (outer : List Env) (s : Shared) (H : Hp) (vs : List V) (Q : VK) (E : XK), Room k (A.deeper (envOfC x (defScope st) s.heap.objs.size f cdv)) → sp vs H Q E →
      ∃ t, PSs (cxOf CX0 P w K mg base N x (defScope st) f cdv A outer s H E).nox (defBody st) t ∧ t { nx := fun _ H' => Q .non H', rt := Q } (start N vs) H) : FnOk P w K mg base CX0 (k + 1) f fd ps sp := F.ok S len (hbody f)
theorem dn_mk {h : Heap} (X : K.In h) (G : h.Ns mainGlobals mg) {x : Str} {st : Stmt} {ps : List Str} {f : Addr} {oc : Value} {od an : Option Addr} {osl : Array (Option Value)} {kV doc pm cdv ct : Value}
    (a : PySem.W.nsIn K mainGlobals x = some (some (.ref f))) (l : K.lookup f = some ⟨oc, od, .func (PySem.W.fnOf x x (defArgs st) (defBody st) (defScope st) .none kV doc pm an cdv ct), osl⟩)
    (c : PySem.W.codeIn K cdv x = true) (k : PySem.W.keepIn K (.ref f) = true)
    (b : ∀ (kV doc pm : Value) (an : Option Addr) (cdv ct : Value) (us : List Value), us.length = ps.length → bindArgs (PySem.W.fnOf x x (defArgs st) (defBody st) (defScope st) .none kV doc pm an cdv ct) ⟨us, []⟩ = pure (ps.zip us)) : Dn K mg x st ps :=
  ⟨f, _, PySem.W.mg_of X G a, fun_mk l c k, (fun_mk l c k).binds b⟩
end
/-- a constant of the module -/
def IsC (mg : Str → Option Value) (x : Str) (v : V) : Prop := ∃ u, mg x = some u ∧ RelV v u
theorem pe_cst {X : Cx} {x : Str} {v : V} {pos : Pos} (hg : Gl X x) (c : IsC X.mg x v) (hd : (x == ("__debug__" : Str)) = false := by decide) : PE X (.Name x pos) (tC v) := by
  obtain ⟨u, hm, r⟩ := c
  exact pe_glob hg hm r hd
theorem same_new {H : Hp} {p : Addr} {o : HO} (h : H p = none) : Same H (upd H p o) := fun b x e => by
  rw [upd_ne (ne_of_none e h)]
  exact e
/-- lists of small numbers -/
abbrev iV (l : List Int) : List V := l.map V.int
/-! ### promises -/
def sp1B (f : Int → Bool) : Sp := fun vs H Q _ => ∃ i : Int, vs = [.int i] ∧ ∀ H', Same H H' → Q (.bl (f i)) H'
def sp1I (f : Int → Int) : Sp := fun vs H Q _ => ∃ i : Int, vs = [.int i] ∧ ∀ H', Same H H' → Q (.int (f i)) H'
theorem len1B {f : Int → Bool} {vs H Q E} (h : sp1B f vs H Q E) : vs.length = 1 := by
  obtain ⟨i, rfl, _⟩ := h
  rfl
theorem len1I {f : Int → Int} {vs H Q E} (h : sp1I f vs H Q E) : vs.length = 1 := by
  obtain ⟨i, rfl, _⟩ := h
  rfl

theorem pe_imp {X : Cx} {e : Expr} {t t' : TE} (h : PE X e t) (i : ∀ σ H Q, t' σ H Q → t σ H Q) : PE X e t' := ⟨fun pins s σ H Q I q => h.run pins s σ H Q I (i σ H Q q)⟩
theorem pt_imp {X : Cx} {e : Expr} {t t' : TT} (h : PT X e t) (i : ∀ σ H Q, t' σ H Q → t σ H Q) : PT X e t' := ⟨fun pins s σ H Q I q => h.run pins s σ H Q I (i σ H Q q)⟩
/-- ord of a written sign -/
theorem pe_ordL {X : Cx} {x : Str} {j : Nat} {p p' pos : Pos} (n : Nat) (hm : X.mg "ord" = none) (hg : Gl X "ord" := by rfl) (hx : x.length = 1 := by decide +kernel) (hn : x.cps.getD 0 0 = n := by decide +kernel) : PE X (.Call (.Name "ord" p) [.Constant (.str x) j p'] [] pos) (tC (.int (n : Int))) :=
  pe_imp (pe_callB call_ord hg hm (by decide +kernel) (pa_cons pe_str pa_nil)) fun _ _ _ q => ⟨x, rfl, hx, by rw [hn]; exact q⟩
/-- a ≤ x ≤ b, a and b written -/
def tRng (a b : Int) (t : TE) : TE := fun σ H Q => t σ H fun x H1 => ∃ i, x = .int i ∧ Q (.bl (decide (a ≤ i) && decide (i ≤ b))) H1
theorem pe_rng {X : Cx} {a b : Int} {ea e eb : Expr} {t : TE} {pos : Pos} (ha : PE X ea (tC (.int a))) (he : PE X e t) (hb : PE X eb (tC (.int b))) (hm : lastMarks [.LtE, .LtE] [e, eb] = false := by with_unfolding_all rfl) (mono : ∀ σ H Q Q', (∀ x H', Q x H' → Q' x H') → t σ H Q → t σ H Q') : PE X (.Compare ea [.LtE, .LtE] [e, eb] pos) (tRng a b t) :=
  pe_imp (pe_chain op_le op_le ha he hb hm) fun σ H Q q => mono _ _ _ _ (fun x H' ⟨i, e, q⟩ => by
    subst e
    refine ⟨a, i, rfl, rfl, _, rfl, ?_⟩
    by_cases c : a ≤ i
    · rw [decide_eq_true c] at q ⊢
      rw [if_pos rfl]
      exact ⟨i, b, rfl, rfl, q⟩
    · rw [decide_eq_false c] at q ⊢
      rw [if_neg (by decide)]
      exact q) q
theorem mono_var {i : Nat} : ∀ σ H (Q Q' : VK), (∀ x H', Q x H' → Q' x H') → tVar i σ H Q → tVar i σ H Q' := fun _ _ _ _ k ⟨v, e, q⟩ => ⟨v, e, k _ _ q⟩
theorem pt_rng {X : Cx} {a b : Int} {ea e eb : Expr} {t : TE} {pos : Pos} (ha : PE X ea (tC (.int a))) (he : PE X e t) (hb : PE X eb (tC (.int b))) (hm : lastMarks [.LtE, .LtE] [e, eb] = false := by with_unfolding_all rfl) (mono : ∀ σ H Q Q', (∀ x H', Q x H' → Q' x H') → t σ H Q → t σ H Q') : PT X (.Compare ea [.LtE, .LtE] [e, eb] pos) (tTest (tRng a b t)) :=
  pt_imp (pt_chain op_le op_le ha he hb hm) fun σ H Q q => mono _ _ _ _ (fun x H' ⟨i, e, q⟩ => by
    subst e
    obtain ⟨k, e, q⟩ := q
    cases e
    refine ⟨a, i, rfl, rfl, _, rfl, ?_⟩
    by_cases c : a ≤ i
    · rw [decide_eq_true c] at q ⊢
      rw [if_pos rfl]
      exact ⟨i, b, rfl, rfl, _, rfl, q⟩
    · rw [decide_eq_false c] at q ⊢
      rw [if_neg (by decide)]
      exact ⟨_, rfl, q⟩) q
/-! promises as rewriting -/
theorem sp1B_run {f : Int → Bool} {i : Int} {H : Hp} {Q : VK} {E : XK} : sp1B f [.int i] H Q E ↔ ∀ H', Same H H' → Q (.bl (f i)) H' :=
  ⟨fun ⟨_, e, q⟩ => by cases e; exact q, fun q => ⟨i, rfl, q⟩⟩
theorem sp1I_run {f : Int → Int} {i : Int} {H : Hp} {Q : VK} {E : XK} : sp1I f [.int i] H Q E ↔ ∀ H', Same H H' → Q (.int (f i)) H' :=
  ⟨fun ⟨_, e, q⟩ => by cases e; exact q, fun q => ⟨i, rfl, q⟩⟩

/-- a def of one small number -/
def spN1 (f : Nat → V) : Sp := fun vs H Q _ => ∃ n : Nat, vs = [.int n] ∧ ∀ H', Same H H' → Q (f n) H'
theorem spN1_run {f : Nat → V} {n : Nat} {H : Hp} {Q : VK} {E : XK} : spN1 f [.int n] H Q E ↔ ∀ H', Same H H' → Q (f n) H' :=
  ⟨fun ⟨m, e, q⟩ => by
    have : n = m := by injection e with e _; injection e with e; omega
    subst this; exact q, fun q => ⟨n, rfl, q⟩⟩
theorem spN1_len {f : Nat → V} {vs H Q E} (h : spN1 f vs H Q E) : vs.length = 1 := by
  obtain ⟨i, rfl, _⟩ := h
  rfl
theorem fin_v {Q : VK} {H : Hp} {a b : V} (q : Q b H) (e : b = a) : Q a H := e ▸ q
theorem fin_bl {Q : VK} {H : Hp} {a b : Bool} (e : b = a) (q : Q (.bl b) H) : Q (.bl a) H := e ▸ q
theorem fin_int {Q : VK} {H : Hp} {a b : Int} (e : b = a) (q : Q (.int b) H) : Q (.int a) H := e ▸ q

/-! ### the rules that speak of the written part, K by name -/
section
variable {X : Cx} {K : PySem.W.Frag}
theorem kpi_list (h : X.K = K) {tg l : Expr} {tl : TE} (hl : PE X l tl) : PI X tg l (iList K tl) := h ▸ pi_list hl
theorem kpi_tup (h : X.K = K) {tg l : Expr} {tl : TE} (hl : PE X l tl) : PI X tg l (iTup K tl) := h ▸ pi_tup hl
theorem kix_list (h : X.K = K) : IxR X (rIxL K) := h ▸ ix_list
theorem kix_tup (h : X.K = K) : IxR X (rIxT K) := h ▸ ix_tup
theorem ksl_list (h : X.K = K) : SlR X (rSlL K) := h ▸ sl_list
theorem ksl_tup (h : X.K = K) : SlR X (rSlT K) := h ▸ sl_tup
theorem kop_in (h : X.K = K) : OpR X (compareOp .In) (rIn K false) := h ▸ op_in_seq
theorem kop_notIn (h : X.K = K) : OpR X (compareOp .NotIn) (rIn K true) := h ▸ op_notIn_seq
/-- len of a list or a tuple -/
def rLen (K : PySem.W.Frag) : List V → Hp → VK → Prop := fun xs H Q => ∃ p ys, xs = [.ref p] ∧ (SqL K H p ys ∨ SqT K H p ys) ∧ Q (.int ys.length) H
theorem kcall_len (h : X.K = K) : CallR X (.builtin "len") (rLen K) := h ▸ call_len_seq
def rListOf (K : PySem.W.Frag) : List V → Hp → VK → Prop := fun xs H Q => ∃ p ys, xs = [.ref p] ∧ (SqL K H p ys ∨ SqT K H p ys) ∧ ∀ l, H l = none → Q (.ref l) (upd H l (.lst ys))
theorem kcall_list (h : X.K = K) : CallR X (.type "list") (rListOf K) := h ▸ call_list_of
def rTupOf (K : PySem.W.Frag) : List V → Hp → VK → Prop := fun xs H Q => ∃ p ys, xs = [.ref p] ∧ ((SqL K H p ys ∧ ∀ l, H l = none → Q (.ref l) (upd H l (.tup ys))) ∨ (SqT K H p ys ∧ Q (.ref p) H))
theorem kcall_tuple (h : X.K = K) : CallR X (.type "tuple") (rTupOf K) := h ▸ call_tuple_of
/-- an expression's truth -/
def tTru (K : PySem.W.Frag) (ta : TE) : TT := fun σ H Q => ta σ H fun x H' => ∃ k, TruV K x H' k ∧ Q k H'
theorem kpt_truth (h : X.K = K) {a : Expr} {ta : TE} (ha : PE X a ta) (he : ∀ whole, isTrue a X.env whole = (do let v ← whole; standAt a.pos; holding [v] (truthy v)) := by intro _; rfl) : PT X a (tTru K ta) := h ▸ pt_truth ha he
theorem kpe_fld (h : X.K = K) {e : Expr} {f : Str} {pos : Pos} {ta : TE} (he : PE X e ta) (hb : attributeBase e f X.env (eval e X.env) = eval e X.env := by rfl) : PE X (.Attribute e f pos) (tFld K ta f) := h ▸ pe_fld he hb
theorem kps_fld (h : X.K = K) {o value : Expr} {f : Str} {pos pos' : Pos} {ta tv : TE} (ha : PE X o ta) (hv : PE X value tv) (hs : swapsWith value (some (.Attribute o f pos')) pos.line X.env = pure false := by rfl) : PS X (.Assign [.Attribute o f pos'] value pos) (sFld K ta tv f) := h ▸ ps_fld ha hv hs
theorem kps_fldaug (h : X.K = K) {o value : Expr} {f : Str} {pos tpos : Pos} {ta tv : TE} {op : Operator} {rd : V → V → Hp → VK → Prop} (ha : PE X o ta) (hv : PE X value tv) (hop : InOp X op rd) : PS X (.AugAssign (.Attribute o f tpos) op value pos) (sFldAug K ta tv rd f) := h ▸ ps_fldaug ha hv hop
theorem kpg_tup (h : X.K = K) {es : List Expr} {k : Nat} {t : TGs} {n : Nat} {pos : Pos} (hc : X.calm = true) (hh : PGs X es t)
    (hn : (assignEach es X.env).length = n := by rfl) (hst : (assignEach es X.env).findIdx? (·.1) = none := by rfl) : PG X (.Tuple es k pos) (gTup K n t) := h ▸ pg_tup hc hh hn hst
theorem kpi_enum (h : X.K = K) {e : Expr} {ta : TA} {p pos tpos : Pos} {elts : List Expr} {kk : Nat} (hg : Gl X "enumerate") (hm : X.mg "enumerate" = none) (ha : PA X [e] ta) (hs : starEach [e] X.env = [(false, eval e X.env)] := by rfl) :
    PI X (.Tuple elts kk tpos) (.Call (.Name "enumerate" p) [e] [] pos) (iEnum K ta) := h ▸ pi_enum hg hm ha hs
theorem kpi_zip (h : X.K = K) {e e2 : Expr} {ta : TA} {p pos tpos : Pos} {elts : List Expr} {kk : Nat} (hg : Gl X "zip") (hm : X.mg "zip" = none) (ha : PA X [e, e2] ta)
    (hs : starEach [e, e2] X.env = (false, eval e X.env) :: starEach [e2] X.env := by rfl) (hpl : (backTo pos (starEach [e2] X.env)).any (·.1) = false := by rfl) :
    PI X (.Tuple elts kk tpos) (.Call (.Name "zip" p) [e, e2] [] pos) (iZip K ta) := h ▸ pi_zip hg hm ha hs hpl
theorem kpi_reversed (h : X.K = K) {tg e : Expr} {ta : TA} {p pos : Pos} (hg : Gl X "reversed") (hm : X.mg "reversed" = none) (ha : PA X [e] ta) (hs : starEach [e] X.env = [(false, eval e X.env)] := by rfl) : PI X tg (.Call (.Name "reversed" p) [e] [] pos) (iRev K ta) := h ▸ pi_reversed hg hm ha hs
theorem kcr_any (h : X.K = K) (hc : X.calm = true) : CallR X (.builtin "any") (rAny K) := h ▸ cr_any hc
theorem kcr_all (h : X.K = K) (hc : X.calm = true) : CallR X (.builtin "all") (rAll K) := h ▸ cr_all hc
theorem kop_catT (h : X.K = K) : OpR X (binaryOp .Add) (rCatT K) := h ▸ op_catT
theorem kop_eqD (h : X.K = K) (hu : X.A.units + 64 < cLine) : OpR X (compareOp .Eq) (rEqD K) := h ▸ op_eqD hu
theorem kop_neD (h : X.K = K) (hu : X.A.units + 64 < cLine) : OpR X (compareOp .NotEq) (rNeD K) := h ▸ op_neD hu
theorem kpe_bm0 (h : X.K = K) {o : Expr} {to : TE} {name : Str} {apos cpos : Pos} {T id : String} {r : V → List V → Hp → VK → Prop} (pa : PlainAttrs T) (slot : Slot T name id) (hty : typeOf (.builtin id) = pure (.type "method_descriptor")) (hm : MtR X id r) (ho : PE X o to)
    (hbase : attributeBase o name X.env (eval o X.env) = eval o X.env := by rfl) (hline : (apos.endLine == cpos.line) = true := by rfl) : PE X (.Call (.Attribute o name apos) [] [] cpos) (tBM0 K T r to) := h ▸ pe_bm0 pa slot hty hm ho hbase hline
theorem kpe_bm (h : X.K = K) {o e : Expr} {es : List Expr} {to : TE} {t : TA} {name : Str} {apos cpos : Pos} {T id : String} {r : V → List V → Hp → VK → Prop} (pa : PlainAttrs T) (slot : Slot T name id) (hty : typeOf (.builtin id) = pure (.type "method_descriptor")) (hm : MtR X id r) (ho : PE X o to) (ha : PA X (e :: es) t)
    (hbase : attributeBase o name X.env (eval o X.env) = eval o X.env := by rfl)
    (hfew : ((backTo cpos (starEach (e :: es) X.env)).all (fun x => !x.1) && (backToKw cpos (keywordEach [] X.env)).all (fun x => x.1.isSome)
      && decide ((e :: es).length + ([] : List Keyword).length + (if ([] : List Keyword).isEmpty then 0 else 1) < 30)) = true := by rfl)
    (hline : (apos.endLine == cpos.line) = true := by rfl) (hs : starEach (e :: es) X.env = (false, eval e X.env) :: starEach es X.env := by rfl) (hplain : (backTo cpos (starEach es X.env)).any (·.1) = false := by rfl) :
    PE X (.Call (.Attribute o name apos) (e :: es) [] cpos) (tBM K T r to t) := h ▸ pe_bm pa slot hty hm ho ha hbase hfew hline hs hplain
end
/-! ### what is published (G, never changed again) within the heap (H) -/
structure Ext (G H G' H' : Hp) : Prop where
  same : Same H H'
  sub : Same G' H'
  up : Same G G'
  fr : ∀ b o, G' b = some o → G b = some o ∨ H b = none
section
variable {G H G' H' G1 H1 G2 H2 : Hp} {p D : Addr} {o u : HO}
theorem Ext.refl (s : Same G H) : Ext G H G H := ⟨Same.refl _, s, Same.refl _, fun _ _ h => .inl h⟩
theorem Ext.trans (a : Ext G H G1 H1) (b : Ext G1 H1 G2 H2) : Ext G H G2 H2 := ⟨a.same.trans b.same, b.sub, a.up.trans b.up, fun c q h => by
  rcases b.fr c q h with h | h
  · exact a.fr c q h
  · exact .inr (a.same.free h)⟩
/-- the heap grew, nothing was published -/
theorem Ext.heap (a : Ext G H G1 H1) (s : Same H1 H2) : Ext G H G1 H2 := ⟨a.same.trans s, a.sub.trans s, a.up, a.fr⟩
theorem Ext.priv (a : Ext G H G1 H1) (h : H1 p = none) : Ext G H G1 (upd H1 p o) := a.heap (same_new h)
theorem Ext.gnone (a : Ext G H G1 H1) (h : H1 p = none) : G1 p = none := a.sub.free h
/-- a new object that stays as it is -/
theorem Ext.made (a : Ext G H G1 H1) (h : H1 p = none) : Ext G H (upd G1 p o) (upd H1 p o) := by
  have hg := a.gnone h
  refine ⟨a.same.trans (same_new h), fun b q e => ?_, a.up.trans (same_new hg), fun b q e => ?_⟩
  · by_cases hb : b = p
    · subst hb; rw [upd_same] at e ⊢; exact e
    · rw [upd_ne hb] at e ⊢; exact a.sub _ _ e
  · by_cases hb : b = p
    · subst hb; exact .inr (a.same.free h)
    · rw [upd_ne hb] at e; exact a.fr _ _ e
/-- an object of one's own, not published, is changed -/
theorem Ext.mut (a : Ext G H G1 H1) (h : H p = none) (g : G1 p = none) : Ext G H G1 (upd H1 p o) := by
  refine ⟨fun b q e => ?_, fun b q e => ?_, a.up, a.fr⟩
  · rw [upd_ne (ne_of_none e h)]; exact a.same _ _ e
  · rw [upd_ne (ne_of_none e g)]; exact a.sub _ _ e
/-- .. is published -/
theorem Ext.pub (a : Ext G H G1 H1) (h : H p = none) (e : H1 p = some o) : Ext G H (upd G1 p o) H1 := by
  have hup : Same G1 (upd G1 p o) := fun b q g => by
    by_cases hb : b = p
    · subst hb; rw [a.sub _ _ g] at e; cases e; exact upd_same
    · rw [upd_ne hb]; exact g
  refine ⟨a.same, fun b q g => ?_, a.up.trans hup, fun b q g => ?_⟩
  · by_cases hb : b = p
    · subst hb; rw [upd_same] at g; cases g; exact e
    · rw [upd_ne hb] at g; exact a.sub _ _ g
  · by_cases hb : b = p
    · subst hb; exact .inr h
    · rw [upd_ne hb] at g; exact a.fr _ _ g
theorem Ext.stay (a : Ext G H G1 H1) (g : G p = Option.none) (h : H p = some o) : G1 p = Option.none := by
  cases q : G1 p with
  | none => rfl
  | some u =>
    rcases a.fr p u q with z | z
    · rw [g] at z; cases z
    · rw [h] at z; cases z
end
/-! ### promises -/
/-- arguments that stand for x; an answer that stands for x's, published; all that was there stays -/
def spG {α : Type} (Pre : α → List V → Hp → Prop) (Post : α → V → Hp → Prop) : Sp := fun vs H Q _ => ∃ G x, Same G H ∧ Pre x vs G ∧ ∀ v G' H', Ext G H G' H' → Post x v G' → Q v H'
/-! lists of numbers and of lists -/
abbrev nV (l : List Nat) : List V := l.map fun n : Nat => V.int (n : Int)
theorem nV_get {l : List Nat} {i : Nat} {x : V} (h : (nV l)[i]? = some x) : ∃ n : Nat, l[i]? = some n ∧ x = .int (n : Int) := by
  rw [List.getElem?_map] at h
  cases e : l[i]? with
  | none => rw [e] at h; cases h
  | some n => rw [e] at h; cases h; exact ⟨n, rfl, rfl⟩
theorem nV_at {l : List Nat} {i : Nat} {n : Nat} (h : l[i]? = some n) : (nV l)[i]? = some (.int (n : Int)) := by rw [List.getElem?_map, h]; rfl
/-- a list that the program made -/
def Ls (l : List Nat) (v : V) (H : Hp) : Prop := ∃ a, v = .ref a ∧ H a = some (.lst (nV l))
/-- one that may be read -/
def Lr (K : PySem.W.Frag) (l : List Nat) (v : V) (H : Hp) : Prop := ∃ a, v = .ref a ∧ SqL K H a (nV l)
theorem Ls.same {l v H H'} (s : Same H H') (h : Ls l v H) : Ls l v H' := let ⟨a, e, q⟩ := h; ⟨a, e, s _ _ q⟩
theorem Lr.same {K l v H H'} (s : Same H H') (h : Lr K l v H) : Lr K l v H' := let ⟨a, e, q⟩ := h; ⟨a, e, s.seq q⟩
theorem Ls.r {K l v H} (h : Ls l v H) : Lr K l v H := let ⟨a, e, q⟩ := h; ⟨a, e, SqL.of q⟩
def Lss (ls : List (List Nat)) (v : V) (H : Hp) : Prop := ∃ a vs, v = .ref a ∧ H a = some (.lst vs) ∧ Paired (fun l v => Ls l v H) ls vs
theorem paired_same {α : Type} {R : α → V → Hp → Prop} (st : ∀ a v H H', Same H H' → R a v H → R a v H') {H H' : Hp} (s : Same H H') {ls : List α} {vs : List V} (h : Paired (fun l v => R l v H) ls vs) : Paired (fun l v => R l v H') ls vs :=
  Paired.mapP h fun a v q => st a v H H' s q
theorem Lss.same {ls v H H'} (s : Same H H') (h : Lss ls v H) : Lss ls v H' := let ⟨a, vs, e, q, r⟩ := h; ⟨a, vs, e, s _ _ q, paired_same (fun _ _ _ _ s q => q.same s) s r⟩
theorem Paired.at {α β : Type} {F : α → β → Prop} : ∀ {l : List α} {m : List β} {i : Nat} {y : β}, Paired F l m → m[i]? = some y → ∃ x, l[i]? = some x ∧ F x y
  | _, _, _, _, .nil, e => by simp at e
  | _, _, 0, _, .cons r _, e => by simp at e; subst e; exact ⟨_, rfl, r⟩
  | _, _, i + 1, y, .cons _ t, e => by
    obtain ⟨u, h1, h2⟩ := Paired.at (i := i) (y := y) t (by simpa using e)
    exact ⟨u, by simpa using h1, h2⟩
theorem Paired.atl {α β : Type} {F : α → β → Prop} : ∀ {l : List α} {m : List β} {i : Nat} {x : α}, Paired F l m → l[i]? = some x → ∃ y, m[i]? = some y ∧ F x y
  | _, _, _, _, .nil, e => by simp at e
  | _, _, 0, _, .cons r _, e => by simp at e; subst e; exact ⟨_, rfl, r⟩
  | _, _, i + 1, y, .cons _ t, e => by
    obtain ⟨u, h1, h2⟩ := Paired.atl (i := i) (x := y) t (by simpa using e)
    exact ⟨u, by simpa using h1, h2⟩
/-- a number, as an item -/
def Nm (n : Nat) (v : V) (_H : Hp) : Prop := v = .int (n : Int)
theorem Nm.same (n : Nat) (v : V) (H H' : Hp) (_ : Same H H') (h : Nm n v H) : Nm n v H' := h
theorem paired_nV {H : Hp} : ∀ l : List Nat, Paired (fun n v => Nm n v H) l (nV l)
  | [] => .nil
  | n :: r => .cons rfl (paired_nV r)
theorem paired_of_nV {H : Hp} : ∀ {l : List Nat} {vs : List V}, Paired (fun n v => Nm n v H) l vs → vs = nV l
  | _, _, .nil => rfl
  | _, _, .cons e t => by rw [show _ = _ from e, paired_of_nV t]; rfl
theorem take_at {α : Type} : ∀ {l : List α} {i : Nat} {x : α}, l[i]? = some x → l.take (i + 1) = l.take i ++ [x]
  | [], i, x, h => by simp at h
  | a :: l, 0, x, h => by
    have e : a = x := Option.some.inj h
    subst e
    rfl
  | a :: l, i + 1, x, h => by
    have ih := take_at (l := l) (i := i) (x := x) h
    show a :: l.take (i + 1) = a :: l.take i ++ [x]
    rw [ih]
    rfl
/-- [elt for x in xs if t] over what hands out the items xs, which stand for the as -/
theorem lc_gen {α β : Type} {J : It} {as : List α} {xs : List V} {R : α → V → Hp → Prop} {j : Nat} {tt : TT} {te : TE} {ws : List Nat} {σ : L2.St} {G1 H1 : Hp} {D : Addr} {Qd : Hp → Prop} (S : β → V → Hp → Prop) (p : α → Bool) (f : α → β)
    (hgo : ∀ i H, Same H1 H → i < xs.length → J.go i H) (hstop : ∀ H, Same H1 H → J.stop xs.length H) (hyld : ∀ i H x H', Same H1 H → J.yld i H x H' → H' = H ∧ xs[i]? = some x)
    (hG : Same G1 H1) (hR : Paired (fun a v => R a v G1) as xs) (hlen : xs.length < sizeLine) (hD : H1 D = none) (st : ∀ a v H H', Same H H' → R a v H → R a v H') (st2 : ∀ b v H H', Same H H' → S b v H → S b v H')
    (hw : ∀ x, wipe ((wipe σ ws).set j (some x)) ws = wipe σ ws)
    (ht : ∀ a x G H, a ∈ as → Ext G1 H1 G H → R a x G → ∀ Q : Bool → Hp → Prop, (∀ H', Same H H' → Q (p a) H') → tt ((wipe σ ws).set j (some x)) H Q)
    (he : ∀ a x G H, a ∈ as → Ext G1 H1 G H → R a x G → p a = true → ∀ Q : VK, (∀ y G' H', Ext G H G' H' → S (f a) y G' → Q y H') → te ((wipe σ ws).set j (some x)) H Q)
    (hd : ∀ G H ys, Ext G1 H1 G H → H D = some (.lst ys) → G D = none → Paired (fun b v => S b v G) ((as.filter p).map f) ys → Qd H) :
    ∃ W : Nat → Nat → Hp → Prop, (∃ m, W 0 m (upd H1 D (.lst []))) ∧ ∀ i m H, W i m H →
      (J.stop i H ∧ Qd H) ∨ (J.go i H ∧ ∃ Nx : Hp → Prop, (∀ H', Nx H' → ∃ m', m' < m ∧ W (i + 1) m' H') ∧ ∀ x H', J.yld i H x H' → gName j x (wipe σ ws) H' fun σ2 H2 => wipe σ2 ws = wipe σ ws ∧ tt σ2 H2 fun b H3 =>
        if b = true then te σ2 H3 fun y H4 => ∃ acc, H4 D = some (.lst acc) ∧ acc.length < sizeLine ∧ Nx (upd H4 D (.lst (acc ++ [y]))) else Nx H3) := by
  refine ⟨fun i m H => m = xs.length - i ∧ i ≤ xs.length ∧ ∃ G ys, Ext G1 H1 G H ∧ G D = none ∧ H D = some (.lst ys) ∧ ys.length ≤ i ∧ Paired (fun b v => S b v G) (((as.take i).filter p).map f) ys,
    ⟨_, rfl, Nat.zero_le _, G1, [], (Ext.refl hG).priv hD, hG.free hD, upd_same, Nat.le_refl _, .nil⟩, ?_⟩
  rintro i m H ⟨rfl, hi, G, ys, e, gD, hys, hl, hp⟩
  by_cases hlt : i < xs.length
  · refine .inr ⟨hgo i H e.same hlt, fun H => i + 1 ≤ xs.length ∧ ∃ G ys, Ext G1 H1 G H ∧ G D = none ∧ H D = some (.lst ys) ∧ ys.length ≤ i + 1 ∧ Paired (fun b v => S b v G) (((as.take (i + 1)).filter p).map f) ys, fun H' q => ⟨_, by omega, rfl, q⟩, fun x H' y => ?_⟩
    obtain ⟨rfl, hx⟩ := hyld i H x H' e.same y
    obtain ⟨c, hc, hRc⟩ := Paired.at hR hx
    have hcm : c ∈ as := List.mem_of_getElem? hc
    have hRx : R c x G := st _ _ _ _ e.up hRc
    refine ⟨hw x, ht c x G _ hcm e hRx _ fun H3 s3 => ?_⟩
    cases hpc : p c with
    | false =>
      refine iteF ⟨hlt, G, ys, e.heap s3, gD, s3 _ _ hys, by omega, ?_⟩
      rw [take_at hc, List.filter_append, List.filter_cons, hpc]
      simpa using hp
    | true =>
      refine iteT (he c x G H3 hcm (e.heap s3) hRx hpc _ fun y G4 H4 e4 hy => ?_)
      have hy4 : H4 D = some (.lst ys) := e4.same _ _ (s3 _ _ hys)
      have g4 : G4 D = none := e4.stay gD (s3 _ _ hys)
      refine ⟨ys, hy4, by omega, hlt, G4, ys ++ [y], ((e.heap s3).trans e4).mut hD g4, g4, upd_same, by simp; omega, ?_⟩
      rw [take_at hc, List.filter_append, List.filter_cons, hpc]
      have q4 := (paired_same st2 e4.up hp).snoc hy
      simpa using q4
  · have e0 : i = xs.length := by omega
    subst e0
    have e' : as.take xs.length = as := by rw [List.take_of_length_le]; rw [Paired.length hR]; exact Nat.le_refl _
    rw [e'] at hp
    exact .inl ⟨hstop H e.same, hd G H ys e hys gD hp⟩
/-- .. over a list -/
theorem lc_of {α β : Type} {K : PySem.W.Frag} {a : Addr} {as : List α} {xs : List V} {R : α → V → Hp → Prop} {j : Nat} {tt : TT} {te : TE} {ws : List Nat} {σ : L2.St} {G1 H1 : Hp} {D : Addr} {Qd : Hp → Prop} (S : β → V → Hp → Prop) (p : α → Bool) (f : α → β)
    (hS : SqL K H1 a xs) (hG : Same G1 H1) (hR : Paired (fun a v => R a v G1) as xs) (hlen : xs.length < sizeLine) (hD : H1 D = none) (st : ∀ a v H H', Same H H' → R a v H → R a v H') (st2 : ∀ b v H H', Same H H' → S b v H → S b v H')
    (hw : ∀ x, wipe ((wipe σ ws).set j (some x)) ws = wipe σ ws)
    (ht : ∀ a x G H, a ∈ as → Ext G1 H1 G H → R a x G → ∀ Q : Bool → Hp → Prop, (∀ H', Same H H' → Q (p a) H') → tt ((wipe σ ws).set j (some x)) H Q)
    (he : ∀ a x G H, a ∈ as → Ext G1 H1 G H → R a x G → p a = true → ∀ Q : VK, (∀ y G' H', Ext G H G' H' → S (f a) y G' → Q y H') → te ((wipe σ ws).set j (some x)) H Q)
    (hd : ∀ G H ys, Ext G1 H1 G H → H D = some (.lst ys) → G D = none → Paired (fun b v => S b v G) ((as.filter p).map f) ys → Qd H) :
    ∃ W : Nat → Nat → Hp → Prop, (∃ m, W 0 m (upd H1 D (.lst []))) ∧ ∀ i m H, W i m H →
      ((Itl K a).stop i H ∧ Qd H) ∨ ((Itl K a).go i H ∧ ∃ Nx : Hp → Prop, (∀ H', Nx H' → ∃ m', m' < m ∧ W (i + 1) m' H') ∧ ∀ x H', (Itl K a).yld i H x H' → gName j x (wipe σ ws) H' fun σ2 H2 => wipe σ2 ws = wipe σ ws ∧ tt σ2 H2 fun b H3 =>
        if b = true then te σ2 H3 fun y H4 => ∃ acc, H4 D = some (.lst acc) ∧ acc.length < sizeLine ∧ Nx (upd H4 D (.lst (acc ++ [y]))) else Nx H3) :=
  lc_gen S p f (fun i H s hi => ⟨xs, xs[i], s.seq hS, by simp [hi]⟩) (fun H s => ⟨xs, s.seq hS, Nat.le_refl _⟩) (fun i H x H' s y => by obtain ⟨rfl, y⟩ := y; exact ⟨rfl, y _ (s.seq hS)⟩) hG hR hlen hD st st2 hw ht he hd
/-- .. over a tuple -/
theorem lc_ofT {α β : Type} {K : PySem.W.Frag} {a : Addr} {as : List α} {xs : List V} {R : α → V → Hp → Prop} {j : Nat} {tt : TT} {te : TE} {ws : List Nat} {σ : L2.St} {G1 H1 : Hp} {D : Addr} {Qd : Hp → Prop} (S : β → V → Hp → Prop) (p : α → Bool) (f : α → β)
    (hS : ∀ H, Same H1 H → SqT K H a xs) (hG : Same G1 H1) (hR : Paired (fun a v => R a v G1) as xs) (hlen : xs.length < sizeLine) (hD : H1 D = none) (st : ∀ a v H H', Same H H' → R a v H → R a v H') (st2 : ∀ b v H H', Same H H' → S b v H → S b v H')
    (hw : ∀ x, wipe ((wipe σ ws).set j (some x)) ws = wipe σ ws)
    (ht : ∀ a x G H, a ∈ as → Ext G1 H1 G H → R a x G → ∀ Q : Bool → Hp → Prop, (∀ H', Same H H' → Q (p a) H') → tt ((wipe σ ws).set j (some x)) H Q)
    (he : ∀ a x G H, a ∈ as → Ext G1 H1 G H → R a x G → p a = true → ∀ Q : VK, (∀ y G' H', Ext G H G' H' → S (f a) y G' → Q y H') → te ((wipe σ ws).set j (some x)) H Q)
    (hd : ∀ G H ys, Ext G1 H1 G H → H D = some (.lst ys) → G D = none → Paired (fun b v => S b v G) ((as.filter p).map f) ys → Qd H) :
    ∃ W : Nat → Nat → Hp → Prop, (∃ m, W 0 m (upd H1 D (.lst []))) ∧ ∀ i m H, W i m H →
      ((Itt K a).stop i H ∧ Qd H) ∨ ((Itt K a).go i H ∧ ∃ Nx : Hp → Prop, (∀ H', Nx H' → ∃ m', m' < m ∧ W (i + 1) m' H') ∧ ∀ x H', (Itt K a).yld i H x H' → gName j x (wipe σ ws) H' fun σ2 H2 => wipe σ2 ws = wipe σ ws ∧ tt σ2 H2 fun b H3 =>
        if b = true then te σ2 H3 fun y H4 => ∃ acc, H4 D = some (.lst acc) ∧ acc.length < sizeLine ∧ Nx (upd H4 D (.lst (acc ++ [y]))) else Nx H3) :=
  lc_gen S p f (fun i H s hi => ⟨xs, xs[i], hS H s, by simp [hi]⟩) (fun H s => ⟨xs, hS H s, Nat.le_refl _⟩) (fun i H x H' s y => by obtain ⟨rfl, y⟩ := y; exact ⟨rfl, y _ (hS _ s)⟩) hG hR hlen hD st st2 hw ht he hd
/-- .. over the signs of a text -/
abbrev sgV (z : Str) : List V := z.cps.toList.map fun c => V.str ⟨#[c]⟩
theorem lc_ofS {α β : Type} {z : Str} {as : List α} {R : α → V → Hp → Prop} {j : Nat} {tt : TT} {te : TE} {ws : List Nat} {σ : L2.St} {G1 H1 : Hp} {D : Addr} {Qd : Hp → Prop} (S : β → V → Hp → Prop) (p : α → Bool) (f : α → β)
    (hG : Same G1 H1) (hR : Paired (fun a v => R a v G1) as (sgV z)) (hlen : (sgV z).length < sizeLine) (hD : H1 D = none) (st : ∀ a v H H', Same H H' → R a v H → R a v H') (st2 : ∀ b v H H', Same H H' → S b v H → S b v H')
    (hw : ∀ x, wipe ((wipe σ ws).set j (some x)) ws = wipe σ ws)
    (ht : ∀ a x G H, a ∈ as → Ext G1 H1 G H → R a x G → ∀ Q : Bool → Hp → Prop, (∀ H', Same H H' → Q (p a) H') → tt ((wipe σ ws).set j (some x)) H Q)
    (he : ∀ a x G H, a ∈ as → Ext G1 H1 G H → R a x G → p a = true → ∀ Q : VK, (∀ y G' H', Ext G H G' H' → S (f a) y G' → Q y H') → te ((wipe σ ws).set j (some x)) H Q)
    (hd : ∀ G H ys, Ext G1 H1 G H → H D = some (.lst ys) → G D = none → Paired (fun b v => S b v G) ((as.filter p).map f) ys → Qd H) :
    ∃ W : Nat → Nat → Hp → Prop, (∃ m, W 0 m (upd H1 D (.lst []))) ∧ ∀ i m H, W i m H →
      ((Its z).stop i H ∧ Qd H) ∨ ((Its z).go i H ∧ ∃ Nx : Hp → Prop, (∀ H', Nx H' → ∃ m', m' < m ∧ W (i + 1) m' H') ∧ ∀ x H', (Its z).yld i H x H' → gName j x (wipe σ ws) H' fun σ2 H2 => wipe σ2 ws = wipe σ ws ∧ tt σ2 H2 fun b H3 =>
        if b = true then te σ2 H3 fun y H4 => ∃ acc, H4 D = some (.lst acc) ∧ acc.length < sizeLine ∧ Nx (upd H4 D (.lst (acc ++ [y]))) else Nx H3) :=
  lc_gen (J := Its z) S p f (fun i H s hi => by show i < z.cps.size; simpa using hi) (fun H s => by show z.cps.size ≤ _; simp) (fun i H x H' s y => by
    obtain ⟨rfl, c, hc, rfl⟩ := y
    refine ⟨rfl, ?_⟩
    rw [List.getElem?_map, Array.getElem?_toList, hc]; rfl) hG hR hlen hD st st2 hw ht he hd
section
open PySem.SeqAt
open PySem.AutoSeq1
open PySem.MeetsSeq PySem.MeetsSeq2 PySem.MeetsSeq3
set_option maxRecDepth 8000 in
theorem extend_list_tuple (l : Addr) (items : Array Value) (n : Nat) (b : Addr) (items2 : Array Value) (n2 : Nat) (dd2 : Option Addr) (sl2 : Array (Option Value)) (hs0 : ¬(!items.isEmpty && Builtin.List.listTooLong (items.size + items2.size)) = true) (hs1 : items.size ≤ sizeLine) (hs2 : items.size + items2.size ≤ sizeLine + 1) :
    Meets (Builtin.«list.extend» ⟨[.ref l, .ref b], []⟩) (fun _ R s => s.heap.get? l = some { cls := .type "list", dict := none, data := .seq items n, slots := #[] } ∧ s.heap.get? b = some { cls := .type "tuple", dict := dd2, data := .seq items2 n2, slots := sl2 } ∧ R (.ok (.ret Value.none)) { s with heap := s.heap.update l (Obj.mapSeq fun x => x ++ items2), toks := s.toks }) :=
  .of_wp fun prog w A R s h => by
    obtain ⟨hp, g, d, tk, os⟩ := s; obtain ⟨hl, hb, h⟩ := h; have f1 := idx_int; have f2 := PySem.AutoSeq1.sub_tuple_tuple; have f3 := PySem.AutoSeq1.sub_list_list; have f4 := PySem.AutoSeq1.sub_tuple_list; have f5 := PySem.AutoSeq1.sub_list_tuple;
    have hz' : (items ++ items2).size ≤ sizeLine + 1 := by rw [Array.size_append]; exact hs2
    wp_walk using (wpAny_updateSeq hl rfl (hz := hs1) (_hz' := hz')), wpAny_loadPart' hl, wpAny_loadPart' hb; exact ⟨_, rfl, h⟩
def rExtendS : V → List V → Hp → VK → Prop := fun x vs H Q => ∃ l b xs zs, x = .ref l ∧ vs = [.ref b] ∧ H l = some (.lst xs) ∧ (H b = some (.lst zs) ∨ H b = some (.tup zs)) ∧ xs.length + zs.length ≤ sizeLine ∧ Q .non (upd H l (.lst (xs ++ zs)))
theorem mt_extendS {X : Cx} : MtM X "list.extend" rExtendS := by
  intro pins s σ H x vs v us Q I rx rv h
  obtain ⟨l, b, xs, zs, rfl, rfl, hH, hB, hz, q⟩ := h
  rcases hB with hB | hB
  · exact mt_extend pins s σ H _ _ v us Q I rx rv ⟨l, b, xs, zs, rfl, rfl, hH, hB, hz, q⟩
  cases rx
  obtain ⟨u, rfl, ru⟩ := rv.one
  cases ru
  obtain ⟨z, its, n, r, hl, e⟩ := I.lstM hH
  obtain ⟨its2, r2, ht, z2⟩ := I.tuple (SqT.of hB)
  obtain ⟨ob, e2, hc, n2, hd⟩ := ht
  have hl2 := r2.length
  have hsz : its.toArray.size + its2.toArray.size ≤ sizeLine := by rw [List.size_toArray, List.size_toArray]; omega
  have hlong : ¬ (!its.toArray.isEmpty && Builtin.List.listTooLong (its.toArray.size + its2.toArray.size)) = true := by
    rw [notLongL hsz, Bool.and_false]
    exact Bool.false_ne_true
  obtain ⟨cl, dd, dat, sl⟩ := ob
  simp only at hc hd
  subst hc hd
  refine call_meets F.slot_list_extend ⟨_, e, rfl⟩ F.entry_list_extend (F.args_list_extend_2 _ _)
    (extend_list_tuple l its.toArray n b its2.toArray n2 dd sl hlong (by rw [List.size_toArray]; omega) (by omega)) ⟨e, e2, ?_⟩
  refine ⟨.non, _, I.lset (its' := its ++ its2) hH e (by simp) (r.append r2) ?_, rfl, q⟩
  rw [List.length_append]
  omega
end

theorem lt_line {n : Nat} (h : n ≤ 1000000) : n < sizeLine := Nat.lt_of_le_of_lt h (by decide)
theorem le_line {n : Nat} (h : n ≤ 1000000) : n ≤ sizeLine := Nat.le_of_lt (lt_line h)
theorem truL {H : Hp} {K : PySem.W.Frag} {p : Addr} {xs : List V} (h : SqL K H p xs) : TruV K (.ref p) H (!xs.isEmpty) := .inl ⟨xs, h, rfl⟩
theorem tyL {H : Hp} {K : PySem.W.Frag} {p : Addr} {xs : List V} (h : SqL K H p xs) : tyV K "list" (.ref p) H := .inl ⟨rfl, _, h⟩
theorem nV_app (a b : List Nat) : nV (a ++ b) = nV a ++ nV b := List.map_append
/-- a list or a tuple of numbers -/
def Sq (l : List Nat) (v : V) (H : Hp) : Prop := ∃ a, v = .ref a ∧ (H a = some (.lst (nV l)) ∨ H a = some (.tup (nV l)))
theorem Sq.same {l v H H'} (s : Same H H') (h : Sq l v H) : Sq l v H' := let ⟨a, e, q⟩ := h; ⟨a, e, q.imp (s _ _) (s _ _)⟩
theorem Ls.sq {l v H} (h : Ls l v H) : Sq l v H := let ⟨a, e, q⟩ := h; ⟨a, e, .inl q⟩
def Sqs (ls : List (List Nat)) (v : V) (H : Hp) : Prop := ∃ a vs, v = .ref a ∧ H a = some (.lst vs) ∧ Paired (fun l v => Sq l v H) ls vs
theorem Lss.sqs {ls v H} (h : Lss ls v H) : Sqs ls v H := let ⟨a, vs, e, q, r⟩ := h; ⟨a, vs, e, q, Paired.mapP r fun _ _ z => z.sq⟩
theorem dec_eq {p q : Prop} [Decidable p] [Decidable q] (h : p ↔ q) : decide p = decide q := by
  by_cases hp : p
  · rw [decide_eq_true hp, decide_eq_true (h.mp hp)]
  · rw [decide_eq_false hp, decide_eq_false (fun z => hp (h.mpr z))]
theorem cxK {CX : CXT} {P : Program} {w : World} {K : PySem.W.Frag} {mg : Str → Option Value} {base : Heap} {N : List Str} {qual : Str} {scope : Scope} {f : Addr} {cd : Value} {A : Around} {outer : List Env} {s : Shared} {H : Hp} {E : XK} : (cxOf CX P w K mg base N qual scope f cd A outer s H E).K = K := rfl

theorem for_enum {K : PySem.W.Frag} {a : Addr} {xs : List V} {g : TG} {tb : TS} {D : Ends} {σ : L2.St} {H : Hp} (Pv : Nat → L2.St → Hp → Prop) (h0 : Pv 0 σ H) (hl : ∀ i σ H, i ≤ xs.length → Pv i σ H → SqL K H a xs)
    (hs : ∀ (i : Nat) x σ H T, xs[i]? = some x → Pv i σ H → H T = none → g (.ref T) σ (upd H T (.tup [.int (i : Int), x])) fun σ2 H2 => tb { D with nx := Pv (i + 1), ct := Pv (i + 1), bk := D.nx } σ2 H2) (hd : ∀ σ H, Pv xs.length σ H → D.nx σ H) :
    ∃ W : Nat → Nat → L2.St → Hp → Prop, (∃ m, W 0 m σ H) ∧ ∀ i m σ H, W i m σ H →
      ((Ite K a).stop i H ∧ D.nx σ H) ∨ ((Ite K a).go i H ∧ ∃ N : L2.St → Hp → Prop, (∀ σ' H', N σ' H' → ∃ m', m' < m ∧ W (i + 1) m' σ' H') ∧ ∀ x H', (Ite K a).yld i H x H' → g x σ H' fun σ2 H2 => tb { D with nx := N, ct := N, bk := D.nx } σ2 H2) := by
  refine ⟨fun i m σ H => m = xs.length - i ∧ i ≤ xs.length ∧ Pv i σ H, ⟨xs.length, by simp, Nat.zero_le _, h0⟩, ?_⟩
  rintro i m σ H ⟨rfl, hi, p⟩
  have q := hl i σ H hi p
  by_cases hlt : i < xs.length
  · refine .inr ⟨⟨xs, xs[i], q, by simp [hlt]⟩, Pv (i + 1), fun σ' H' p' => ⟨xs.length - (i + 1), by omega, rfl, hlt, p'⟩, fun x H' y => ?_⟩
    obtain ⟨T, y0, rfl, hT, rfl, hy⟩ := y
    exact hs i y0 σ H T (hy xs q) p hT
  · have e : i = xs.length := by omega
    subst e
    exact .inl ⟨⟨xs, q, Nat.le_refl _⟩, hd σ H p⟩
/-! ### a walk over a local name that holds a list or a tuple -/
structure ItOk (J : It) (xs : List V) (H0 : Hp) : Prop where
  go : ∀ i H, Same H0 H → i < xs.length → J.go i H
  stop : ∀ H, Same H0 H → J.stop xs.length H
  yld : ∀ i H x H', Same H0 H → J.yld i H x H' → H' = H ∧ xs[i]? = some x
theorem itOk_l {K : PySem.W.Frag} {a : Addr} {xs : List V} {H0 : Hp} (h : SqL K H0 a xs) : ItOk (Itl K a) xs H0 :=
  ⟨fun i H s hi => ⟨xs, xs[i], s.seq h, List.getElem?_eq_getElem hi⟩, fun H s => ⟨xs, s.seq h, Nat.le_refl _⟩, fun i H x H' s y => by obtain ⟨rfl, y⟩ := y; exact ⟨rfl, y _ (s.seq h)⟩⟩
theorem itOk_t {K : PySem.W.Frag} {a : Addr} {xs : List V} {H0 : Hp} (h : ∀ Hx, Same H0 Hx → SqT K Hx a xs) : ItOk (Itt K a) xs H0 :=
  ⟨fun i H s hi => ⟨xs, xs[i], h H s, List.getElem?_eq_getElem hi⟩, fun H s => ⟨xs, h H s, Nat.le_refl _⟩, fun i H x H' s y => by obtain ⟨rfl, y⟩ := y; exact ⟨rfl, y _ (h _ s)⟩⟩
/-- a list or a tuple -/
def SqA (K : PySem.W.Frag) (H : Hp) (a : Addr) (xs : List V) : Prop := SqL K H a xs ∨ H a = some (.tup xs)
theorem SqA.same {K : PySem.W.Frag} {H H' : Hp} {a : Addr} {xs : List V} (s : Same H H') (h : SqA K H a xs) : SqA K H' a xs := h.imp (fun z => s.seq z) (s _ _)
def iSeqV (K : PySem.W.Frag) (i : Nat) : TI := fun σ H R => ∃ a xs H0, σ[i]? = some (some (V.ref a)) ∧ Same H0 H ∧ SqA K H0 a xs ∧ ∀ J, ItOk J xs H0 → R J H
theorem kpi_seqv {X : Cx} {K : PySem.W.Frag} (h : X.K = K) {tg e : Expr} {i : Nat} (he : PE X e (tVar i)) : PI X tg e (iSeqV K i) := by
  constructor
  intro pins s σ H R I want
  obtain ⟨a, xs, H0, hs, s0, hq, go⟩ := want
  rcases hq with hq | hq
  · exact (kpi_list h he (tg := tg)).run pins s σ H R I ⟨_, hs, a, rfl, ⟨xs, s0.seq hq⟩, go _ (itOk_l hq)⟩
  · have hT : ∀ H2, Same H0 H2 → SqT K H2 a xs := fun H2 s2 => SqT.of (s2 _ _ hq)
    exact (kpi_tup h he (tg := tg)).run pins s σ H R I ⟨_, hs, a, rfl, ⟨xs, hT H s0⟩, go _ (itOk_t hT)⟩
theorem for_it {J : It} {xs : List V} {g : TG} {tb : TS} {D : Ends} {σ : L2.St} {H0 H : Hp} (Pv : Nat → L2.St → Hp → Prop) (hJ : ItOk J xs H0) (h0 : Pv 0 σ H) (hl : ∀ i σ H, i ≤ xs.length → Pv i σ H → Same H0 H)
    (hs : ∀ (i : Nat) x σ H, xs[i]? = some x → Pv i σ H → g x σ H fun σ2 H2 => tb { D with nx := Pv (i + 1), ct := Pv (i + 1), bk := D.nx } σ2 H2) (hd : ∀ σ H, Pv xs.length σ H → D.nx σ H) :
    ∃ W : Nat → Nat → L2.St → Hp → Prop, (∃ m, W 0 m σ H) ∧ ∀ i m σ H, W i m σ H →
      (J.stop i H ∧ D.nx σ H) ∨ (J.go i H ∧ ∃ N : L2.St → Hp → Prop, (∀ σ' H', N σ' H' → ∃ m', m' < m ∧ W (i + 1) m' σ' H') ∧ ∀ x H', J.yld i H x H' → g x σ H' fun σ2 H2 => tb { D with nx := N, ct := N, bk := D.nx } σ2 H2) := by
  refine ⟨fun i m σ H => m = xs.length - i ∧ i ≤ xs.length ∧ Pv i σ H, ⟨xs.length, rfl, Nat.zero_le _, h0⟩, ?_⟩
  rintro i m σ H ⟨rfl, hi, p⟩
  have q := hl i σ H hi p
  by_cases hlt : i < xs.length
  · refine .inr ⟨hJ.go i H q hlt, Pv (i + 1), fun σ' H' p' => ⟨xs.length - (i + 1), by omega, rfl, hlt, p'⟩, fun x H' y => ?_⟩
    obtain ⟨rfl, hx⟩ := hJ.yld i H x H' q y
    exact hs i x σ _ hx p
  · have e : i = xs.length := by omega
    subst e
    exact .inl ⟨hJ.stop H q, hd σ H p⟩
/-- numbers in a list or a tuple -/
def Lq (K : PySem.W.Frag) (l : List Nat) (v : V) (H : Hp) : Prop := ∃ a, v = .ref a ∧ SqA K H a (nV l)
theorem Lq.same {K l v H H'} (s : Same H H') (h : Lq K l v H) : Lq K l v H' := let ⟨a, e, q⟩ := h; ⟨a, e, q.same s⟩
theorem Lr.q {K l v H} (h : Lr K l v H) : Lq K l v H := let ⟨a, e, q⟩ := h; ⟨a, e, .inl q⟩
theorem Ls.q {K l v H} (h : Ls l v H) : Lq K l v H := h.r.q
theorem Sq.q {K l v H} (h : Sq l v H) : Lq K l v H := let ⟨a, e, q⟩ := h; ⟨a, e, q.imp SqL.of id⟩
end Bt

namespace Bt
open PySem PySem.Spec PyProof.Rows L2
/-! An own error over Exception whose own initializer stores its fields. -/
abbrev exTail : List Value := [.type "Exception", .type "BaseException", .type "object"]
/-- the object, its own dict told -/
abbrev errOb (C t1 : Addr) (dd : Option Addr) : Obj := { cls := .ref C, dict := dd, data := .fields #[.ref t1, .none, .none, .none, .bool false, .none] }
/-- what the written part holds of such a class -/
structure ErrC (K : PySem.W.Frag) (C : Addr) : Prop where
  there : ∃ nm q N bs bm sn sub ab col dd k0 k1 k2 k3 k5, K.lookup C = some (excClassObj nm q C N bs bm true sn sub ab col dd k0 k1 k2 k3 k5 "Exception.__new__") ∧ PySem.W.excTail exTail bm = true
  seta : PySem.W.findIn K (.ref C) "__setattr__" = some (some (.builtin "object.__setattr__"))
  base : PySem.W.subIn K (.ref C) (.type "BaseException") = some true
  meta' : PySem.W.typeIn K (.ref C) = some (.type "type")
  keep : PySem.W.keepIn K (.ref C) = true
section
open Builtin Builtin.ObjectAttr
variable {prog : Program} {w : World} {A : Around} {R : Result → Shared → Prop} {hp : Heap} {g : Array GenState} {d : Drawn} {t : Nat} {os : OsState}
theorem ring_pass (self : Value) (c : Addr) {bm : List Value} (h : PySem.W.excTail exTail bm = true) : refuseLoop self "__setattr__" (.ref c :: bm) = pure () := (refuseLoop_ref self "__setattr__" c bm).trans (PySem.W.excTail_pass self (F.store_Exception.passes self) bm h)
/-- object's own setter upon such an error, up to the dict -/
theorem err_way {K : PySem.W.Frag} {fld : Str} {tk : Tok} {v : Value} {x C : Addr} {ox : Obj} {odx : Option Obj} {cd : ClassData} (inst : PySem.W.InstAt hp x ox C odx)
    (kx : K.In hp) (hcd : PySem.W.clsIn K C = some cd) {bm : List Value} (hmro : cd.mro = .ref C :: bm) (hbm : PySem.W.excTail exTail bm = true) (none_of : PySem.W.findIn K (.ref C) fld = some none)
    (fin : ∀ A' : Around, wpAny (model prog w) A' (storeInOwnDict (.ref x) (.ref C) (.str fld tk) fld v false) (fun f s' => f = .done (.ret .none) ∧ R (.ok (.ret .none)) s') (fun e s' => R (.error e) s') ⟨hp, g, d, t, os⟩) :
    codeAny (model prog w) A (.call (.builtin "object.__setattr__") ⟨[.ref x, .str fld tk, v], []⟩) R ⟨hp, g, d, t, os⟩ := by
  have facts := F.store_object
  have isOb : PySem.W.mroIn K C (.type "object") = some true := by
    show ((PySem.W.clsIn K C).bind fun cd => if cd.mro.isEmpty then none else some (cd.mro.contains (.type "object"))) = _
    rw [hcd]
    show (if cd.mro.isEmpty then none else some (cd.mro.contains (.type "object"))) = _
    rw [hmro]
    show some ((Value.ref C :: bm).contains (.type "object")) = _
    rw [List.contains_cons, PySem.W.excTail_contains "object" bm hbm]
    rfl
  have asks : PySem.W.Looks (model prog w) hp (isInstance (.ref x) (.type "object")) true := inst.type.andThen (PySem.W.looks_mroIn kx isOb)
  have ring : PySem.W.Looks (model prog w) hp (mroOf (.ref C)) cd.mro := (PySem.W.looks_clsIn kx hcd).andThen .now
  have taker : PySem.W.Looks (model prog w) hp (storeTaker? none) none := .now
  have body : ∀ A' : Around, wpAny (model prog w) A' (Builtin.«object.__setattr__» ⟨[.ref x, .str fld tk, v], []⟩) (fun f s' => f = .done (.ret .none) ∧ R (.ok (.ret .none)) s') (fun e s' => R (.error e) s') ⟨hp, g, d, t, os⟩ := fun A' => by
    rw [PySem.W.osa_eq, refuse_eq]
    refine wpAny_bind (wpAny_bind (inst.type.at (wpAny_bind (ring.at ?_))))
    rw [hmro, ring_pass _ _ hbm]
    exact wpAny_pure (wpAny_bind (inst.type.at (wpAny_bind ((PySem.W.looks_findIn kx none_of).at (wpAny_bind (taker.at (fin A')))))))
  refine codeAny_call_builtin facts.slot.plain facts.entry ?_
  refine @PySem.W.check_slot (model prog w) _ _ ⟨hp, g, d, t, os⟩ "object.__setattr__" "object" "__setattr__" (.ref x) [.str fld tk, v] [] _ facts.kind facts.split asks (facts.args (.ref x) (.str fld tk) v) ?_
  refine wpAny_mono (body _) (fun f s' q => ?_) (fun _ _ q => q)
  obtain ⟨rfl, q⟩ := q
  exact q

theorem err_cd {K : PySem.W.Frag} {C : Addr} (T : ErrC K C) : ∃ cd bm, PySem.W.clsIn K C = some cd ∧ cd.mro = .ref C :: bm ∧ PySem.W.excTail exTail bm = true ∧ cd.hasDict = true := by
  obtain ⟨nm, q, N, bs, bm, sn, sub, ab, col, dd, k0, k1, k2, k3, k5, e, hbm⟩ := T.there
  refine ⟨{ name := nm, bases := bs, mro := .ref C :: bm, ns := N, qualname := q, hasDict := true, slotNames := sn, subclasses := sub, abstract := ab, collection := col, hasDel := false }, bm, ?_, rfl, hbm, rfl⟩
  unfold PySem.W.clsIn
  rw [e] <;> rfl
/-- the first field: the dict comes into being -/
theorem err_first {K : PySem.W.Frag} {fld : Str} {tk : Tok} {v : Value} {x C t1 : Addr} (T : ErrC K C) (kx : K.In hp) (there : hp.get? x = some (errOb C t1 none)) (none_of : PySem.W.findIn K (.ref C) fld = some none)
    (next : ∀ h' tk' dx, hp.objs.size ≤ dx → dx ≠ x → (∀ b o, b ≠ x → hp.get? b = some o → h'.get? b = some o) → h'.get? x = some (errOb C t1 (some dx)) → h'.Ns1 dx (fun y => if y = fld then some v else none) → R (.ok (.ret .none)) ⟨h', g, d, tk', os⟩) :
    codeAny (model prog w) A (.call (.builtin "object.__setattr__") ⟨[.ref x, .str fld tk, v], []⟩) R ⟨hp, g, d, t, os⟩ := by
  obtain ⟨cd, bm, hcd, hmro, hbm, hdict⟩ := err_cd T
  have look : PySem.W.Looks (model prog w) hp (classData C) cd := PySem.W.looks_clsIn kx hcd
  have far : hp.objs.size ≠ x := Ne.symm (Nat.ne_of_lt (Heap.lt_size there))
  have up1 : (hp.push { cls := .type "dict", data := .dict #[] }).get? x = some (errOb C t1 none) := Heap.get?_push_of_some _ there
  refine err_way (ox := errOb C t1 none) (odx := none) ⟨there, rfl, rfl, trivial⟩ kx hcd hmro hbm none_of fun A' => ?_
  obtain ⟨n1, n2, n3, n4, n5, hasD, n7, n8, n9, n10, n11⟩ := cd
  obtain rfl : hasD = true := hdict
  unfold storeInOwnDict ownDictForStores
  repeat (first | (with_reducible refine PySem.HandSPX.store_in_new ?dict ?rest) | (with_reducible refine wpAny_loadPart_at there ?_) | (with_reducible refine look.at ?_) | wp_step)
  case dict => exact ⟨_, #[], _, (Heap.get?_update_ne _ _ _ _ far).trans (Heap.get?_push_at rfl rfl), rfl, fun _ z => absurd z (by simp), fun _ => rfl⟩
  case rest =>
    intro h' tk' laid but
    refine ⟨rfl, next h' tk' hp.objs.size (Nat.le_refl _) far (fun b o nb z => (but.2 b (Nat.ne_of_lt (Heap.lt_size z))).trans ((Heap.get?_update_ne _ _ _ _ nb).trans (Heap.get?_push_of_some _ z))) ?_ laid⟩
    exact (but.2 x far.symm).trans (Heap.get?_update_self _ up1 rfl)
/-- a further field -/
theorem err_more {K : PySem.W.Frag} {fld : Str} {tk : Tok} {v : Value} {x C t1 dx : Addr} {m0 : Str → Option Value} {nl : List Str} (T : ErrC K C) (kx : K.In hp) (there : hp.get? x = some (errOb C t1 (some dx))) (none_of : PySem.W.findIn K (.ref C) fld = some none)
    (laid : hp.Ns1 dx m0) (within : PySem.Within m0 nl) (few : nl.length ≤ 1000)
    (next : ∀ h' tk', (∀ b o, b ≠ dx → hp.get? b = some o → h'.get? b = some o) → h'.Ns1 dx (fun y => if y = fld then some v else m0 y) → R (.ok (.ret .none)) ⟨h', g, d, tk', os⟩) :
    codeAny (model prog w) A (.call (.builtin "object.__setattr__") ⟨[.ref x, .str fld tk, v], []⟩) R ⟨hp, g, d, t, os⟩ := by
  obtain ⟨cd, bm, hcd, hmro, hbm, hdict⟩ := err_cd T
  have look : PySem.W.Looks (model prog w) hp (classData C) cd := PySem.W.looks_clsIn kx hcd
  obtain ⟨od, es, ep, at', isD, _⟩ := laid.count within
  refine err_way (ox := errOb C t1 (some dx)) (odx := some od) ⟨there, rfl, rfl, at'⟩ kx hcd hmro hbm none_of fun A' => ?_
  obtain ⟨n1, n2, n3, n4, n5, hasD, n7, n8, n9, n10, n11⟩ := cd
  obtain rfl : hasD = true := hdict
  unfold storeInOwnDict ownDictForStores
  repeat (first | (with_reducible refine PySem.OEX.store_in_old laid within few ?rest) | (with_reducible refine wpAny_loadPart_at there ?_) | (with_reducible refine look.at ?_) | wp_step)
  case rest =>
    intro h' tk' laid' but
    exact ⟨rfl, next h' tk' (fun b o nb z => (but.2 b nb).trans z) laid'⟩
end
section
variable {X : Cx} {pins : List (Addr × Obj)} {σ : L2.St} {H : Hp} {s : Shared} {a C dx : Addr} {f : Str} {y : V} {u : Value} {fs : List (Str × V)} {Q : Unit → Shared → Prop} {E : Value → Shared → Prop} {A : Around}
theorem err_st1 (T : ErrC X.K C) (I : Inv X pins σ H s) (e : H a = some (exo a C none)) (none_of : PySem.W.findIn X.K (.ref C) f = some none) (ry : RelV y u)
    (h : ∀ dx s', H dx = none → dx ≠ a → Inv X pins σ (upd (upd H dx (exd dx [(f, y)])) a (exo a C (some dx))) s' → Q () s') : wpAny (model X.prog X.w) A (setAttr (.ref a) f u) Q E s := by
  obtain ⟨t1, ho⟩ := exo_at I.hok e
  obtain ⟨hp, g, d, t, os⟩ := s
  refine PySem.W.set_plain I.kIn (ox := errOb C t1 none) (od := none) ⟨ho, rfl, rfl, trivial⟩ T.seta (err_first T I.kIn ho none_of fun h' tk' dx new ne keep hx laid => ?_)
  have fresh : H dx = none := I.hok.fresh new
  have old : ∀ {b : Addr} {o : Obj}, hp.get? b = some o → b ≠ dx := fun z => Nat.ne_of_lt (Nat.lt_of_lt_of_le (Heap.lt_size z) new)
  have nota : ∀ {b : Addr}, H b = none → b ≠ a := fun n z => by subst z; rw [e] at n; cases n
  -- first the dict is laid, then the object is written
  have mid : ∀ b o, H b = some o → b ≠ a → ObjOk X.prog X.w (upd (upd H dx (exd dx [(f, y)])) a (exo a C (some dx))) h' b o := fun b o q hb => by
    refine (I.hok b o q).stay (fun c v hc z => keep c v ?_ z) (fun c z => ?_) (fun c xs z => ?_)
    · rcases hc with rfl | hc
      · exact hb
      · exact at_ne e hc exo_own
    · rw [upd_ne (at_ne e z exo_own), upd_ne (ne_of_none z fresh)]; exact z
    · rw [upd_ne (at_ne e z exo_tup), upd_ne (ne_of_none z fresh)]; exact z
  refine h dx _ fresh ne (I.un (t' := tk') ⟨fun b o z n _ _ => keep b o (nota n) z, fun b o z n _ _ => ⟨o.slots, keep b o (nota n) z⟩, fun b o z n _ => ?_, fun b o z _ => ?_, fun b xs z => ?_, fun b o v z => ?_, fun b ps z => ⟨#[], ?_⟩⟩ fun b o q => ?_)
  · rw [upd_ne (nota n), upd_ne (old z)]; exact n
  · by_cases hb : b = a
    · subst hb; exact ⟨_, hx⟩
    · exact ⟨o, keep b o hb z⟩
  · rw [upd_ne (at_ne e z exo_tup), upd_ne (ne_of_none z fresh)]; exact z
  · rw [upd_ne (at_ne e z exo_frz), upd_ne (ne_of_none z fresh)]; exact z
  · rw [upd_ne (at_ne e z exo_tbl), upd_ne (ne_of_none z fresh), z]; simp
  · by_cases hb : b = a
    · subst hb; rw [upd_same] at q; cases q; exact exo_ok hx
    · rw [upd_ne hb] at q
      by_cases hd : b = dx
      · subst hd; rw [upd_same] at q; cases q; exact exd_ok laid (relO_put (fs := []) ry fun _ => trivial)
      · rw [upd_ne hd] at q; exact mid b o q hb
theorem err_st2 (T : ErrC X.K C) (I : Inv X pins σ H s) (e : H a = some (exo a C (some dx))) (ed : H dx = some (exd dx fs)) (few : fs.length ≤ 900) (none_of : PySem.W.findIn X.K (.ref C) f = some none) (ry : RelV y u)
    (h : ∀ s', Inv X pins σ (upd H dx (exd dx ((f, y) :: fs))) s' → Q () s') : wpAny (model X.prog X.w) A (setAttr (.ref a) f u) Q E s := by
  obtain ⟨t1, ho⟩ := exo_at I.hok e
  obtain ⟨mA, laid, rel⟩ := exd_at I.hok ed
  have within := within_of rel
  obtain ⟨hp, g, d, t, os⟩ := s
  obtain ⟨od, _, _, at', _, _⟩ := laid.count within
  refine PySem.W.set_plain I.kIn (ox := errOb C t1 (some dx)) (od := some od) ⟨ho, rfl, rfl, at'⟩ T.seta (err_more T I.kIn ho none_of laid within (by rw [List.length_map]; omega) fun h' tk' keep laid' => h _ ?_)
  have still : ∃ o, h'.get? dx = some o := by
    obtain ⟨o, _, _, z, _⟩ := laid'
    exact ⟨o, z⟩
  exact I.write (t' := tk') (x := dx) (e := dx) (o := exd dx ((f, y) :: fs)) (by rw [ed]; trivial) (.inl rfl) keep still (exd_ok laid' (relO_put ry rel))
end
/-! ### readings -/
/-- self.f = e within such an initializer -/
def tErF (K : PySem.W.Frag) (f : Str) (to te : TE) : TS := fun D σ H => te σ H fun y H1 => to σ H1 fun x H2 => ∃ a C : Addr, x = .ref a ∧ ErrC K C ∧ PySem.W.findIn K (.ref C) f = some none ∧
  ((H2 a = some (exo a C none) ∧ ∀ dx, H2 dx = none → dx ≠ a → D.nx σ (upd (upd H2 dx (exd dx [(f, y)])) a (exo a C (some dx)))) ∨
    ∃ (dx : Addr) (fs : List (Str × V)), H2 a = some (exo a C (some dx)) ∧ H2 dx = some (exd dx fs) ∧ fs.length ≤ 900 ∧ D.nx σ (upd H2 dx (exd dx ((f, y) :: fs))))
section
variable {X : Cx} {K : PySem.W.Frag}
theorem ps_erF (hK : X.K = K) {o e : Expr} {to te : TE} {f : Str} {p' pos : Pos} (ho : PE X o to) (he : PE X e te) (hs : swapsWith e (some (.Attribute o f p')) pos.line X.env = pure false := by rfl) : PS X (.Assign [.Attribute o f p'] e pos) (tErF K f to te) := by
  subst hK
  constructor
  intro pins s σ H D I want
  refine plainObj_wpAny_Assign_Attribute ?_ hs
  refine thn (he.run pins s σ H _ I want) fun v s1 got1 => ?_
  obtain ⟨y, H1, I1, r1, want1⟩ := got1
  refine thn (ho.run pins s1 σ H1 _ I1 want1) fun o' s2 got2 => ?_
  obtain ⟨x, H2, I2, r2, a, C, rfl, T, none_of, way⟩ := got2
  cases (show o' = Value.ref a from r2)
  rcases way with ⟨at', k⟩ | ⟨dx, fs, at', dict, few, k⟩
  · exact err_st1 T I2 at' none_of r1 fun dx s' fresh ne J => ⟨σ, _, J, k dx fresh ne⟩
  · exact err_st2 T I2 at' dict few none_of r1 fun s' J => ⟨σ, _, J, k⟩
end
/-- the base's initializer's promise: one field, upon an error of any class of the family -/
def spErr1 (K : PySem.W.Frag) (f0 : Str) : Sp := fun vs H Q _ => ∃ a C x, vs = [.ref a, x] ∧ H a = some (exo a C none) ∧ ErrC K C ∧ PySem.W.findIn K (.ref C) f0 = some none ∧
  ∀ d, H d = none → d ≠ a → Q .non (upd (upd H d (exd d [(f0, x)])) a (exo a C (some d)))
/-- what an initializer leaves: the fields told of what was handed in -/
def spErrF (C : Addr) (n : Nat) (fsf : List V → List (Str × V)) : Sp := fun vs H Q _ => ∃ a ws, vs = .ref a :: ws ∧ ws.length = n ∧ H a = some (exo a C none) ∧
  ∀ d H', H d = none → d ≠ a → H' a = some (exo a C (some d)) → H' d = some (exd d (fsf ws)) → (∀ b, b ≠ a → b ≠ d → H' b = H b) → Q .non H'
/-- such an error, made: it lies there as its dict alone -/
def tErr (C : Addr) (n : Nat) (fsf : List V → List (Str × V)) (ta : TA) : L2.St → Hp → XK → Prop := fun σ H Q => ta σ H fun vs H1 => vs.length = n ∧ vs.length ≤ 1000 ∧ ∀ d, H1 d = none → Q (.ref C) (some d) (upd H1 d (.xd (fsf vs)))
section
variable {X : Cx} {cls : Str} {n : Nat} {fsf : List V → List (Str × V)} {C fI : Addr} {k : Nat} {fd : FuncData} {ps : List Str}
/-- the class called with values -/
theorem mk_err (T : ErrC X.K C) (iC : PySem.W.findIn X.K (.ref C) "__init__" = some (some (.ref fI))) (tI : PySem.W.typeIn X.K (.ref fI) = some (.type "function"))
    (G : FnOk X.prog X.w X.K X.mg X.base CX0 k fI fd ps (spErrF C n fsf)) (room : Room (k + 1) X.A) (hb : Binds X.K fd ps []) {pins : List (Addr × Obj)} {σ : L2.St} {H1 : Hp} {s1 : Shared} {us : List Value} {vs : List V} {Q : XK}
    (I1 : Inv X pins σ H1 s1) (r1 : Vals vs us) (hn : vs.length = n) (hz : vs.length ≤ 1000) (k' : ∀ d, H1 d = none → Q (.ref C) (some d) (upd H1 d (.xd (fsf vs)))) :
    wpAny (model X.prog X.w) X.A (call (.ref C) us) (MkP X pins σ Q) X.xe s1 := by
  obtain ⟨nm, q, N, bs, bm, sn, sub, ab, col, dd, k0, k1, k2, k3, k5, isC, hbm⟩ := T.there
  obtain ⟨hp, g, dr, tk, os⟩ := s1
  -- the error's place
  generalize hA : hp.objs.size + 1 = a
  have above : hp.objs.size ≤ a := by omega
  have free : H1 a = none := I1.hok.fresh above
  have stays : ∀ b o, hp.get? b = some o → ((hp.push (PySem.W.kdv_tup us)).push (PySem.HandSPX.excO C hp.objs.size)).get? b = some o := fun b o z => Heap.get?_push_of_some _ (Heap.get?_push_of_some _ z)
  have lies : ((hp.push (PySem.W.kdv_tup us)).push (PySem.HandSPX.excO C hp.objs.size)).get? a = some (PySem.HandSPX.excO C hp.objs.size) := by
    rw [← hA]
    heap_get
  have I2 : Inv X pins σ (upd H1 a (exo a C none)) ⟨(hp.push (PySem.W.kdv_tup us)).push (PySem.HandSPX.excO C hp.objs.size), g, dr, tk, os⟩ := I1.laid (t' := tk) stays above (exo_ok lies)
  have r2 : Vals (V.ref a :: vs) (Value.ref a :: us) := .cons rfl r1
  have promise : spErrF C n fsf (V.ref a :: vs) (upd H1 a (exo a C none)) (fun v H2 => v = .non ∧ ∃ d, H1 d = none ∧ d ≠ a ∧ H2 a = some (exo a C (some d)) ∧ H2 d = some (exd d (fsf vs)) ∧ ∀ b, b ≠ a → b ≠ d → H2 b = H1 b) (fun _ _ _ => False) :=
    ⟨a, vs, rfl, hn, upd_same, fun d H' fresh ne e1 e2 e3 => ⟨rfl, d, by rw [upd_ne ne] at fresh; exact fresh, ne, e1, e2, fun b ba bd => (e3 b ba bd).trans (upd_ne ba)⟩⟩
  have count : (Value.ref a :: us).length = ps.length := by rw [← Paired.length r2]; exact G.len _ _ _ _ promise
  have few : us.length ≤ sizeLine := by rw [← Paired.length r1, sizeLine_eq]; omega
  have run := G.run (A := X.A.under (.builtin "type.__call__" ⟨Value.ref C :: us, []⟩)) X.stack _ _ ⟨Value.ref a :: us, []⟩ (Value.ref a :: us) _ _ (fun _ _ _ => False) (room.make C us []) (I2.env0.make C us [])
    (by have := hb _ (Value.ref a :: us) I2.kIn (by rw [List.append_nil]; exact count); rwa [List.append_nil] at this) r2 promise
  refine wpAny_call (PySem.HandSPX.call_own F.excBase_Exception (fun Y => PySem.W.excTail_contains Y bm hbm) (I1.kIn _ _ isC) (PySem.W.looks_findIn I1.kIn iC) (fun self => PySem.W.bind_fn I1.kIn self tI) few ?_)
  rw [hA]
  refine codeAny_mono run fun r s' out => ?_
  cases r with
  | error er => exact (show False from out).elim
  | ok fl =>
    cases fl with
    | next => exact False.elim out
    | brk => exact False.elim out
    | cont => exact False.elim out
    | ret u =>
      obtain ⟨v, H2, os2, bare2, un2, hok2, rv, rfl, d, fresh, ne, ea, ed, rest⟩ := out
      obtain ⟨h2, g2, d2, t2, os'⟩ := s'
      refine ⟨rv, mk_end (raises_own T.base T.meta') I1 above stays un2 hok2 os2 bare2 ea ed fresh ?_⟩
      have e2 : upd (del H2 a) d (.xd (fsf vs)) = upd H1 d (.xd (fsf vs)) := by
        funext b
        by_cases hd : b = d
        · subst hd; rw [upd_same, upd_same]
        · rw [upd_ne hd, upd_ne hd]
          by_cases hb' : b = a
          · subst hb'; rw [del_same, free]
          · rw [del_ne hb', rest b hb' hd]
      rw [e2]
      exact k' d fresh
theorem pmk_err {e : Expr} {es : List Expr} {ta : TA} {p pos : Pos} (T : ErrC X.K C) (iC : PySem.W.findIn X.K (.ref C) "__init__" = some (some (.ref fI))) (tI : PySem.W.typeIn X.K (.ref fI) = some (.type "function"))
    (G : FnOk X.prog X.w X.K X.mg X.base CX0 k fI fd ps (spErrF C n fsf)) (room : Room (k + 1) X.A) (hb : Binds X.K fd ps []) (hg : Gl X cls) (hm : X.mg cls = some (.ref C)) (ha : PA X (e :: es) ta)
    (hdb : (cls == ("__debug__" : Str)) = false := by decide) (he : starEach (e :: es) X.env = (false, eval e X.env) :: starEach es X.env := by rfl) (hpl : (backTo pos (starEach es X.env)).any (·.1) = false := by rfl) :
    PMk X (.Call (.Name cls p) (e :: es) [] pos) (tErr C n fsf ta) := by
  intro pins s σ H Q I want
  refine wpAny_Call_Name_kw (ld_glob I hg hm (PySem.W.callWith_K (h₀ := X.base) I.ok.mod.kin T.keep (thn (ha.run pos pins s σ H _ I want) fun us s1 got => ?_) he hpl) hdb)
  obtain ⟨vs, H1, I1, r1, hn, hz, k'⟩ := got
  exact ⟨I1.kIn, mk_err T iC tI G room hb I1 r1 hn hz k'⟩
theorem pmk_err0 {p pos : Pos} (T : ErrC X.K C) (iC : PySem.W.findIn X.K (.ref C) "__init__" = some (some (.ref fI))) (tI : PySem.W.typeIn X.K (.ref fI) = some (.type "function"))
    (G : FnOk X.prog X.w X.K X.mg X.base CX0 k fI fd ps (spErrF C n fsf)) (room : Room (k + 1) X.A) (hb : Binds X.K fd ps []) (hg : Gl X cls) (hm : X.mg cls = some (.ref C)) (hdb : (cls == ("__debug__" : Str)) = false := by decide) :
    PMk X (.Call (.Name cls p) [] [] pos) (tErr C n fsf tNil) := by
  intro pins s σ H Q I want
  obtain ⟨hn, hz, k'⟩ := want
  exact wpAny_Call_Name_kw (ld_glob I hg hm (PySem.W.callWith_K0 I.kIn T.keep (mk_err (us := []) (vs := []) T iC tI G room hb I .nil hn hz k')) hdb)
end
/-! Base.__init__(self, e) -/
structure BaseI (K : PySem.W.Frag) (mg : Str → Option Value) (x : Str) (R f : Addr) : Prop where
  at_ : mg x = some (.ref R)
  get : PySem.W.specialIn K (.ref R) "__getattribute__" = some (some (.builtin "type.__getattribute__"))
  rd : PySem.W.readsIn K R (.type "type") = true
  fn : PySem.W.findCls K (.ref R) (.type "type") "__init__" = some (.val (.ref f))
  kp : PySem.W.keepIn K (.ref f) = true
theorem pe_base {X : Cx} {CX : CXT} {k : Nat} {x : Str} {R f : Addr} {fd : FuncData} {ps : List Str} {sp : Sp} {E : XK} {e : Expr} {es : List Expr} {t : TA} {p1 p2 pos : Pos} {pl : Sem Bool} (B : BaseI X.K X.mg x R f) (G : FnOk X.prog X.w X.K X.mg X.base CX k f fd ps sp) (hb : Binds X.K fd ps []) (hr : Room k X.A) (hg : Gl X x) (hx : Passes CX X E) (ha : PA X (e :: es) t)
    (hc : eval (.Call (.Attribute (.Name x p1) "__init__" p2) (e :: es) [] pos) X.env = (do
      let ov ← eval (.Name x p1) X.env
      standAt p2.atName
      let (f, first) ← holding [ov] (getMethod ov "__init__" pl)
      callWith pos f first (backTo pos (starEach (e :: es) X.env)) (backToKw pos (keywordEach [] X.env))) := by rfl)
    (hdb : (x == ("__debug__" : Str)) = false := by decide) (he : starEach (e :: es) X.env = (false, eval e X.env) :: starEach es X.env := by rfl) (hpl : (backTo pos (starEach es X.env)).any (·.1) = false := by rfl) :
    PE X (.Call (.Attribute (.Name x p1) "__init__" p2) (e :: es) [] pos) (tCall sp [] E t) := by
  refine ⟨fun pins s σ H Q I h => ?_⟩
  refine PySem.W.methodCall_KW (pl := pl) (ld_glob I hg B.at_ ?_ hdb) hc
  refine PySem.W.method_cls I.kIn B.get (PySem.W.cls_value I.kIn B.rd B.fn rfl ?_)
  refine PySem.W.callWith_K (h₀ := X.base) (I.tok (s.toks + 1)).ok.mod.kin B.kp (thn (ha.run pos pins _ σ H _ (I.tok _) h) fun us s1 ⟨vs, H1, I1, r, q⟩ => ⟨I1.kIn, ?_⟩) he hpl
  exact run_fn G hr hb .nil hx I1 r q
end Bt

namespace Bt
open PySem PySem.Spec PyProof.Rows L2
/-! A list whose items may raise. -/
theorem note_same (e : Value) {env env' : Env} (h : env.frame = env'.frame) : noteFrame e env = noteFrame e env' := by
  unfold noteFrame PySem.frameOf
  rw [h]
theorem funFrames_but {C : Addr} {B h1 h2 : Heap} (k : ∀ b o, b ≠ C → h1.get? b = some o → h2.get? b = some o) : ∀ {l : List Env}, h1.FunFrames B l → (∀ L ∈ frs l, L ≠ C) → h2.FunFrames B l
  | [], _, _ => trivial
  | env :: l, h, hn => by
    obtain ⟨hk, ⟨L, o, hf, hb, ho, hd⟩, hr⟩ := h
    refine ⟨hk, ⟨L, o, hf, hb, k L o (hn L (List.mem_filterMap.mpr ⟨env, List.mem_cons_self, hf⟩)) ho, hd⟩, funFrames_but k hr fun b hm => ?_⟩
    obtain ⟨e', he', q⟩ := List.mem_filterMap.mp hm
    exact hn b (List.mem_filterMap.mpr ⟨e', List.mem_cons_of_mem _ he', q⟩)
section
variable {X : Cx} {W : WX} {E : XK} {pins pins' : List (Addr × Obj)} {σ σ' : L2.St} {H3 H5 : Hp} {s3 s5 s' : Shared} {scope : Scope} {ce : Env} {fp : List Addr} {xe : Value → Shared → Prop} {u : Value}
/-- what a def called within lets out, over the frames of the def around, goes on as the def's own -/
theorem comp_raise (hs : X.stack = X.env :: X.outer) (hf : X.env.frame = some X.env.locals) (tk : Takes X W) (hW : ∀ cls d σ H, E cls d H → W cls d σ H) (I3 : Inv X pins σ H3 s3)
    (cf : ce.frame = X.env.frame) (cl : ce.locals = s3.heap.objs.size) (f3 : ∀ b ∈ fp, FpOk X pins H3 b ∧ b < s3.heap.objs.size)
    (I5 : Inv ((X.blk s3 H3 scope ce fp).wish xe) pins' σ' H5 s5) (c : CX X.prog X.w X.stack H5 s5 E u s') :
    notedBy (model X.prog X.w) X.A ce (fun e s'' => PySem.CompFails (model X.prog X.w) X.A X.xe ce e s'') u s' := by
  obtain ⟨a, B, H', cls, d, rfl, fly, hok, ub, na, os, ag, want⟩ := c
  have hfr : X.A.frames = some (X.env :: X.outer) := by rw [I3.ok.frames, hs]
  -- the block's names: C
  obtain ⟨mC, atC, _⟩ := I5.loc
  have atC : s5.heap.Ns ce.locals mC := atC
  have freeC : H5 ce.locals = none := I5.free
  have Cold : ∀ {b : Addr} {o : Obj}, s3.heap.get? b = some o → b ≠ ce.locals := fun {b o} z => by rw [cl]; exact Nat.ne_of_lt (Heap.lt_size z)
  have Cfr : ce.locals ∉ frs X.stack := fun hm => by
    obtain ⟨_, o, z, _⟩ := I3.stack.mem hm
    exact Cold z rfl
  have BC : B.Ns ce.locals mC := by
    obtain ⟨o, es, ep, z, r⟩ := atC
    exact ⟨o, es, ep, ub.keep _ o z freeC Cfr, r⟩
  -- the ground without C
  obtain ⟨B', b1, b2⟩ := restrict B fun b => decide (b ≠ ce.locals)
  have B'B : ∀ b o, B'.get? b = some o → B.get? b = some o ∧ b ≠ ce.locals := fun b o z => by
    by_cases hb : b = ce.locals
    · rw [b2 b (by simp [hb])] at z; cases z
    · rw [b1 b (by simp [hb])] at z; exact ⟨z, hb⟩
  have BB' : ∀ b o, b ≠ ce.locals → B.get? b = some o → B'.get? b = some o := fun b o hb z => by rw [b1 b (by simp [hb])]; exact z
  have B'none : ∀ b, B.get? b = none → B'.get? b = none := fun b z => by
    cases q : B'.get? b with
    | none => rfl
    | some o => rw [(B'B b o q).1] at z; cases z
  have frB : ∀ L ∈ frs X.stack, B.get? L = none := fun L hL => (fly.2.2.1.mem (by rw [hs] at hL ⊢; exact hL)).1
  show wpAny _ _ (noteFrame (.ref a) ce) _ _ _
  rw [note_same _ cf]
  rw [hs] at fly
  refine HandSPX.looks_onZ Zc.steady hfr hf fly fun h1 held up1 => ?_
  have nsC1 : h1.Ns ce.locals mC := BC.keeps fun b o z => held.1 b o z
  refine ⟨mC, nsC1, fun h2 m2 nsC2 but => ?_⟩
  -- the names are gone: all else stands
  obtain ⟨stay1, Bn, fun1, oe, vs, T, oT, ts, he, hz, hd, hv, hT, hTe, hTg, hTd, hfl⟩ := held
  have notC : ∀ {b : Addr} {o : Obj} {vs : Array Value}, h1.get? b = some o → o.data = .fields vs → b ≠ ce.locals := fun {b o vs} z hd' y => by
    obtain ⟨o2, es, ep, z2, d2, _⟩ := nsC1
    rw [y] at z; rw [z] at z2; cases z2
    rw [hd'] at d2; cases d2
  have k12 : ∀ b o, b ≠ ce.locals → h1.get? b = some o → h2.get? b = some o := fun b o hb z => (but.2 b hb).trans z
  have held2 : HandSPX.HeldZ B' (X.env :: X.outer) a (Zc cls d) X.env.locals h2 := by
    refine ⟨fun b o z => ?_, B'none a Bn, ?_, oe, vs, T, oT, ts, k12 _ _ (notC he hd) he, hz, hd, hv, B'none T hT, hTe, k12 _ _ (notC hTg hTd) hTg, hTd, hfl⟩
    · obtain ⟨z1, hb⟩ := B'B b o z
      exact k12 b o hb (stay1 b o z1)
    · have fB' : h1.FunFrames B' (X.env :: X.outer) := funFrames_none fun1 fun L hL => B'none L (frB L (by rw [hs]; exact hL))
      exact funFrames_but k12 fB' fun L hL z => Cfr (by rw [hs, ← z]; exact hL)
  unfold PySem.passOn
  refine wpAny_bind (wpAny_field (k12 _ _ (notC he hd) he) hd hv ?_)
  rw [if_neg (show ¬ ((Value.ref T == Value.none) = true) by simp)]
  have go : wpAny (model X.prog X.w) X.A (setFlight (.ref a) ce.frame) (fun _ s4 => wpAny (model X.prog X.w) X.A (throw (.ref a) : Sem Value) (fun _ _ => False) X.xe s4) X.xe { s' with heap := h2 } := by
    rw [cf, hf]
    refine HandSPX.setFlight_onZ held2 fun h3 held3 up3 => wpAny_throw (tk _ _ ?_)
    -- the state without the error: its ground and the frames
    obtain ⟨G, g1, g2⟩ := restrict h3 fun b => (B'.get? b).isSome || decide (b ∈ frs X.stack)
    have gB : ∀ b o, B'.get? b = some o → G.get? b = some o := fun b o z => by
      rw [g1 b (by simp [z])]
      exact held3.1 b o z
    have og : ∀ b o, G.get? b = some o → h3.get? b = some o ∧ ((B'.get? b).isSome = true ∨ b ∈ frs X.stack) := fun b o z => by
      cases q : ((B'.get? b).isSome || decide (b ∈ frs X.stack)) with
      | false => rw [g2 b q] at z; cases z
      | true => rw [g1 b q] at z; exact ⟨z, by simpa [Bool.or_eq_true] using q⟩
    -- the frames, from the start to here
    have toG : ∀ b o, s3.heap.get? b = some o → b ∈ frs X.stack → ∃ sl, G.get? b = some { o with slots := sl } := fun b o z hb => by
      obtain ⟨_, o0, z0, nf⟩ := I3.stack.mem hb
      rw [z] at z0; cases z0
      obtain ⟨sl5, z5⟩ := I5.base.slot b o z (I3.stkFree b hb) hb (fun hx => by
        obtain ⟨_, o1, z1, nf1⟩ := I3.stack.mem hb
        exact (I5.ok.exfs b hx) hb)
      obtain ⟨sl6, z6⟩ := ub.slot b _ z5 hb
      obtain ⟨sl7, z7⟩ := up1 b _ z6 nf
      have z8 := k12 b _ (Cold z) z7
      obtain ⟨sl9, z9⟩ := up3 b _ z8 nf
      exact ⟨sl9, by rw [g1 b (by simp [hb])]; exact z9⟩
    have hokB' : HOk X.prog X.w H' B' := fun b o z => by
      have hbC : b ≠ ce.locals := fun y => by
        have f := ub.free ce.locals
        obtain ⟨o2, es, ep, z2, r⟩ := atC
        rw [y, ub.free _ o2 z2 freeC] at z; cases z
      refine (hok b o z).stay (fun c v hc q => BB' c v ?_ q) (fun _ q => q) fun _ _ q => q
      rcases hc with rfl | hc
      · exact hbC
      · rintro rfl
        obtain ⟨o2, es, ep, z2, r⟩ := atC
        rw [ub.free _ o2 z2 freeC] at hc; cases hc
    have fpn : ∀ b o, s3.heap.get? b = some o → H3 b = none → b ∉ fp → H5 b = none := fun b o z n hb => I5.base.free b o z n hb
    refine ⟨a, B', { s3 with heap := G, gens := s'.gens, drawn := s'.drawn, toks := s'.toks }, pins, σ, H', cls, d, rfl, ?_, fun b o z hb => ?_, Heap.UpToSlots.of_keeps fun b o z => (og b o z).1, ?_, na, ?_, ag, hW _ _ _ _ want⟩
    · refine I3.call (ch := fp) ⟨fun b o z n hb hx => gB b o (BB' b o (Cold z) (ub.keep b o (I5.base.keep b o z n hb hx) (I5.base.free b o z n hx) hb)), fun b o z n hb hx => toG b o z hb, fun b o z n hx => ?_, fun b o z hx => ?_, fun b xs z => ub.tups b xs (I5.base.tups b xs z), fun b o' xs z => ub.frzs b o' xs (I5.base.frzs b o' xs z), fun b ps z => ?_⟩ (hokB'.kept gB) ag (fun b hb => ⟨(f3 b hb).1.2.2.2.1, (f3 b hb).1.2.1, (f3 b hb).1.2.2.2.2.1, (f3 b hb).1.2.2.2.2.2⟩)
      · obtain ⟨o5, z5⟩ := I5.base.there b o z hx
        exact ub.free b o5 z5 (I5.base.free b o z n hx)
      · by_cases hb : b ∈ frs X.stack
        · obtain ⟨sl, q⟩ := toG b o z hb
          exact ⟨_, q⟩
        · obtain ⟨o5, z5⟩ := I5.base.there b o z hx
          obtain ⟨o6, z6⟩ := ub.there b o5 z5 hb
          exact ⟨o6, gB b o6 (BB' b o6 (Cold z) z6)⟩
      · obtain ⟨m1, e1⟩ := I5.base.tbls b ps z
        obtain ⟨m2, e2⟩ := ub.tbls b _ e1
        exact ⟨m1 ++ m2, by rw [e2, Array.append_assoc]⟩
    · obtain ⟨z', hh⟩ := og b o z
      rcases hh with hh | hh
      · obtain ⟨o', q⟩ := Option.isSome_iff_exists.mp hh
        have := held3.1 b o' q
        rw [z'] at this; cases this
        exact q
      · exact absurd hh hb
    · rw [hs]; exact .inr (.inr held3)
    · exact os.trans I5.os
  first
    | exact wpAny_bind (wpAny_pure (wpAny_bind go))
    | exact wpAny_bind go
end

section
variable {X : Cx} {W : WX} {E : XK}
/-- the parts of such a list, told of X: its target and tests raise nothing, its items what E lets -/
structure LcParts (X : Cx) (E : XK) (scope : Scope) (tg : Expr) (ifs : List Expr) (elt : Expr) (g : TG) (tt : TT) (te : TE) : Prop where
  tgt : ∀ (s : Shared) (H : Hp) (C : Addr) (cl : List (Str × Addr)) (fp : List Addr), PG (X.blk s H scope (compEnvC scope cl C X.env) fp) tg g
  tst : ∀ (s : Shared) (H : Hp) (C : Addr) (cl : List (Str × Addr)) (fp : List Addr), PTs (X.blk s H scope (compEnvC scope cl C X.env) fp) ifs tt
  item : ∀ (s : Shared) (H : Hp) (C : Addr) (cl : List (Str × Addr)) (fp : List Addr) (xe : Value → Shared → Prop), Passes (L2.CX X.prog X.w) ((X.blk s H scope (compEnvC scope cl C X.env) fp).wish xe) E →
    PE ((X.blk s H scope (compEnvC scope cl C X.env) fp).wish xe) elt te
theorem lcX_core {pins : List (Addr × Obj)} {s : Shared} {σ : L2.St} {H : Hp} {Q : VK} {elt tg iter : Expr} {ifs : List Expr} {scope : Scope} {own : List (Str × Nat)} {pos pos' : Pos} {wi : TI} {g : TG} {tt : TT} {te : TE} {use : Option (Value → Sem Unit)} {Qf : Value → Shared → Prop}
    (hs : X.stack = X.env :: X.outer) (hf : X.env.frame = some X.env.locals) (tk : Takes X W) (hW : ∀ cls d σ H, E cls d H → W cls d σ H) (calm : X.calm = true) (nd : X.N.Nodup) (I : Inv X pins σ H s) (src : PI X tg iter wi) (ok : BlkOk X.N X.env.scope scope own)
    (parts : LcParts X E scope tg ifs elt g tt te) (plain : ∀ x, foldedSetIterable iter X.env x = pure x) (want : tLc wi g tt te (own.map (·.2)) σ H Q)
    (fin : ∀ D C cenv s' m H', cenv.locals = C → Inv X pins σ H' s' → Q (.ref D) H' → s'.heap.Ns C m → FpOk X pins H' C → PySem.compEnds (model X.prog X.w) X.A X.xe use Qf (.ref D) cenv (.ok .next) s') :
    wpAny (model X.prog X.w) X.A (comprehension (.ListComp elt [⟨tg, iter, ifs, 0⟩] scope pos) scope X.env pos' (newList []) false (eval iter X.env) use) Qf X.xe s := by
  have bound : ∀ y ∈ scope.names, y.2 = .free → ∃ c, X.env.cells.lookup y.1 = some c := fun y hy e => I.ok.has _ (ok.free y hy e)
  refine PySem.comprehension_at (use := use) rfl plain (closure_ok bound) ok.kind (fun y hy e => (ok.uniq y hy).trans (by rw [e])) ?_
  refine thn (src.run pins s σ H _ I want) fun xv s1 got1 => thn got1 fun itv s2 got2 => ?_
  obtain ⟨it, fp, tn, J, H2, rfl, I2, T, st2, f2, q⟩ := got2
  refine wpAny_newObj_type (newEnv_comp ?_) (Nat.zero_le _)
  generalize hD : s2.heap.objs.size = D
  obtain ⟨inv, ⟨m0, w0⟩, turn⟩ := q D (I2.hok.fresh (Nat.le_of_eq hD))
  generalize hs3 : ({ s2 with heap := s2.heap.push { cls := .type "list", data := .seq ([] : List Value).toArray } } : Shared) = s3
  have heap3 : s3.heap = s2.heap.push { cls := .type "list", data := .seq ([] : List Value).toArray } := by rw [← hs3]
  have I3 : Inv X pins σ (upd H2 D (.lst [])) s3 := by
    rw [← hs3]
    exact I2.laid (t' := s2.toks) (fun _ _ z => Heap.get?_push_of_some _ z) (Nat.le_of_eq hD) ⟨Nat.zero_le _, [], 0, .nil, by rw [← hD]; exact Heap.get?_push_size _ rfl⟩
  have f3 : ∀ b ∈ fp, FpOk X pins (upd H2 D (.lst [])) b ∧ b < s3.heap.objs.size := fun b hb => by
    obtain ⟨o, z, _⟩ := T.obj _ _ st2 b hb
    have lt := Heap.lt_size z
    exact ⟨⟨by rw [upd_ne (show b ≠ D from hD ▸ Nat.ne_of_lt lt)]; exact (f2 b hb).1, (f2 b hb).2⟩, by rw [heap3, Heap.size_push]; exact Nat.lt_succ_of_lt lt⟩
  have st3 : tn 0 s3.heap := T.keep _ _ _ st2 fun b _ o z => by rw [heap3]; exact Heap.get?_push_of_some _ z
  have I4 := block_start I3 ok nd f3
  have tgt := parts.tgt s3 (upd H2 D (.lst [])) s3.heap.objs.size (cellsFrom (s3.heap.objs.size + 1) scope.names (cloFrom X.env.cells scope.names [])) fp
  have tst := parts.tst s3 (upd H2 D (.lst [])) s3.heap.objs.size (cellsFrom (s3.heap.objs.size + 1) scope.names (cloFrom X.env.cells scope.names [])) fp
  have item := parts.item s3 (upd H2 D (.lst [])) s3.heap.objs.size (cellsFrom (s3.heap.objs.size + 1) scope.names (cloFrom X.env.cells scope.names [])) fp
  show codeAny _ _ (.compStart (.ListComp elt [⟨tg, iter, ifs, 0⟩] scope pos) 0 (.ref it) (.ref D) (compEnvC scope (cellsFrom (s3.heap.objs.size + 1) scope.names (cloFrom X.env.cells scope.names [])) s3.heap.objs.size X.env)) (PySem.compEnds (model X.prog X.w) X.A X.xe use Qf (.ref D) (compEnvC scope (cellsFrom (s3.heap.objs.size + 1) scope.names (cloFrom X.env.cells scope.names [])) s3.heap.objs.size X.env)) { s3 with heap := pushCells (s3.heap.push { cls := .type "dict", data := .dict #[] }) scope.names }
  generalize hce : compEnvC scope (cellsFrom (s3.heap.objs.size + 1) scope.names (cloFrom X.env.cells scope.names [])) s3.heap.objs.size X.env = ce at I4 tgt tst item ⊢
  have cl : ce.locals = s3.heap.objs.size := by rw [← hce]; rfl
  have cf : ce.frame = X.env.frame := by rw [← hce]; rfl
  have nfp : ∀ b ∈ fp, (upd H2 D (.lst [])) b = none := fun b hb => (f3 b hb).1.1
  generalize upd H2 D (.lst []) = H3 at I3 I4 tgt tst item w0 nfp f3
  generalize hs4 : ({ s3 with heap := pushCells (s3.heap.push { cls := .type "dict", data := .dict #[] }) scope.names } : Shared) = s4 at I4 ⊢
  have st4 : tn 0 s4.heap := T.keep _ _ _ st3 fun b _ o z => by rw [← hs4]; exact pushCells_keeps _ _ _ _ (Heap.get?_push_of_some _ z)
  -- the wish about what an item raises
  have item := item (fun e s' => notedBy (model X.prog X.w) X.A ce (fun e s'' => PySem.CompFails (model X.prog X.w) X.A X.xe ce e s'') e s') fun pins' σ' H5 s5 e s' I5 c => comp_raise hs hf tk hW I3 cf cl f3 I5 c
  have stat : ∀ {σ' : L2.St} {H' : Hp} {s' : Shared}, Inv (X.blk s3 H3 scope ce fp) [] σ' H' s' → (∀ b ∈ fp, H' b = none) → ∀ b ∈ fp, FpOk (X.blk s3 H3 scope ce fp) [] H' b := fun {σ' H' s'} I' hn b hb =>
    ⟨hn b hb, (I'.ok.exf b hb).1, I'.ok.exfs b hb, .inl hb, fun x c e => (I'.ok.exf b hb).2 x c e, fun p hp => absurd (show p ∈ ([] : List (Addr × Obj)) ++ [] from hp) (by simp)⟩
  have loop : codeAny (model X.prog X.w) X.A (.compLoop (.ListComp elt [⟨tg, iter, ifs, 0⟩] scope pos) 0 (.ref it) (.ref D) ce) (PySem.compEnds (model X.prog X.w) X.A X.xe use Qf (.ref D) ce) s4 := by
    have toR : ∀ e s', notedBy (model X.prog X.w) X.A ce (fun e s'' => PySem.CompFails (model X.prog X.w) X.A X.xe ce e s'') e s' → notedBy (model X.prog X.w) X.A ce (fun e s' => PySem.compEnds (model X.prog X.w) X.A X.xe use Qf (.ref D) ce (.error e) s') e s' := fun e s' z => by cases use <;> exact z
    refine compLoop_any (fun n s' => ∃ i H', Inv (X.blk s3 H3 scope ce fp) [] (wipe σ (own.map (·.2))) H' s' ∧ tn i s'.heap ∧ (∀ b ∈ fp, H' b = none) ∧ inv i n H') ?_ m0 ⟨0, H3, I4, st4, nfp, w0⟩
    rintro n s5 ⟨i, H5, I5, st5, n5, w5⟩
    rcases turn i n H5 w5 with ⟨stop, qq⟩ | ⟨go, next, hnext, step⟩
    · refine thnF (T.done (X.blk s3 H3 scope ce fp) rfl rfl rfl calm i [] s5 _ H5 (fun _ _ => False) I5 (stat I5 n5) st5 stop) fun r s6 end6 => ?_
      obtain ⟨rfl, I6⟩ := end6
      have I7 : Inv X pins σ H5 s6 := I3.call' (ch := fp) I6.os I6.base I6.hok I6.bare fun b hb => ⟨(f3 b hb).1.2.2.2.1, (f3 b hb).1.2.1, (f3 b hb).1.2.2.2.2.1, (f3 b hb).1.2.2.2.2.2⟩
      have nC : H5 s3.heap.objs.size = none := cl ▸ (show H5 ce.locals = none from I6.free)
      obtain ⟨m, hn, _⟩ := I6.loc
      have hn : s6.heap.Ns s3.heap.objs.size m := cl ▸ (show s6.heap.Ns ce.locals m from hn)
      exact fin D s3.heap.objs.size ce s6 m H5 cl I7 qq hn (I3.fpOk (Nat.le_refl _) nC)
    · refine thnF (T.item (X.blk s3 H3 scope ce fp) rfl rfl rfl calm i [] s5 _ H5 (fun _ _ => False) I5 (stat I5 n5) st5 go) fun r s6 got6 => ?_
      obtain ⟨u, rfl, h6⟩ := got6
      refine thnF h6 fun _ s7 got7 => ?_
      obtain ⟨x, H7, I7, r7, y7, st7, n7⟩ := got7
      have I7' := I7.pinned (stat I7 n7) (T.obj _ _ st7)
      refine thnF (tgt.run _ s7 _ H7 x u _ I7' r7 (step x H7 y7)) fun _ s8 got8 => ?_
      obtain ⟨σ8, H8, I8, hw8, q8⟩ := got8
      refine thnF (tst.run _ s8 σ8 H8 _ I8 q8) fun b s9 got9 => ?_
      obtain ⟨H9, I9, q9⟩ := got9
      have back : ∀ {s' : Shared} {H' : Hp}, Inv (X.blk s3 H3 scope ce fp) ([] ++ pinsAt fp s7.heap) σ8 H' s' → next H' → ∃ m, m < n ∧ ∃ i H', Inv (X.blk s3 H3 scope ce fp) [] (wipe σ (own.map (·.2))) H' s' ∧ tn i s'.heap ∧ (∀ b ∈ fp, H' b = none) ∧ inv i m H' := fun {s' H'} I' nx => by
        obtain ⟨m', hm, w'⟩ := hnext H' nx
        have pinned : ∀ b ∈ fp, ∀ o, s7.heap.get? b = some o → s'.heap.get? b = some o ∧ H' b = none := fun b hb o z =>
          ⟨(I'.pin (b, o) (List.mem_append_right _ (List.mem_append_right _ (mem_pinsAt hb z)))).1, (I'.pin (b, o) (List.mem_append_right _ (List.mem_append_right _ (mem_pinsAt hb z)))).2.1⟩
        refine ⟨m', hm, i + 1, H', (I'.unpinned (pins := [])).weak (by rw [← hw8, wipe_length]) (fun j v z => ?_), T.keep _ _ _ st7 fun b hb o z => (pinned b hb o z).1, fun b hb => ?_, w'⟩
        · rw [← hw8] at z
          exact (wipe_some z).1
        · obtain ⟨o, z, _⟩ := T.obj _ _ st7 b hb
          exact (pinned b hb o z).2
      cases b with
      | false =>
        simp only [Bool.false_eq_true, if_false] at q9 ⊢
        exact back I9 q9
      | true =>
        simp only [if_true] at q9 ⊢
        refine wpAny_mono (item.run _ s9 σ8 H9 _ (I9.wish _) q9) (fun z s10 got10 => ?_) toR
        obtain ⟨yv, H10, I10, r10, acc, hD10, hz10, nx⟩ := got10
        exact app_ok (X := X.blk s3 H3 scope ce fp) I10.unwish hD10 hz10 r10 fun s11 I11 => back I11 nx
  exact codeAny_compStart_list loop (T.self X.A 0 _ _ _ st4 loop)
variable {elt tg iter : Expr} {ifs : List Expr} {scope : Scope} {own : List (Str × Nat)} {pos : Pos} {wi : TI} {g : TG} {tt : TT} {te : TE}
theorem pe_lcX (hs : X.stack = X.env :: X.outer) (hf : X.env.frame = some X.env.locals) (tk : Takes X W) (hW : ∀ cls d σ H, E cls d H → W cls d σ H) (calm : X.calm = true) (nd : X.N.Nodup) (src : PI X tg iter wi) (ok : BlkOk X.N X.env.scope scope own)
    (parts : LcParts X E scope tg ifs elt g tt te) (plain : ∀ x, foldedSetIterable iter X.env x = pure x := by intro _; rfl) : PE X (.ListComp elt [⟨tg, iter, ifs, 0⟩] scope pos) (tLc wi g tt te (own.map (·.2))) := by
  constructor
  intro pins s σ H Q I want
  rw [eval_ListComp]
  refine lcX_core hs hf tk hW calm nd I src ok parts plain want fun D C cenv s' m H' hC I' q hn f => ?_
  refine ⟨m, by rw [hC]; exact hn, fun h'' sb => ?_⟩
  rw [hC] at sb
  exact ⟨.ref D, H', I'.turned (t' := s'.toks) (fun b o hb z => (sb.2 b hb).trans z) f.1 f.2.1 f.2.2.2.1 f.2.2.2.2.1 f.2.2.2.2.2, rfl, q⟩
theorem ps_setLcX {i : Nat} {y : Str} {py spos : Pos} (hs : X.stack = X.env :: X.outer) (hf : X.env.frame = some X.env.locals) (tk : Takes X W) (hW : ∀ cls d σ H, E cls d H → W cls d σ H) (calm : X.calm = true) (nd : X.N.Nodup) (hy : X.N[i]? = some y) (hyl : X.env.scope.names.lookup y = some .local)
    (hsw : swapsWith (.ListComp elt [⟨tg, iter, ifs, 0⟩] scope pos) (some (.Name y py)) spos.line X.env = pure true) (src : PI X tg iter wi) (ok : BlkOk X.N X.env.scope scope own)
    (parts : LcParts X E scope tg ifs elt g tt te) (plain : ∀ x, foldedSetIterable iter X.env x = pure x := by intro _; rfl) :
    PS X (.Assign [.Name y py] (.ListComp elt [⟨tg, iter, ifs, 0⟩] scope pos) spos) (tAsg (tLc wi g tt te (own.map (·.2))) (gName i)) := by
  constructor
  intro pins s σ H D I want
  rw [exec_Assign_Name_used _ _ _ _ hsw]
  refine wpAny_bind (wpAny_standAt (wpAny_bind ?_))
  have want : tLc wi g tt te (own.map (·.2)) σ H (fun x H1 => gName i x σ H1 D.nx) := want
  show wpAny _ X.A (do let _ ← comprehension (.ListComp elt [⟨tg, iter, ifs, 0⟩] scope pos) scope X.env (firstIterPos [⟨tg, iter, ifs, 0⟩] pos) (newList []) false (eval iter X.env) (some (assign (.Name y py) X.env))) _ _ s
  refine wpAny_bind (thn (lcX_core (Qf := fun _ s' => SP X pins D .next s') hs hf tk hW calm nd I src ok parts plain want fun L C cenv s' m H' hC I' q hn f => ?_) fun _ s' hq => wpAny_pure (wpAny_pure hq))
  show wpAny _ _ (assign (.Name y py) X.env (.ref L)) _ _ _
  refine wpAny_assign_Name (store_ok2 (v := V.ref L) I' nd hy (.inl hyl) rfl (fun s2 I2 wh => ?_) (.inr hyl))
  obtain ⟨a, sb, ha⟩ := wh
  have neC : C ≠ a := by
    rcases ha with z | z
    · rw [z]; exact f.2.1
    · exact fun e => f.2.2.2.2.1 y a z e.symm
  refine ⟨m, by rw [hC]; exact hn.sameBut sb neC, fun h3 sb3 => ?_⟩
  rw [hC] at sb3
  exact ⟨_, H', I2.turned (t' := s2.toks) (fun b o hb z => (sb3.2 b hb).trans z) f.1 f.2.1 f.2.2.2.1 f.2.2.2.2.1 f.2.2.2.2.2, q⟩
end
end Bt

namespace Bt
open PySem PySem.Spec PyProof.Rows L2
/-! own words over the layer: classes, errors -/
section
variable {P : Program} {w : World} {K : PySem.W.Frag} {mg : Str → Option Value} {base : Heap}
theorem own_okX {x : Str} {st : Stmt} {N ps : List Str} {k : Nat} {sp : Sp} (D : Dn K mg x st ps) (S : FnScope N ps (defScope st)) (len : ∀ vs H Q E, sp vs H Q E → vs.length = ps.length)
    (hbody : ∀ (f : Addr) (cdv : Value) (A : Around) (outer : List Env) (s : Shared) (H : Hp) (vs : List V) (Q : VK) (E : XK), Room k (A.deeper (envOfC x (defScope st) s.heap.objs.size f cdv)) → sp vs H Q E →
      ∃ t, PSs (cxOf (L2.CX P w) P w K mg base N x (defScope st) f cdv A outer s H E) (defBody st) t ∧ t { nx := fun _ H' => Q .non H', rt := Q } (start N vs) H) : OwnOk P w K mg base (L2.CX P w) (k + 1) x ps sp := by
  obtain ⟨f, fd, hm, F, hb⟩ := D.ex
  exact ⟨f, fd, hm, F.kp, hb, F.okX S len (hbody f)⟩
/-- a method of the class at C -/
structure OwnM (P : Program) (w : World) (K : PySem.W.Frag) (mg : Str → Option Value) (base : Heap) (CX : CXT) (k : Nat) (C : Addr) (m : Str) (ps : List Str) (sp : Sp) : Prop where
  cls : Cls K C
  ex : ∃ f fd, Meth K C m f ∧ Binds K fd ps [] ∧ FnOk P w K mg base CX k f fd ps sp
/-- .. at its place -/
structure DnM (K : PySem.W.Frag) (C : Addr) (m qual : Str) (st : Stmt) (ps : List Str) : Prop where
  cls : Cls K C
  ex : ∃ f fd, Meth K C m f ∧ Fun K m qual st f fd ∧ Binds K fd ps []
theorem mth_ok {C : Addr} {m qual : Str} {st : Stmt} {N ps : List Str} {k : Nat} {sp : Sp} (D : DnM K C m qual st ps) (S : FnScope N ps (defScope st)) (len : ∀ vs H Q E, sp vs H Q E → vs.length = ps.length)
    (hbody : ∀ (f : Addr) (cdv : Value) (A : Around) (outer : List Env) (s : Shared) (H : Hp) (vs : List V) (Q : VK) (E : XK), Room k (A.deeper (envOfC qual (defScope st) s.heap.objs.size f cdv)) → sp vs H Q E →
      ∃ t, PSs (cxOf CX0 P w K mg base N qual (defScope st) f cdv A outer s H E).nox (defBody st) t ∧ t { nx := fun _ H' => Q .non H', rt := Q } (start N vs) H) : OwnM P w K mg base CX0 (k + 1) C m ps sp := by
  obtain ⟨f, fd, hm, F, hb⟩ := D.ex
  exact ⟨D.cls, f, fd, hm, hb, F.ok S len (hbody f)⟩
theorem mth_okX {C : Addr} {m qual : Str} {st : Stmt} {N ps : List Str} {k : Nat} {sp : Sp} (D : DnM K C m qual st ps) (S : FnScope N ps (defScope st)) (len : ∀ vs H Q E, sp vs H Q E → vs.length = ps.length)
    (hbody : ∀ (f : Addr) (cdv : Value) (A : Around) (outer : List Env) (s : Shared) (H : Hp) (vs : List V) (Q : VK) (E : XK), Room k (A.deeper (envOfC qual (defScope st) s.heap.objs.size f cdv)) → sp vs H Q E →
      ∃ t, PSs (cxOf (L2.CX P w) P w K mg base N qual (defScope st) f cdv A outer s H E) (defBody st) t ∧ t { nx := fun _ H' => Q .non H', rt := Q } (start N vs) H) : OwnM P w K mg base (L2.CX P w) (k + 1) C m ps sp := by
  obtain ⟨f, fd, hm, F, hb⟩ := D.ex
  exact ⟨D.cls, f, fd, hm, hb, F.okX S len (hbody f)⟩
/-- a class that makes instances: its initializer -/
structure DnI (K : PySem.W.Frag) (mg : Str → Option Value) (x qual : Str) (C : Addr) (st : Stmt) (ps : List Str) : Prop where
  cls : Cls K C
  at_ : mg x = some (.ref C)
  ex : ∃ f fd, Mk K C f ∧ Fun K "__init__" qual st f fd ∧ Binds K fd ps []
structure OwnI (P : Program) (w : World) (K : PySem.W.Frag) (mg : Str → Option Value) (base : Heap) (CX : CXT) (k : Nat) (x : Str) (C : Addr) (ps : List Str) (sp : Sp) : Prop where
  at_ : mg x = some (.ref C)
  ex : ∃ f fd, Mk K C f ∧ Binds K fd ps [] ∧ FnOk P w K mg base CX k f fd ps sp
theorem ini_ok {x qual : Str} {C : Addr} {st : Stmt} {N ps : List Str} {k : Nat} {sp : Sp} (D : DnI K mg x qual C st ps) (S : FnScope N ps (defScope st)) (len : ∀ vs H Q E, sp vs H Q E → vs.length = ps.length)
    (hbody : ∀ (f : Addr) (cdv : Value) (A : Around) (outer : List Env) (s : Shared) (H : Hp) (vs : List V) (Q : VK) (E : XK), Room k (A.deeper (envOfC qual (defScope st) s.heap.objs.size f cdv)) → sp vs H Q E →
      ∃ t, PSs (cxOf CX0 P w K mg base N qual (defScope st) f cdv A outer s H E).nox (defBody st) t ∧ t { nx := fun _ H' => Q .non H', rt := Q } (start N vs) H) : OwnI P w K mg base CX0 (k + 1) x C ps sp := by
  obtain ⟨f, fd, hm, F, hb⟩ := D.ex
  exact ⟨D.at_, f, fd, hm, hb, F.ok S len (hbody f)⟩
/-- an own error -/
structure DnX (K : PySem.W.Frag) (mg : Str → Option Value) (x qual : Str) (C : Addr) (st : Stmt) (ps : List Str) : Prop where
  err : ErrC K C
  at_ : mg x = some (.ref C)
  ex : ∃ f fd, PySem.W.findIn K (.ref C) "__init__" = some (some (.ref f)) ∧ PySem.W.typeIn K (.ref f) = some (.type "function") ∧ Fun K "__init__" qual st f fd ∧ Binds K fd ps []
/-- the fields of the reader's error, by what it is made of -/
def neF : List V → List (Str × V)
  | [x, y] => [("position", y), ("kind", x), ("code", .int (-20))]
  | _ => []
/-- the one field of an error made of nothing -/
def cdF (c : Int) : List V → List (Str × V) := fun _ => [("code", .int c)]
structure OwnX (P : Program) (w : World) (K : PySem.W.Frag) (mg : Str → Option Value) (base : Heap) (k : Nat) (x : Str) (C : Addr) (n : Nat) (fsf : List V → List (Str × V)) (ps : List Str) : Prop where
  err : ErrC K C
  at_ : mg x = some (.ref C)
  ex : ∃ f fd, PySem.W.findIn K (.ref C) "__init__" = some (some (.ref f)) ∧ PySem.W.typeIn K (.ref f) = some (.type "function") ∧ Binds K fd ps [] ∧ FnOk P w K mg base CX0 k f fd ps (spErrF C n fsf)
theorem err_ok {x qual : Str} {C : Addr} {st : Stmt} {N ps : List Str} {k n : Nat} {fsf : List V → List (Str × V)} (D : DnX K mg x qual C st ps) (S : FnScope N ps (defScope st)) (len : ps.length = n + 1)
    (hbody : ∀ (f : Addr) (cdv : Value) (A : Around) (outer : List Env) (s : Shared) (H : Hp) (vs : List V) (Q : VK) (E : XK), Room k (A.deeper (envOfC qual (defScope st) s.heap.objs.size f cdv)) → spErrF C n fsf vs H Q E →
      ∃ t, PSs (cxOf CX0 P w K mg base N qual (defScope st) f cdv A outer s H E).nox (defBody st) t ∧ t { nx := fun _ H' => Q .non H', rt := Q } (start N vs) H) : OwnX P w K mg base (k + 1) x C n fsf ps := by
  obtain ⟨f, fd, hi, ht, F, hb⟩ := D.ex
  exact ⟨D.err, D.at_, f, fd, hi, ht, hb, F.ok S (fun vs H Q E h => by obtain ⟨a, ws, rfl, hn, _⟩ := h; rw [List.length_cons, hn, len]) (hbody f)⟩
/-- the base's initializer -/
structure DnB (K : PySem.W.Frag) (mg : Str → Option Value) (x qual : Str) (st : Stmt) (ps : List Str) : Prop where
  ex : ∃ R f fd, BaseI K mg x R f ∧ Fun K "__init__" qual st f fd ∧ Binds K fd ps []
structure OwnB (P : Program) (w : World) (K : PySem.W.Frag) (mg : Str → Option Value) (base : Heap) (k : Nat) (x : Str) (ps : List Str) (f0 : Str) : Prop where
  ex : ∃ R f fd, BaseI K mg x R f ∧ Binds K fd ps [] ∧ FnOk P w K mg base CX0 k f fd ps (spErr1 K f0)
theorem base_ok {x qual : Str} {st : Stmt} {N ps : List Str} {k : Nat} {f0 : Str} (D : DnB K mg x qual st ps) (S : FnScope N ps (defScope st)) (len : ps.length = 2)
    (hbody : ∀ (f : Addr) (cdv : Value) (A : Around) (outer : List Env) (s : Shared) (H : Hp) (vs : List V) (Q : VK) (E : XK), Room k (A.deeper (envOfC qual (defScope st) s.heap.objs.size f cdv)) → spErr1 K f0 vs H Q E →
      ∃ t, PSs (cxOf CX0 P w K mg base N qual (defScope st) f cdv A outer s H E).nox (defBody st) t ∧ t { nx := fun _ H' => Q .non H', rt := Q } (start N vs) H) : OwnB P w K mg base (k + 1) x ps f0 := by
  obtain ⟨R, f, fd, B, F, hb⟩ := D.ex
  exact ⟨R, f, fd, B, hb, F.ok S (fun vs H Q E h => by obtain ⟨a, C, x, rfl, _⟩ := h; exact len.symm) (hbody f)⟩
end
section
variable {X : Cx} {CX : CXT} {k : Nat} {C : Addr} {x m : Str} {ps : List Str} {sp : Sp} {E : XK} {o e : Expr} {es : List Expr} {ta : TE} {t : TA} {p apos pos : Pos}
theorem pe_mth {pl : Sem Bool} (O : OwnM X.prog X.w X.K X.mg X.base CX k C m ps sp) (he : PE X o ta) (hr : Room k X.A) (hx : Passes CX X E) (ha : PA X (e :: es) t)
    (hst : starEach (e :: es) X.env = (false, eval e X.env) :: starEach es X.env := by rfl) (hpl : (backTo pos (starEach es X.env)).any (·.1) = false := by rfl)
    (ht : eval (.Call (.Attribute o m apos) (e :: es) [] pos) X.env = (do
      let ov ← eval o X.env
      standAt apos.atName
      let (f, first) ← holding [ov] (getMethod ov m pl)
      callWith pos f first (backTo pos (starEach (e :: es) X.env)) (backToKw pos (keywordEach [] X.env))) := by rfl) :
    PE X (.Call (.Attribute o m apos) (e :: es) [] pos) (tMeth C m sp [] E ta t) := by
  obtain ⟨f, fd, hm, hb, F⟩ := O.ex
  exact pe_meth he O.cls hm F hr hb .nil hx ha hst hpl ht
theorem pe_mth0 {pl : Sem Bool} (O : OwnM X.prog X.w X.K X.mg X.base CX k C m ps sp) (he : PE X o ta) (hr : Room k X.A) (hx : Passes CX X E)
    (ht : eval (.Call (.Attribute o m apos) [] [] pos) X.env = (do
      let ov ← eval o X.env
      standAt apos.atName
      let (f, first) ← holding [ov] (getMethod ov m pl)
      callWith pos f first (backTo pos (starEach [] X.env)) (backToKw pos (keywordEach [] X.env))) := by rfl) :
    PE X (.Call (.Attribute o m apos) [] [] pos) (tMeth C m sp [] E ta tNil) := by
  obtain ⟨f, fd, hm, hb, F⟩ := O.ex
  exact pe_meth0 he O.cls hm F hr hb .nil hx ht
theorem pe_new (O : OwnI X.prog X.w X.K X.mg X.base CX k x C ps sp) (hr : Room (k + 1) X.A) (hg : Gl X x) (hx : Passes CX X E) (ha : PA X (e :: es) t)
    (hdb : (x == ("__debug__" : Str)) = false := by decide) (he : starEach (e :: es) X.env = (false, eval e X.env) :: starEach es X.env := by rfl) (hpl : (backTo pos (starEach es X.env)).any (·.1) = false := by rfl) :
    PE X (.Call (.Name x p) (e :: es) [] pos) (tMake C sp [] E t) := by
  obtain ⟨f, fd, hm, hb, F⟩ := O.ex
  exact pe_make hm F hr hg O.at_ hb .nil hx ha hdb he hpl
theorem pe_binit {pl : Sem Bool} {f0 : Str} {p1 p2 : Pos} (O : OwnB X.prog X.w X.K X.mg X.base k x ps f0) (hr : Room k X.A) (hg : Gl X x) (hx : Passes CX0 X E) (ha : PA X (e :: es) t)
    (hc : eval (.Call (.Attribute (.Name x p1) "__init__" p2) (e :: es) [] pos) X.env = (do
      let ov ← eval (.Name x p1) X.env
      standAt p2.atName
      let (f, first) ← holding [ov] (getMethod ov "__init__" pl)
      callWith pos f first (backTo pos (starEach (e :: es) X.env)) (backToKw pos (keywordEach [] X.env))) := by rfl)
    (hdb : (x == ("__debug__" : Str)) = false := by decide) (he : starEach (e :: es) X.env = (false, eval e X.env) :: starEach es X.env := by rfl) (hpl : (backTo pos (starEach es X.env)).any (·.1) = false := by rfl) :
    PE X (.Call (.Attribute (.Name x p1) "__init__" p2) (e :: es) [] pos) (tCall (spErr1 X.K f0) [] E t) := by
  obtain ⟨R, f, fd, B, hb, G⟩ := O.ex
  exact pe_base B G hb hr hg hx ha hc hdb he hpl
/-- raise of an own error -/
def sRaise (W : WX) (C : Addr) (t : TA) : TS := fun _ σ H => t σ H fun vs H1 => ∃ x y, vs = [x, y] ∧ ∀ d, H1 d = none → W (.ref C) (some d) σ (upd H1 d (.xd [("position", y), ("kind", x), ("code", .int (-20))]))
theorem ps_raiseN {W : WX} (O : OwnX X.prog X.w X.K X.mg X.base k x C 2 neF ps) (hr : Room (k + 1) X.A) (hg : Gl X x) (hc : X.calm = true) (tk : Takes X W) (ha : PA X (e :: es) t)
    (hdb : (x == ("__debug__" : Str)) = false := by decide) (he : starEach (e :: es) X.env = (false, eval e X.env) :: starEach es X.env := by rfl) (hpl : (backTo pos (starEach es X.env)).any (·.1) = false := by rfl) {rpos : Pos} :
    PS X (.Raise (some (.Call (.Name x p) (e :: es) [] pos)) none rpos) (sRaise W C t) := by
  obtain ⟨f, fd, hi, ht, hb, F⟩ := O.ex
  have ha' : PA X (e :: es) (fun σ H Q => ∃ R, t σ H R ∧ ∀ vs H1, R vs H1 → Q vs H1) := ⟨fun pos pins s σ H Q I ⟨R, q, m⟩ => thn (ha.run pos pins s σ H R I q) fun us s1 ⟨vs, H1, I1, r, q1⟩ => ⟨vs, H1, I1, r, m _ _ q1⟩⟩
  refine ⟨fun pins s σ H D I h => ?_⟩
  refine (L2.ps_raise hc tk (pmk_err O.err hi ht F hr hb hg O.at_ ha' hdb he hpl)).run pins s σ H D I ⟨_, h, ?_⟩
  rintro vs H1 ⟨x, y, rfl, k⟩
  exact ⟨rfl, by simp, k⟩
/-- .. made of nothing -/
def sRaise0 (W : WX) (C : Addr) (c : Int) : TS := fun _ σ H => ∀ d, H d = none → W (.ref C) (some d) σ (upd H d (.xd [("code", .int c)]))
theorem ps_raise0 {W : WX} {c : Int} (O : OwnX X.prog X.w X.K X.mg X.base k x C 0 (cdF c) ps) (hr : Room (k + 1) X.A) (hg : Gl X x) (hc : X.calm = true) (tk : Takes X W) (hdb : (x == ("__debug__" : Str)) = false := by decide) {rpos : Pos} :
    PS X (.Raise (some (.Call (.Name x p) [] [] pos)) none rpos) (sRaise0 W C c) := by
  obtain ⟨f, fd, hi, ht, hb, F⟩ := O.ex
  refine ⟨fun pins s σ H D I h => ?_⟩
  exact (L2.ps_raise hc tk (pmk_err0 O.err hi ht F hr hb hg O.at_ hdb)).run pins s σ H D I ⟨rfl, by simp, h⟩
/-- a def as a value -/
theorem pe_defv {f : Addr} {x : Str} {pos : Pos} (hg : Gl X x) (hm : X.mg x = some (.ref f)) (hd : (x == ("__debug__" : Str)) = false := by decide) : PE X (.Name x pos) (tC (.ref f)) := pe_glob hg hm rfl hd
/-- a local name that holds a def -/
def HeldF (P : Program) (w : World) (K : PySem.W.Frag) (mg : Str → Option Value) (base : Heap) (k : Nat) (f : Addr) (ps : List Str) (sp : Sp) : Prop := ∃ fd, FnOk P w K mg base CX0 k f fd ps sp ∧ PySem.W.keepIn K (.ref f) = true ∧ Binds K fd ps []
theorem pe_callv {i : Nat} {f : Addr} (O : HeldF X.prog X.w X.K X.mg X.base k f ps sp) (hr : Room k X.A) (hN : X.N[i]? = some x) (hv : Vis X.env.scope x) (ha : PA X (e :: es) t)
    (hdb : (x == ("__debug__" : Str)) = false := by decide) (hcd : (x == ("__classdict__" : Str)) = false := by decide)
    (he : starEach (e :: es) X.env = (false, eval e X.env) :: starEach es X.env := by rfl) (hpl : (backTo pos (starEach es X.env)).any (·.1) = false := by rfl) : PE X (.Call (.Name x p) (e :: es) [] pos) (tCallL i f sp [] E0 t) := by
  obtain ⟨fd, F, hk, hb⟩ := O
  exact pe_callL F hr hN hv hk hb .nil pass0 ha hdb hcd he hpl
/-- o.f, the class known -/
def tFC (C : Addr) (ta : TE) (f : Str) : TE := fun σ H Q => ta σ H fun x H1 => ∃ a dx fs v, x = .ref a ∧ H1 a = some (.ins C dx fs) ∧ fs.lookup f = some v ∧ Q v H1
def sFC (C : Addr) (ta tv : TE) (f : Str) : TS := fun D σ H => tv σ H fun y H1 => ta σ H1 fun x H2 => ∃ a dx fs, x = .ref a ∧ H2 a = some (.ins C dx fs) ∧ fs.length < 1000 ∧ D.nx σ (upd H2 a (.ins C dx (putF f y fs)))
def sFCAug (C : Addr) (ta tv : TE) (rd : V → V → Hp → VK → Prop) (f : Str) : TS := fun D σ H => ta σ H fun x H1 => ∃ a dx fs v, x = .ref a ∧ H1 a = some (.ins C dx fs) ∧ fs.lookup f = some v ∧
  tv σ H1 fun y H2 => rd v y H2 fun z H3 => ∃ dx' fs', H3 a = some (.ins C dx' fs') ∧ fs'.length < 1000 ∧ D.nx σ (upd H3 a (.ins C dx' (putF f z fs')))
/-- a field of a class -/
structure Kf (K : PySem.W.Frag) (C : Addr) (f : Str) : Prop where
  c : Cls K C
  n : NoAttr K C f
variable {K : PySem.W.Frag} {f : Str} {value : Expr} {pos' tpos : Pos} {tv : TE}
theorem pe_fc (hK : X.K = K) (c : Kf K C f) (he : PE X e ta) (hb : attributeBase e f X.env (eval e X.env) = eval e X.env := by rfl) : PE X (.Attribute e f pos) (tFC C ta f) := by
  subst hK
  refine ⟨fun pins s σ H Q I h => ?_⟩
  refine attr_of hb (thn (he.run pins s σ H _ I h) fun u s1 ⟨x, H1, I1, rx, a, dx, fs, v, ex, ea, l, q⟩ => ?_)
  subst ex
  obtain rfl : u = Value.ref a := rx
  exact getattr_ok I1 ea c.c c.n l fun u' s2 I2 ru => ⟨v, H1, I2, ru, q⟩
theorem ps_fc (hK : X.K = K) (c : Kf K C f) (ha : PE X o ta) (hv : PE X value tv) (hs : swapsWith value (some (.Attribute o f pos')) pos.line X.env = pure false := by rfl) : PS X (.Assign [.Attribute o f pos'] value pos) (sFC C ta tv f) := by
  subst hK
  refine ⟨fun pins s σ H D I h => ?_⟩
  refine plainObj_wpAny_Assign_Attribute (thn (hv.run pins s σ H _ I h) fun u s1 ⟨y, H1, I1, ry, q⟩ => thn (ha.run pins s1 σ H1 _ I1 q) fun ov s2 ⟨x, H2, I2, rx, a, dx, fs, ex, ea, l, q2⟩ => ?_) hs
  subst ex
  obtain rfl : ov = Value.ref a := rx
  exact setattr_ok I2 ea c.c c.n l ry fun s3 I3 => ⟨σ, _, I3, q2⟩
theorem ps_fcaug (hK : X.K = K) (c : Kf K C f) {op : Operator} {rd : V → V → Hp → VK → Prop} (ha : PE X o ta) (hv : PE X value tv) (hop : InOp X op rd) : PS X (.AugAssign (.Attribute o f tpos) op value pos) (sFCAug C ta tv rd f) := by
  subst hK
  refine ⟨fun pins s σ H D I h => ?_⟩
  refine wpAny_AugAssign_AttributeAny (thn (ha.run pins s σ H _ I h) fun ov s1 ⟨x, H1, I1, rx, a, dx, fs, v, ex, ea, l, q⟩ => ?_)
  subst ex
  obtain rfl : ov = Value.ref a := rx
  refine getattr_ok I1 ea c.c c.n l fun u s2 I2 ru => thn (hv.run pins s2 σ H1 _ I2 q) fun w3 s3 ⟨y, H2, I3, ry, q3⟩ => thn (hop pins s3 σ H2 v y u w3 _ I3 ru ry q3) fun w4 s4 ⟨z, H3, I4, rz, dx', fs', ea', l', q4⟩ => ?_
  exact setattr_ok I4 ea' c.c c.n l' rz fun s5 I5 => ⟨σ, _, I5, q4⟩
end
end Bt

namespace Bt
open PySem PySem.Spec PyProof.Rows L2 LamX
/-! ### lambdas without parameters that are handed on, and called from deeper in -/
/-- two ways one behind the other, the second over frames that are new or known -/
theorem un_on {fs gs : List Addr} {H H1 H2 : Hp} {h h1 h2 : Heap} (a : Un fs [] H H1 h h1) (b : Un gs [] H1 H2 h1 h2) (old : ∀ c ∈ gs, c ∈ fs ∨ h.get? c = none) : Un fs [] H H2 h h2 := by
  have no : ∀ c : Addr, c ∉ ([] : List Addr) := fun c => by simp
  have fr1 : ∀ {c o}, h.get? c = some o → H c = none → H1 c = none := fun {c o} z n => a.free c o z n (no c)
  have out : ∀ {c o}, h.get? c = some o → c ∉ fs → c ∉ gs := fun {c o} z k m => by
    rcases old c m with y | y
    · exact k y
    · rw [z] at y; cases y
  constructor
  · exact fun c o z n k _ => b.keep c o (a.keep c o z n k (no c)) (fr1 z n) (out z k) (no c)
  · intro c o z n _ _
    obtain ⟨l1, z1⟩ := a.any z n (no c)
    obtain ⟨l2, z2⟩ := b.any z1 (fr1 z n) (no c)
    exact ⟨l2, z2⟩
  · intro c o z n _
    obtain ⟨o1, z1⟩ := a.there c o z (no c)
    exact b.free c o1 z1 (fr1 z n) (no c)
  · intro c o z _
    obtain ⟨o1, z1⟩ := a.there c o z (no c)
    exact b.there c o1 z1 (no c)
  · exact fun c xs z => b.tups c xs (a.tups c xs z)
  · exact fun c o u z => b.frzs c o u (a.frzs c o u z)
  · intro c qs z
    obtain ⟨m1, z1⟩ := a.tbls c qs z
    obtain ⟨m2, z2⟩ := b.tbls c _ z1
    exact ⟨m1 ++ m2, by rw [z2, Array.append_assoc]⟩
/-- what can be called without arguments: the lambda at f, made at (H0, s0) under the frames fs -/
def Act (P : Program) (w : World) (K : PySem.W.Frag) (mg : Str → Option Value) (base : Heap) (k : Nat) (fs : List Addr) (f : Addr) (H0 : Hp) (s0 : Shared) (tl : XK → Hp → VK → Prop) : Prop :=
  ∀ (A : Around) (outer : List Env) (s : Shared) (H : Hp) (Q : VK) (E : XK), Un fs [] H0 H s0.heap s.heap → (∀ c ∈ frs outer, c ∈ fs ∨ s0.heap.get? c = none) → Env0 P w K mg base A outer s H → Room k A → tl E H Q →
    PySem.W.FnAt f s.heap ∧ codeAny (model P w) A (.call (.ref f) ⟨[], []⟩) (CR (L2.CX P w) outer P w H s Q E) s
section
variable {X : Cx}
/-- a lambda that was made is such an action -/
theorem act_lam {pins : List (Addr × Obj)} {σ : L2.St} {H : Hp} {s : Shared} {sc : Scope} {pa : Arguments} {bd : Expr} {f c' : Addr} {pm cv : Value} {k : Nat} {t : XK → TE} (I : Inv X pins σ H s) (L : LamS X.env.scope sc)
    (lies : s.heap.get? f = some (PySem.W.kla_obj "<lambda>" (X.env.qual ++ "<lambda>") pa bd sc (cloFrom X.env.cells sc.names []) pm c' cv)) (free : H f = none) (off : f ∉ frs X.stack)
    (none_in : bindArgs (PySem.W.kla_fn "<lambda>" (X.env.qual ++ "<lambda>") pa bd sc (cloFrom X.env.cells sc.names []) pm (.ref c') cv) ⟨[], []⟩ = pure [])
    (inner : ∀ (A : Around) (outer : List Env) (z : Shared) (Hz : Hp) (E : XK), Un (frs X.stack) [] H Hz s.heap z.heap → (∀ b ∈ frs outer, b ∈ frs X.stack ∨ s.heap.get? b = none) → Room k (A.deeper (lamEnv X sc z.heap.objs.size f c')) → PE (lamCx X A outer z Hz E sc f c') bd (t E)) :
    Act X.prog X.w X.K X.mg X.base (k + 1) (frs X.stack) f H s (fun E Hz Q => Hz c' = some (CodeO c' (X.env.qual ++ "<lambda>")) ∧ t E σ Hz Q) := by
  intro A outer z Hz Q E un old start room want
  obtain ⟨code, want⟩ := want
  have still := un.keep f _ lies free off (by simp)
  refine ⟨⟨_, _, _, _, still⟩, ?_⟩
  obtain ⟨⟨co, cvs, ct, there, fields, name⟩, _⟩ := start.hok c' _ code
  have nolim : z.heap.NoLimit := start.mod.nolimit.keeps fun b o e => (start.bs b o e).1
  refine PySem.W.kla_callFunE room.depth still rfl L.co L.gen rfl ⟨c', co, cvs, ct, rfl, there, fields, name⟩ ?_
  rw [none_in]
  refine wpAny_pure (wpAny_newFunctionEnv (fun y m => (L.own y m).2) (fun y m => absurd m (by simp)) (fun hN names but => ⟨nolim.fresh _ but, ?_⟩) L.kind)
  have up : ∀ b o, z.heap.get? b = some o → hN.get? b = some o := fun b o e => but.extBut b o (Nat.ne_of_lt (Heap.lt_size e)) (Heap.get?_push_of_some _ e)
  have J := lam_start2 (f := f) (c' := c') (E := E) (tk := z.toks + ([] : List (Str × Value)).length) I L start room.hd un names up
  show codeAny _ _ (.expr bd (lamEnv X sc z.heap.objs.size f c')) _ _
  refine PySem.W.kla_codeExpr (wpAny_mono ((inner A outer z Hz E un old (room.deeper _)).run [] _ _ Hz Q J want) (fun u zz got => ?_) fun _ _ er => er)
  obtain ⟨x, H2, J2, rx, q⟩ := got
  exact ⟨x, H2, J2.os, J2.bare, J2.base, J2.hok, rx, q⟩
/-- a local name that holds such an action is called -/
theorem pe_actL {Z : Cx} {i : Nat} {a : Str} {f : Addr} {E : L2.St → XK} {tl : XK → Hp → VK → Prop} {p1 p2 : Pos} (passes : ∀ σ, PassesAt (L2.CX Z.prog Z.w) Z σ (E σ))
    (go : ∀ (pins : List (Addr × Obj)) (s : Shared) (σ : L2.St) (H : Hp) (Q : VK) (E : XK), Inv Z pins σ H s → tl E H Q → PySem.W.FnAt f s.heap ∧ codeAny (model Z.prog Z.w) Z.A (.call (.ref f) ⟨[], []⟩) (CR (L2.CX Z.prog Z.w) Z.stack Z.prog Z.w H s Q E) s)
    (name : Z.N[i]? = some a) (vis : Vis Z.env.scope a) (h1 : (a == ("__debug__" : Str)) = false := by decide) (h2 : (a == ("__classdict__" : Str)) = false := by decide) :
    PE Z (.Call (.Name a p1) [] [] p2) (fun σ H Q => σ[i]? = some (some (.ref f)) ∧ tl (E σ) H Q) := by
  constructor
  intro pins s σ H Q I want
  have named := (pe_var (pos := p1) name vis h1 h2).run pins s σ H (fun v Hv => v = .ref f ∧ Hv = H) I ⟨.ref f, want.1, rfl, rfl⟩
  refine wpAny_Call_Name_kw (thn named fun u s2 got => ?_)
  obtain ⟨v, Hv, I2, ru, rfl, rfl⟩ := got
  cases (show u = Value.ref f from ru)
  have both := go pins s2 σ Hv Q _ I2 want.2
  refine PySem.W.callWith_F0 both.1 (wpAny_call (codeAny_mono both.2 fun r z out => ?_))
  match r, out with
  | .error er, out => exact passes σ _ _ _ _ _ I2 out
  | .ok (.ret _), out => exact I2.after out
  | .ok .next, out => exact (show False from out).elim
  | .ok .brk, out => exact (show False from out).elim
  | .ok .cont, out => exact (show False from out).elim
end
/-- a def of one parameter that is handed such an action: what it makes of it -/
structure OwnAct (P : Program) (w : World) (K : PySem.W.Frag) (mg : Str → Option Value) (base : Heap) (k : Nat) (x : Str) (T : List (Addr × Str)) (TT : (XK → Hp → VK → Prop) → Hp → VK → Prop) : Prop where
  ex : ∃ g, mg x = some (.ref g) ∧ PySem.W.keepIn K (.ref g) = true ∧ ∀ (j : Nat) (A : Around) (outer : List Env) (f : Addr) (s : Shared) (H : Hp) (Q : VK) (tl : XK → Hp → VK → Prop),
    Act P w K mg base j (frs outer) f H s tl → Env0 P w K mg base A outer s H → Room (k + j) A → Tabs T H → TT tl H Q → codeAny (model P w) A (.call (.ref g) ⟨[.ref f], []⟩) (CR CX0 outer P w H s Q E0) s
def tLam2 (T : List (Addr × Str)) (q : Str) (TT : (XK → Hp → VK → Prop) → Hp → VK → Prop) (t : XK → TE) : TE := fun σ H Q => Tabs T H ∧ ∀ c H1, ExtN H H1 → Tabs T H1 → H1 c = some (CodeO c q) → TT (fun E Hz Qz => Hz c = some (CodeO c q) ∧ t E σ Hz Qz) H1 Q
section
variable {X : Cx}
/-- x(lambda: body) -/
theorem pe_lam2 {T : List (Addr × Str)} {TT : (XK → Hp → VK → Prop) → Hp → VK → Prop} {x : Str} {c P : Addr} {k kx : Nat} {pa : Arguments} {bd : Expr} {sc : Scope} {t : XK → TE} {p lp pos : Pos} (O : OwnAct X.prog X.w X.K X.mg X.base kx x T TT) (hg : Gl X x)
    (TB : TabB X.base X.mg c P) (mine : X.env.code = .ref c) (mem : (P, X.env.qual ++ "<lambda>") ∈ T) (one : ∀ p ∈ T, p.1 = P → p.2 = X.env.qual ++ "<lambda>") (room : Room (kx + (k + 1)) X.A) (L : LamS X.env.scope sc) (nodef : defaultsOf pa X.env = ([], []))
    (none_in : ∀ (q : Str) (cl : List (Str × Addr)) (pm cv cw : Value), bindArgs (PySem.W.kla_fn "<lambda>" q pa bd sc cl pm cv cw) ⟨[], []⟩ = pure [])
    (inner : ∀ (pins : List (Addr × Obj)) (σ : L2.St) (H : Hp) (s : Shared), Inv X pins σ H s → ∀ (A : Around) (outer : List Env) (z : Shared) (Hz : Hp) (E : XK) (f c' : Addr), Un (frs X.stack) [] H Hz s.heap z.heap → (∀ b ∈ frs outer, b ∈ frs X.stack ∨ s.heap.get? b = none) → Room k (A.deeper (lamEnv X sc z.heap.objs.size f c')) → PE (lamCx X A outer z Hz E sc f c') bd (t E))
    (hdb : (x == ("__debug__" : Str)) = false := by decide) : PE X (.Call (.Name x p) [.Lambda pa bd sc lp] [] pos) (tLam2 T (X.env.qual ++ "<lambda>") TT t) := by
  constructor
  intro pins s σ H Q I want
  obtain ⟨g, at_, kept, run⟩ := O.ex
  refine wpAny_Call_Name_kw (ld_glob I hg at_ (PySem.W.callWith_K (h₀ := X.base) I.ok.mod.kin kept ?_ (by rfl) (by rfl)) hdb)
  have made := fun R => lam_make2 (E := X.xe) (Q := R) (body := bd) (pos := lp) I TB mine mem one want.1 nodef (L.has I.ok)
  refine Calls.spliced_cons (made _ fun f c' pm cv H1 z I1 grown tabs lies free off code => Calls.spliced_nil ⟨I1.kIn, ?_⟩)
  have act := act_lam (k := k) (t := t) I1 L lies free off (none_in _ _ _ _ _) fun A outer y Hy E un old r => inner pins σ H1 z I1 A outer y Hy E f c' un old r
  refine wpAny_call (codeAny_mono (run (k + 1) X.A X.stack f z H1 Q _ act I1.env0 room tabs (want.2 c' H1 grown tabs code)) fun r y out => ?_)
  match r, out with
  | .error er, out => exact (show False from out).elim
  | .ok (.ret _), out => exact I1.after out
  | .ok .next, out => exact (show False from out).elim
  | .ok .brk, out => exact (show False from out).elim
  | .ok .cont, out => exact (show False from out).elim
end
end Bt

namespace Bt
open PySem PySem.Spec PyProof.Rows L2
theorem exm_sub {K : PySem.W.Frag} {C R : Addr} (h1 : PySem.W.subIn K (.ref R) (.type "BaseException") = some true) (h2 : PySem.W.isClsIn K R = true) (h3 : PySem.W.typeIn K (.ref R) = some (.type "type")) (h4 : PySem.W.subIn K (.ref C) (.ref R) = some true) :
    PySem.W.exmOne K (.ref C) (.ref R) = some true := by
  have h2' : (PySem.W.clsIn K R).isSome = true := h2
  unfold PySem.W.exmOne
  rw [if_pos (by rw [h1]; rfl)]
  show (if ((PySem.W.clsIn K R).isSome && PySem.W.typeIn K (.ref R) == some (.type "type")) = true then PySem.W.subIn K (.ref C) (.ref R) else none) = some true
  rw [if_pos (by rw [h2', h3]; rfl)]
  exact h4
end Bt

namespace Bt
open PySem PySem.Spec PyProof.Rows L2 LamX
open PySem.W (WData Codec OpenSpec Well WellAll ReadsW ReadsAllW)
/-! ### the end of a specification's row whose defs make lambdas: the tables of their code objects grow -/
theorem sqL_up {K : PySem.W.Frag} {H H' : Hp} {a : Addr} {xs : List V} (s : ∀ b o, H b = some o → (∀ q, o ≠ .tbl q) → H' b = some o) (h : SqL K H a xs) : SqL K H' a xs := by
  rcases h with h | h
  · rcases h with h | ⟨o, h⟩
    · exact .inl (.inl (s _ _ h fun q z => by cases z))
    · exact .inl (.inr ⟨o, s _ _ h fun q z => by cases z⟩)
  · exact .inr h
theorem sqT_up {K : PySem.W.Frag} {H H' : Hp} {a : Addr} {xs : List V} (s : ∀ b o, H b = some o → (∀ q, o ≠ .tbl q) → H' b = some o) (h : SqT K H a xs) : SqT K H' a xs := by
  rcases h with h | h
  · rcases h with h | ⟨o, h⟩
    · exact .inl (.inl (s _ _ h fun q z => by cases z))
    · exact .inl (.inr ⟨o, s _ _ h fun q z => by cases z⟩)
  · exact .inr h
section
variable {K : PySem.W.Frag} {H H' : Hp}
mutual
theorem dw_up (s : ∀ b o, H b = some o → (∀ q, o ≠ .tbl q) → H' b = some o) : ∀ {v : V} {d : WData}, Dw K H v d → Dw K H' v d
  | _, _, .non => .non
  | _, _, .bl b => .bl b
  | _, _, .int i => .int i
  | _, _, .str x => .str x
  | _, _, .byt b => .byt b
  | _, _, .lst q r => .lst (sqL_up s q) (dws_up s r)
  | _, _, .tup q r => .tup (sqT_up s q) (dws_up s r)
theorem dws_up (s : ∀ b o, H b = some o → (∀ q, o ≠ .tbl q) → H' b = some o) : ∀ {vs : List V} {ds : List WData}, DwAll K H vs ds → DwAll K H' vs ds
  | _, _, .nil => .nil
  | _, _, .cons a b => .cons (dw_up s a) (dws_up s b)
end
end
/-- the heap at the start: the arguments, and beside them the empty tables at ts -/
def startH (ts : List Addr) (H : Hp) : Hp := fun b => if b ∈ ts then some (.tbl #[]) else H b
theorem call_tabs {P : Program} {w : World} {K : PySem.W.Frag} {mg mb : Str → Option Value} {k : Nat} {fa : Addr} {fd : FuncData} {ps : List Str} {sp : Sp} {s1 : Shared} {us : List Value} {ds : List WData} {R : PySem.W.WRecords} {cl : Str → Option Addr} {d0 : WData} {cs : List (Addr × Addr)}
    (KX : K.In s1.heap) (glob : s1.heap.Ns mainGlobals mg) (blt : s1.heap.Ns builtinsNs mb) (boot : ∀ x : Str, x ≠ "__name__" → mb x = bootBuiltins x) (nolim : s1.heap.NoLimit) (nogen : s1.gens = #[])
    (empty : ∀ p ∈ cs, s1.heap.get? p.2 = some { cls := .none, data := .fields #[] }) (outK : ∀ p ∈ cs, K.lookup p.2 = none) (codes : ∀ p ∈ cs, PySem.W.CodeHd s1.heap p.1 p.2)
    (main_ : ∃ (bm : Addr) (ob : Obj), mg "__builtins__" = some (.ref bm) ∧ bm ≠ builtinsNs ∧ s1.heap.get? bm = some ob ∧ ob.cls = .type "module" ∧ ob.dict = some builtinsNs ∧ ob.data = .plain)
    (well : WellAll w.params s1.heap us ds) (flat : plWs ds = true) (light : ∀ d ∈ ds, d.weight ≤ 1048576) (room : Room k callerA)
    (F : ∀ base : Heap, K.In base → base.Ns mainGlobals mg → (∀ p ∈ cs, TabB base mg p.1 p.2) → FnOk P w K mg base CX0 k fa fd ps sp) (binds : ∀ (s : Shared) (us : List Value), us.length = ps.length → BindsTo s fd ⟨us, []⟩ (ps.zip us)) (many : ds.length = ps.length)
    (promise : ∀ (H : Hp) (xs : List V), (∀ p ∈ cs, H p.2 = some (.tbl #[])) → DwAll K H xs ds → sp xs H (fun v H' => Dw K H' v d0) fun _ _ _ => False) :
    codeAny (model P w) callerA (.call (.ref fa) ⟨us, []⟩) (fun r s' => ∃ u as, r = .ok (.ret u) ∧ ReadsW R cl s'.heap u d0 as ∧ OldK s1.heap s'.heap ∧ s'.os = s1.os ∧ AllBare s'.gens) s1 := by
  obtain ⟨A, ho, ar⟩ := area_all ds us well flat light
  have said := dw_all KX ar ds us well flat ho
  have vals := vals_toV ho
  -- a table is no argument, and no part of the text
  have tab : ∀ b, b ∈ cs.map (·.2) → s1.heap.get? b = some { cls := .none, data := .fields #[] } ∧ K.lookup b = none := fun b m => by
    obtain ⟨p, hp, rfl⟩ := List.mem_map.mp m
    exact ⟨empty p hp, outK p hp⟩
  have apart : ∀ b, b ∈ cs.map (·.2) → argH K s1.heap A b = none := fun b m => by
    cases q : argH K s1.heap A b with
    | none => rfl
    | some u =>
      obtain ⟨_, vs, _, _, ⟨e, _⟩ | ⟨e, _⟩⟩ := argH_is ar q <;> · rw [(tab b m).1] at e; cases e
  generalize hH : startH (cs.map (·.2)) (argH K s1.heap A) = H
  have atT : ∀ p ∈ cs, H p.2 = some (.tbl #[]) := fun p hp => by rw [← hH]; exact if_pos (List.mem_map.mpr ⟨p, hp, rfl⟩)
  have up : ∀ b o, argH K s1.heap A b = some o → (∀ q, o ≠ .tbl q) → H b = some o := fun b o e _ => by
    rw [← hH]
    refine (if_neg fun m => ?_).trans e
    rw [apart b m] at e; cases e
  have each : ∀ b u, H b = some u → (b ∈ cs.map (·.2) ∧ u = .tbl #[]) ∨ (K.lookup b = none ∧ (∃ o x, u = .frz o x ∧ ∃ vs n, o.data = .seq vs n) ∧ s1.heap.get? b ≠ none ∧ ∃ o x, u = .frz o x ∧ s1.heap.get? b = some o ∧ ObjOk P w H s1.heap b u) := fun b u e => by
    rw [← hH] at e
    by_cases m : b ∈ cs.map (·.2)
    · have e' := (if_pos m).symm.trans e
      cases e'
      exact .inl ⟨m, rfl⟩
    · have e' := (if_neg m).symm.trans e
      obtain ⟨nk, vs, hz, hu, ⟨at_, rfl⟩ | ⟨at_, rfl⟩⟩ := argH_is ar e'
      · exact .inr ⟨nk, ⟨_, _, rfl, _, _, rfl⟩, by rw [at_]; simp, _, _, rfl, at_, at_, by rw [List.length_map]; exact hz, vs, _, vals_toV hu, at_⟩
      · exact .inr ⟨nk, ⟨_, _, rfl, _, _, rfl⟩, by rw [at_]; simp, _, _, rfl, at_, at_, by rw [List.length_map]; exact hz, vs, vals_toV hu, _, at_, rfl, _, rfl⟩
  have hok : HOk P w H s1.heap := fun b u e => by
    rcases each b u e with ⟨m, rfl⟩ | ⟨_, _, _, _, _, _, _, h⟩
    · exact (tab b m).1
    · exact h
  -- what is of another form is not tracked
  have off : ∀ {b : Addr} {o : Obj}, s1.heap.get? b = some o → (∀ vs n, o.data ≠ .seq vs n) → o.data ≠ .fields #[] → H b = none := fun {b o} e h1 h2 => by
    cases q : H b with
    | none => rfl
    | some u =>
      rcases each b u q with ⟨m, _⟩ | ⟨_, ⟨o', x', eu, vs, n, ed⟩, _, o2, x2, eu2, at_, _⟩
      · rw [(tab b m).1] at e; cases e; exact absurd rfl h2
      · rw [eu] at eu2; cases eu2
        rw [at_] at e; cases e
        exact absurd ed (h1 vs n)
  have keepB : ∀ {b : Addr} {o : Obj}, s1.heap.get? b = some o → H b = none → (hidT s1.heap H).get? b = some o := fun e n => hidT_get e n
  have nsB : ∀ {b : Addr} {m : Str → Option Value}, s1.heap.Ns b m → (hidT s1.heap H).Ns b m := fun {b m} ⟨o, es, ep, e, d, r⟩ => ⟨o, es, ep, keepB e (off e (fun vs n z => by rw [d] at z; cases z) fun z => by rw [d] at z; cases z), d, r⟩
  have freeK : ∀ b o, K.lookup b = some o → H b = none := fun b o e => by
    cases q : H b with
    | none => rfl
    | some u =>
      rcases each b u q with ⟨m, _⟩ | ⟨nk, _⟩
      · rw [(tab b m).2] at e; cases e
      · rw [nk] at e; cases e
  have KB : K.In (hidT s1.heap H) := fun b o e => keepB (KX b o e) (freeK b o e)
  have modB : Mod K mg (hidT s1.heap H) := ⟨KB, nsB glob, ⟨mb, nsB blt, boot⟩, let ⟨mc, h1, h2⟩ := nolim; ⟨mc, nsB h1, h2⟩⟩
  have tabsB : ∀ p ∈ cs, TabB (hidT s1.heap H) mg p.1 p.2 := fun p hp => by
    have lies := empty p hp
    obtain ⟨bm, ob, b1, b2, b3, b4, b5, b6⟩ := main_
    have ne1 : bm ≠ mainGlobals := fun q => by
      obtain ⟨o, es, ep, e, hd, _⟩ := glob
      rw [q, e] at b3; cases b3
      rw [hd] at b6; cases b6
    have ne2 : bm ≠ p.2 := fun q => by
      rw [q, lies] at b3; cases b3
      cases b6
    refine ⟨?_, ⟨bm, ob, b1, b2, ne1, ne2, keepB b3 (off b3 (fun vs n z => by rw [b6] at z; cases z) fun z => by rw [b6] at z; cases z), b4, b5, b6⟩, fun z => ?_⟩
    · obtain ⟨o, vs, fi, tf, fl, tg, nF, tx, tt, e1, c1, c2, rest⟩ := codes p hp
      refine ⟨o, vs, fi, tf, fl, tg, nF, tx, tt, keepB e1 (off e1 (fun vs n z => by rw [c2] at z; cases z) fun z => ?_), c1, c2, rest⟩
      rw [c2] at z; cases z
      have := rest.1
      simp at this
    · obtain ⟨o, es, ep, e, hd, _⟩ := glob
      rw [z, lies] at e; cases e
      cases hd
  have start : Env0 P w K mg (hidT s1.heap H) callerA [] s1 H := ⟨rfl, modB, fun b o e => of_hidT e, Nat.le_of_eq (hidT_size _ _), trivial, (fun b m => absurd (show b ∈ ([] : List Addr) from m) (by simp)), hok, .of_eq nogen⟩
  have count : us.length = ps.length := by rw [wellAll_len well]; exact many
  have run := (F _ KB (nsB glob) tabsB).run callerA [] s1 H ⟨us, []⟩ us (us.map toV) _ _ room start (binds s1 us count) vals (promise H _ atT (dws_up up said))
  refine codeAny_mono run fun r s2 out => ?_
  match r, out with
  | .error er, out => exact (show False from out).elim
  | .ok .next, out => exact (show False from out).elim
  | .ok .brk, out => exact (show False from out).elim
  | .ok .cont, out => exact (show False from out).elim
  | .ok (.ret u), out =>
    obtain ⟨v, H2, os2, bare2, un, hok2, rv, dw⟩ := out
    have kept : ∀ b o, b ∉ cs.map (·.2) → s1.heap.get? b = some o → s2.heap.get? b = some o := fun b o nb e => by
      cases q : H b with
      | none => exact un.keep b o e q (by intro z; cases z) (by simp)
      | some x =>
        rcases each b x q with ⟨m, _⟩ | ⟨_, _, _, o2, x2, rfl, at_, _⟩
        · exact absurd m nb
        · have later := hok2 b _ (un.frzs b o2 x2 q)
          rw [e] at at_; cases at_
          exact later.1
    have KX2 : K.In s2.heap := fun b o e => kept b o (fun m => by rw [(tab b m).2] at e; cases e) (KX b o e)
    obtain ⟨as, reads⟩ := Dw.reads (R := R) (cl := cl) hok2 KX2 d0 v u dw rv
    have grown : ∀ p ∈ cs, ∃ more : Array Value, s2.heap.get? p.2 = some { cls := .none, data := .fields more } := fun p hp => by
      obtain ⟨more, z⟩ := un.tbls p.2 #[] (atT p hp)
      exact ⟨_, hok2 p.2 _ z⟩
    refine ⟨u, as, rfl, reads, ⟨fun b o e => ?_, fun b o e => ?_⟩, os2, bare2⟩
    · by_cases m : b ∈ cs.map (·.2)
      · obtain ⟨p, hp, rfl⟩ := List.mem_map.mp m
        obtain ⟨more, g⟩ := grown p hp
        have e' := e
        rw [empty p hp] at e'; cases e'
        exact .inr (.inl ⟨((codes p hp).tab (empty p hp)).isCodeTable, rfl, #[], more, rfl, by rw [Array.empty_append]; exact g⟩)
      · exact .inl (kept b o m e)
    · by_cases m : b ∈ cs.map (·.2)
      · obtain ⟨p, hp, rfl⟩ := List.mem_map.mp m
        obtain ⟨more, g⟩ := grown p hp
        exact ⟨_, g⟩
      · exact ⟨o, kept b o m e⟩
/-- a def's code object and its table, by what is written of them -/
theorem tab_def {q : Program} {loose : List Str} {mean : ExcName → Option Value} {mg mb : Str → Option Value} {K : PySem.W.Frag} {h : Heap} {d : DefRec} {x : Str} {f c P n : Nat} {oc oc2 : Value} {od od2 : Option Addr} {fd : FuncData} {sl sl2 : Array (Option Value)} {vs : Array Value} (T : Top q loose mean mg mb h) (X : K.In h) (hd : (recsOf q).find? (fun e => e.name == x) = some d)
    (a : PySem.W.nsIn K mainGlobals x = some (some (.ref f))) (l : K.lookup f = some ⟨oc, od, .func fd, sl⟩) (hc : fd.code = .ref c) (lc : K.lookup c = some ⟨oc2, od2, .fields vs, sl2⟩) (hv : vs[11]? = some (.ref P)) : PySem.W.CodeHd h c P ∧ h.get? P = some { cls := .none, data := .fields #[] } := by
  refine PySem.W.tab_of T X hd ?_
  unfold PySem.W.tabIn
  simp only [a, l, hc, lc, hv]
theorem walk_tabs {r : OpenSpec} {k : Nat} {q : Program} {loose : List Str} {Xq : (Str → Option Value) → Heap → Prop} {YP : World → Heap → Prop} {d : DefRec} {K : Params → PySem.W.Frag} {ps : List Str}
    (said : r.wellSaid = true) (nodef : d.params.defaults = []) (many : r.args.length = ps.length) (room : Room k callerA) (hY : ∀ (w : World) (h : Heap), YP w h → (K w.params).In h)
    (F : ∀ (w : World) (mean : ExcName → Option Value) (mg mb : Str → Option Value) (fa : Addr) (h : Heap), YP w h → (K w.params).In h → Top q (PySem.W.looseW q loose) mean mg mb h → mg d.name = some (.ref fa) →
      ∃ (fd : FuncData) (cs : List (Addr × Addr)) (sp : Sp), (∀ p ∈ cs, PySem.W.CodeHd h p.1 p.2 ∧ h.get? p.2 = some { cls := .none, data := .fields #[] }) ∧ (∀ p ∈ cs, (K w.params).lookup p.2 = none) ∧ (∀ (s : Shared) (us : List Value), us.length = ps.length → BindsTo s fd ⟨us, []⟩ (ps.zip us)) ∧
        (∀ base : Heap, (K w.params).In base → base.Ns mainGlobals mg → (∀ p ∈ cs, TabB base mg p.1 p.2) → FnOk r.prog w (K w.params) mg base CX0 k fa fd ps sp) ∧
        ∀ (H : Hp) (xs : List V) (a : Codec.denoteAll r.args), (∀ p ∈ cs, H p.2 = some (.tbl #[])) → Codec.withinAll r.args a = true → Codec.app r.args r.asked a = true → DwAll (K w.params) H xs (Codec.encAll r.args a) →
          sp xs H (fun v H' => Dw (K w.params) H' v (r.ret.enc (Codec.app r.args r.f a))) fun _ _ _ => False) :
    PySem.W.WalkOS q loose Xq YP r d [] (fun f vs => PySem.call f vs) := by
  intro w s0 s1 mg mb G Y fa o pm cd doc dV kV _ _ _ _ hmg hg args vals as hpre hlay _ hwl _
  obtain ⟨a, e1, e2⟩ := PySem.W.os_pre_some hpre
  obtain ⟨rfl, within⟩ := Codec.encAll_of_decAll r.args args a e1
  have KX := hY w _ Y
  obtain ⟨fd, cs, sp, tabs, outK, binds, ok, promise⟩ := F w _ mg mb fa _ Y KX G.T hmg
  have run := call_tabs (R := []) (cl := classAt s0.heap) (d0 := r.ret.enc (Codec.app r.args r.f a)) KX G.T.g G.T.b G.T.builtins G.T.nolimit hg (fun p hp => (tabs p hp).2) outK (fun p hp => (tabs p hp).1) G.T.bmain hwl (pl_encAll _ _) (layable_weight hlay) room ok binds (by rw [encAll_len]; exact many)
    fun H xs hT hS => promise H xs a hT within e2 hS
  refine PySem.W.enter_call (codeAny_mono run fun r' s' hq => ?_)
  obtain ⟨u, as', rfl, h1, h2, h3, h4⟩ := hq
  exact ⟨.inl ⟨u, _, as', rfl, fun _ => rfl, h1, (OpenSpec.post_iff said within _ _).mpr rfl, fun z => Bool.noConfusion (show false = true from z)⟩, h2, h3, h4⟩
end Bt

namespace Bt
open PySem PySem.Spec PyProof.Rows L2
def top (i : Nat) : Stmt := PySem.Challenge.pw_blocktrees_s20_difference.main.body.getD i (.Pass ⟨0, 0, 0, 0⟩)
local macro_rules | `(tactic| walk_at "sx") => `(tactic| simp only [cxK, tTru, rLen, rListOf, rTupOf, tRet, tRetN, tChain, tRng, tCB, tCons, tNil, tC, tVar, tOp, tUn, tTest, tB, tAnd, tOr, tNot, tIfS, tSeq, tIf, tOrV, tAndV, tNotV, tCall, tSl, tPart, tNoPart, tLst, tTup, tBM, tBM0, rExtendS, iList, iTup, iSeqV, rIxL, rIxT, rSlL, rAppend, rExtend, rCat, rI0, rI, rIxS, rEq, rNe, rU, tAsg, gName, tDrop, tNext, scal, L2.start, List.map_cons, List.map_nil, List.length_cons, List.length_nil, Nat.reduceAdd, Nat.reduceSub, List.replicate_succ, List.replicate_zero, List.append_nil, List.cons_append, List.nil_append, List.getElem?_cons_zero, List.getElem?_cons_succ, Option.some.injEq, exists_eq_left', exists_eq_left, V.int.injEq, V.bl.injEq, V.str.injEq, V.ref.injEq, List.cons.injEq, and_true, true_and, exists_and_left, List.set_cons_zero, List.set_cons_succ, spN1_run, tFC, sFC, sFCAug, tMeth, tMake, sRaise, tErF, rAdd, rPop, tM1, tCallL, Option.some.injEq, HO.ins.injEq])
local macro_rules | `(tactic| walk_at "sm") => `(tactic| (repeat (first | exact Same.refl _ | assumption | (refine Same.trans ?_ (same_new (by assumption))) | (refine Same.trans ?_ (by assumption)))))
section
variable {P : Program} {w : World} {K : PySem.W.Frag} {mg : Str → Option Value} {base : Heap}
abbrev s_is_space : Stmt := top 10
theorem sc_is_space : FnScope ["byte"] ["byte"] (defScope s_is_space) := ⟨rfl, rfl, rfl, by decide +kernel, rfl, by decide +kernel, by decide +kernel⟩
theorem ok_is_space (D : Dn K mg "is_space" s_is_space ["byte"]) (c_SPACE : IsC mg "SPACE" (.int 32)) (c_TAB : IsC mg "TAB" (.int 9)) (c_LINE_FEED : IsC mg "LINE_FEED" (.int 10)) (c_CARRIAGE_RETURN : IsC mg "CARRIAGE_RETURN" (.int 13)) :
    OwnOk P w K mg base CX0 1 "is_space" ["byte"] (spN1 fun n => .bl (Kh450.isWhite n)) := by
  refine own_ok D sc_is_space (fun _ _ _ _ h => spN1_len h) (fun f cdv A outer s H vs Q E hr h => ⟨_, (pss_one (ps_ret (pe_cmpR (kop_in (K := K) rfl) (pv 0) (pe_tup (pa_cons (pe_cst (by rfl) c_SPACE) (pa_cons (pe_cst (by rfl) c_TAB) (pa_cons (pe_cst (by rfl) c_LINE_FEED) (pa_cons (pe_cst (by rfl) c_CARRIAGE_RETURN) pa_nil))))) (by rfl)))), ?_⟩)
  obtain ⟨n, rfl, q⟩ := h
  refine ⟨_, rfl, by decide, fun p hp => ⟨p, _, rfl, .inr (SqT.of upd_same), rfl, rfl, fin_bl ?_ (q _ (same_new hp))⟩⟩
  simp only [Kh450.isWhite, inV, List.any_cons, List.any_nil, eqV, Bool.or_false]
  rw [Bool.eq_iff_iff]; simp; omega
abbrev s_is_lowercase : Stmt := top 11
theorem sc_is_lowercase : FnScope ["byte"] ["byte"] (defScope s_is_lowercase) := ⟨rfl, rfl, rfl, by decide +kernel, rfl, by decide +kernel, by decide +kernel⟩
theorem ok_is_lowercase (D : Dn K mg "is_lowercase" s_is_lowercase ["byte"]) (n_ord : mg "ord" = none) : OwnOk P w K mg base CX0 1 "is_lowercase" ["byte"] (spN1 fun n => .bl (Kh450.isLower n)) := by
  refine own_ok D sc_is_lowercase (fun _ _ _ _ h => spN1_len h) (fun f cdv A outer s H vs Q E hr h => ⟨_, (pss_one (ps_ret (pe_rng (pe_ordL 97 n_ord) (pv 0) (pe_ordL 122 n_ord) (mono := mono_var)))), ?_⟩)
  obtain ⟨n, rfl, q⟩ := h
  refine ⟨_, rfl, _, rfl, fin_bl ?_ (q _ (Same.refl _))⟩
  rw [Bool.eq_iff_iff]; simp [Kh450.isLower]; omega
abbrev s_is_uppercase : Stmt := top 12
theorem sc_is_uppercase : FnScope ["byte"] ["byte"] (defScope s_is_uppercase) := ⟨rfl, rfl, rfl, by decide +kernel, rfl, by decide +kernel, by decide +kernel⟩
theorem ok_is_uppercase (D : Dn K mg "is_uppercase" s_is_uppercase ["byte"]) (n_ord : mg "ord" = none) : OwnOk P w K mg base CX0 1 "is_uppercase" ["byte"] (spN1 fun n => .bl (Kh450.isUpper n)) := by
  refine own_ok D sc_is_uppercase (fun _ _ _ _ h => spN1_len h) (fun f cdv A outer s H vs Q E hr h => ⟨_, (pss_one (ps_ret (pe_rng (pe_ordL 65 n_ord) (pv 0) (pe_ordL 90 n_ord) (mono := mono_var)))), ?_⟩)
  obtain ⟨n, rfl, q⟩ := h
  refine ⟨_, rfl, _, rfl, fin_bl ?_ (q _ (Same.refl _))⟩
  rw [Bool.eq_iff_iff]; simp [Kh450.isUpper]; omega
abbrev s_is_digit : Stmt := top 13
theorem sc_is_digit : FnScope ["byte"] ["byte"] (defScope s_is_digit) := ⟨rfl, rfl, rfl, by decide +kernel, rfl, by decide +kernel, by decide +kernel⟩
theorem ok_is_digit (D : Dn K mg "is_digit" s_is_digit ["byte"]) (n_ord : mg "ord" = none) : OwnOk P w K mg base CX0 1 "is_digit" ["byte"] (spN1 fun n => .bl (Kh450.isDigit n)) := by
  refine own_ok D sc_is_digit (fun _ _ _ _ h => spN1_len h) (fun f cdv A outer s H vs Q E hr h => ⟨_, (pss_one (ps_ret (pe_rng (pe_ordL 48 n_ord) (pv 0) (pe_ordL 57 n_ord) (mono := mono_var)))), ?_⟩)
  obtain ⟨n, rfl, q⟩ := h
  refine ⟨_, rfl, _, rfl, fin_bl ?_ (q _ (Same.refl _))⟩
  rw [Bool.eq_iff_iff]; simp [Kh450.isDigit]; omega
abbrev s_is_continuation : Stmt := top 15
theorem sc_is_continuation : FnScope ["byte"] ["byte"] (defScope s_is_continuation) := ⟨rfl, rfl, rfl, by decide +kernel, rfl, by decide +kernel, by decide +kernel⟩
theorem ok_is_continuation (D : Dn K mg "is_continuation" s_is_continuation ["byte"]) : OwnOk P w K mg base CX0 1 "is_continuation" ["byte"] (spN1 fun n => .bl (Kh450.isContinuation n)) := by
  refine own_ok D sc_is_continuation (fun _ _ _ _ h => spN1_len h) (fun f cdv A outer s H vs Q E hr h => ⟨_, (pss_one (ps_ret (pe_rng pe_int (pv 0) pe_int (mono := mono_var)))), ?_⟩)
  obtain ⟨n, rfl, q⟩ := h
  refine ⟨_, rfl, _, rfl, fin_bl ?_ (q _ (Same.refl _))⟩
  rw [Bool.eq_iff_iff]; simp [Kh450.isContinuation]; omega
def isLD (n : Nat) : Bool := Kh450.isLower n || Kh450.isUpper n || Kh450.isDigit n
abbrev s_is_letter_or_digit : Stmt := top 14
theorem sc_is_letter_or_digit : FnScope ["byte"] ["byte"] (defScope s_is_letter_or_digit) := ⟨rfl, rfl, rfl, by decide +kernel, rfl, by decide +kernel, by decide +kernel⟩
theorem ok_is_letter_or_digit (D : Dn K mg "is_letter_or_digit" s_is_letter_or_digit ["byte"]) (o_is_lowercase : OwnOk P w K mg base CX0 1 "is_lowercase" ["byte"] (spN1 fun n => .bl (Kh450.isLower n))) (o_is_uppercase : OwnOk P w K mg base CX0 1 "is_uppercase" ["byte"] (spN1 fun n => .bl (Kh450.isUpper n))) (o_is_digit : OwnOk P w K mg base CX0 1 "is_digit" ["byte"] (spN1 fun n => .bl (Kh450.isDigit n))) :
    OwnOk P w K mg base CX0 2 "is_letter_or_digit" ["byte"] (spN1 fun n => .bl (isLD n)) := by
  refine own_ok D sc_is_letter_or_digit (fun _ _ _ _ h => spN1_len h) (fun f cdv A outer s H vs Q E hr h => ⟨_, (pss_one (ps_ret (pe_or (pe_own o_is_lowercase (hr.mono (by omega)) rfl pass0 (pa_cons (pv 0) pa_nil)) (pe_or (pe_own o_is_uppercase (hr.mono (by omega)) rfl pass0 (pa_cons (pv 0) pa_nil)) (pe_one (pe_own o_is_digit (hr.mono (by omega)) rfl pass0 (pa_cons (pv 0) pa_nil))))))), ?_⟩)
  obtain ⟨n, rfl, q⟩ := h
  walk_at "sx"
  intro H1 s1
  simp only [isLD] at q
  cases h1 : Kh450.isLower n
  · rw [h1] at q; simp only [Bool.false_or, Bool.false_eq_true, if_false] at q ⊢
    intro H2 s2
    cases h2 : Kh450.isUpper n
    · rw [h2] at q; simp only [Bool.false_or, Bool.false_eq_true, if_false] at q ⊢
      intro H3 s3
      refine q _ ?_
      walk_at "sm"
    · rw [h2] at q
      simp only [if_true]
      refine q _ ?_
      walk_at "sm"
  · rw [h1] at q
    simp only [if_true]
    refine q _ ?_
    walk_at "sm"
def annLen (n : Nat) : Nat := if n < 128 then 1 else if 194 ≤ n ∧ n ≤ 223 then 2 else if 224 ≤ n ∧ n ≤ 239 then 3 else if 240 ≤ n ∧ n ≤ 244 then 4 else 0
abbrev s_announced_length : Stmt := top 16
theorem sc_announced_length : FnScope ["first"] ["first"] (defScope s_announced_length) := ⟨rfl, rfl, rfl, by decide +kernel, rfl, by decide +kernel, by decide +kernel⟩
theorem ok_announced_length (D : Dn K mg "announced_length" s_announced_length ["first"]) : OwnOk P w K mg base CX0 1 "announced_length" ["first"] (spN1 fun n => .int (annLen n : Nat)) := by
  refine own_ok D sc_announced_length (fun _ _ _ _ h => spN1_len h) (fun f cdv A outer s H vs Q E hr h => ⟨_, (pss_cons (ps_if (pt_cmpR op_lt (pv 0) pe_int (nomark _)) (pss_one (ps_ret pe_int)) pss_nil)
    (pss_cons (ps_if (pt_rng pe_int (pv 0) pe_int (mono := mono_var)) (pss_one (ps_ret pe_int)) pss_nil)
    (pss_cons (ps_if (pt_rng pe_int (pv 0) pe_int (mono := mono_var)) (pss_one (ps_ret pe_int)) pss_nil)
    (pss_cons (ps_if (pt_rng pe_int (pv 0) pe_int (mono := mono_var)) (pss_one (ps_ret pe_int)) pss_nil)
    (pss_one (ps_ret pe_int)))))), ?_⟩)
  obtain ⟨n, rfl, q⟩ := h
  have q := q _ (Same.refl _)
  simp only [annLen] at q
  walk_at "sx"
  simp only [decide_eq_true_eq, Bool.and_eq_true]
  by_cases h1 : n < 128
  · rw [if_pos (by omega)]; rw [if_pos h1] at q; exact q
  rw [if_neg (by omega)]; rw [if_neg h1] at q
  by_cases h2 : 194 ≤ n ∧ n ≤ 223
  · rw [if_pos (by omega)]; rw [if_pos h2] at q; exact q
  rw [if_neg (by omega)]; rw [if_neg h2] at q
  by_cases h3 : 224 ≤ n ∧ n ≤ 239
  · rw [if_pos (by omega)]; rw [if_pos h3] at q; exact q
  rw [if_neg (by omega)]; rw [if_neg h3] at q
  by_cases h4 : 240 ≤ n ∧ n ≤ 244
  · rw [if_pos (by omega)]; rw [if_pos h4] at q; exact q
  rw [if_neg (by omega)]; rw [if_neg h4] at q
  exact q
/-- a def of two small numbers -/
def spN2 (f : Nat → Nat → V) : Sp := fun vs H Q _ => ∃ n m : Nat, vs = [.int n, .int m] ∧ ∀ H', Same H H' → Q (f n m) H'
theorem spN2_len {f : Nat → Nat → V} {vs H Q E} (h : spN2 f vs H Q E) : vs.length = 2 := by
  obtain ⟨i, j, rfl, _⟩ := h
  rfl
def sbf (a b : Nat) : Bool := if a = 224 then decide (160 ≤ b) else if a = 237 then decide (b ≤ 159) else if a = 240 then decide (144 ≤ b) else if a = 244 then decide (b ≤ 143) else true
abbrev s_second_byte_fits : Stmt := top 17
theorem sc_second_byte_fits : FnScope ["first", "second"] ["first", "second"] (defScope s_second_byte_fits) := ⟨rfl, rfl, rfl, by decide +kernel, rfl, by decide +kernel, by decide +kernel⟩
theorem ok_second_byte_fits (D : Dn K mg "second_byte_fits" s_second_byte_fits ["first", "second"]) : OwnOk P w K mg base CX0 1 "second_byte_fits" ["first", "second"] (spN2 fun a b => .bl (sbf a b)) := by
  refine own_ok D sc_second_byte_fits (fun _ _ _ _ h => spN2_len h) (fun f cdv A outer s H vs Q E hr h => ⟨_, (pss_cons (ps_if (pt_cmpR op_eq (pv 0) pe_int (nomark _)) (pss_one (ps_ret (pe_cmpR op_ge (pv 1) pe_int (nomark _)))) pss_nil)
    (pss_cons (ps_if (pt_cmpR op_eq (pv 0) pe_int (nomark _)) (pss_one (ps_ret (pe_cmpR op_le (pv 1) pe_int (nomark _)))) pss_nil)
    (pss_cons (ps_if (pt_cmpR op_eq (pv 0) pe_int (nomark _)) (pss_one (ps_ret (pe_cmpR op_ge (pv 1) pe_int (nomark _)))) pss_nil)
    (pss_cons (ps_if (pt_cmpR op_eq (pv 0) pe_int (nomark _)) (pss_one (ps_ret (pe_cmpR op_le (pv 1) pe_int (nomark _)))) pss_nil)
    (pss_one (ps_ret pe_bl)))))), ?_⟩)
  obtain ⟨n, m, rfl, q⟩ := h
  have q := q _ (Same.refl _)
  simp only [sbf] at q
  walk_at "sx"
  simp only [decide_eq_true_eq]
  by_cases h1 : n = 224
  · rw [if_pos (by omega)]; rw [if_pos h1] at q; exact fin_bl (dec_eq (by omega)) q
  rw [if_neg (by omega)]; rw [if_neg h1] at q
  by_cases h2 : n = 237
  · rw [if_pos (by omega)]; rw [if_pos h2] at q; exact fin_bl (dec_eq (by omega)) q
  rw [if_neg (by omega)]; rw [if_neg h2] at q
  by_cases h3 : n = 240
  · rw [if_pos (by omega)]; rw [if_pos h3] at q; exact fin_bl (dec_eq (by omega)) q
  rw [if_neg (by omega)]; rw [if_neg h3] at q
  by_cases h4 : n = 244
  · rw [if_pos (by omega)]; rw [if_pos h4] at q; exact fin_bl (dec_eq (by omega)) q
  rw [if_neg (by omega)]; rw [if_neg h4] at q
  exact q
/-! ### sequences -/
def seqLen : List Nat → Nat
  | [] => 0
  | a :: r => if (r.take (annLen a - 1)).length + 1 < annLen a then 0 else if (r.take (annLen a - 1)).all Kh450.isContinuation then (match r.take (annLen a - 1) with
    | [] => annLen a
    | b :: _ => if sbf a b then annLen a else 0) else 0
/-- sequence_length(data, start) -/
def spSeq (K : PySem.W.Frag) : Sp := fun vs H Q _ => ∃ (v : V) (d : List Nat) (i : Nat), vs = [v, .int i] ∧ Lr K d v H ∧ i < d.length ∧ ∀ H', Same H H' → Q (.int (seqLen (d.drop i) : Nat)) H'
theorem cut_seq (d : List Nat) (i n : Nat) (hi : i < d.length) (a : Nat) (r : List Nat) (h : d.drop i = a :: r) : cutV (nV d) (some ((i : Int) + 1)) (some ((i : Int) + (n : Int))) = nV (r.take (n - 1)) := by
  have hr : r = d.drop (i + 1) := by
    have := congrArg List.tail h
    simpa [List.tail_drop] using this.symm
  unfold cutV
  rw [show ((i : Int) + 1) = ((i + 1 : Nat) : Int) by omega, show ((i : Int) + (n : Int)) = ((i + n : Nat) : Int) by omega, HT.sIx_nat, HT.sIx_nat, List.length_map]
  rw [show min (i + 1) d.length = i + 1 by omega]
  rw [hr, ← List.map_drop, ← List.map_take]
  congr 1
  by_cases hn : i + n ≤ d.length
  · rw [show min (i + n) d.length - (i + 1) = n - 1 by omega]
  · rw [List.take_of_length_le (l := d.drop (i + 1)), List.take_of_length_le]
    · simp; omega
    · simp; omega
abbrev s_sequence_length : Stmt := top 18
theorem sc_sequence_length : FnScope ["data", "start", "length", "rest", "byte"] ["data", "start"] (defScope s_sequence_length) := ⟨rfl, rfl, rfl, by decide +kernel, rfl, by decide +kernel, by decide +kernel⟩
theorem ok_sequence_length (D : Dn K mg "sequence_length" s_sequence_length ["data", "start"]) (n_len : mg "len" = none) (o_announced_length : OwnOk P w K mg base CX0 1 "announced_length" ["first"] (spN1 fun n => .int (annLen n : Nat)))
    (o_is_continuation : OwnOk P w K mg base CX0 1 "is_continuation" ["byte"] (spN1 fun n => .bl (Kh450.isContinuation n))) (o_second_byte_fits : OwnOk P w K mg base CX0 1 "second_byte_fits" ["first", "second"] (spN2 fun a b => .bl (sbf a b))) :
    OwnOk P w K mg base CX0 2 "sequence_length" ["data", "start"] (spSeq K) := by
  refine own_ok D sc_sequence_length (fun _ _ _ _ h => by obtain ⟨v, d, i, rfl, _⟩ := h; rfl) (fun f cdv A outer s H vs Q E hr h => ⟨_, (pss_cons (ps_set (i := 2) sc_sequence_length.nd rfl (by first | exact Or.inl rfl | exact Or.inr rfl) (pe_own o_announced_length (hr.mono (by omega)) rfl pass0 (pa_cons (pe_ix (kix_list (K := K) rfl) (pv 0) (pv 1) (fun _ _ => rfl)) pa_nil)))
    (pss_cons (ps_set (i := 3) sc_sequence_length.nd rfl (by first | exact Or.inl rfl | exact Or.inr rfl) (pe_slice (ksl_list (K := K) rfl) (pv 0) (po_some (pe_op op_add (pv 1) pe_int)) (po_some (pe_op op_add (pv 1) (pv 2)))))
    (pss_cons (ps_if (pt_cmpR op_lt (pe_callB (kcall_len (K := K) rfl) (by rfl) n_len PySem.boot_len (pa_cons (pv 3) pa_nil)) (pe_op op_sub (pv 2) pe_int) (nomark _)) (pss_one (ps_ret pe_int)) pss_nil)
    (pss_cons (ps_for PassesOwn.never rfl (kpi_list (K := K) rfl (pv 3)) (pg_name (i := 4) sc_sequence_length.nd rfl (by first | exact Or.inl rfl | exact Or.inr rfl))
    (pss_one (ps_if (pt_not (pt_val (pe_own o_is_continuation (hr.mono (by omega)) rfl pass0 (pa_cons (pv 4) pa_nil)))) (pss_one (ps_ret pe_int)) pss_nil)))
    (pss_cons (ps_if (PW.pt (pw_and (kpt_truth (K := K) rfl (pv 3)) (pw_and1 (pt_not (pt_val (pe_own o_second_byte_fits (hr.mono (by omega)) rfl pass0 (pa_cons (pe_ix (kix_list (K := K) rfl) (pv 0) (pv 1) (fun _ _ => rfl)) (pa_cons (pe_ix (kix_list (K := K) rfl) (pv 3) pe_int (fun _ _ => rfl)) pa_nil)))))))) (pss_one (ps_ret pe_int)) pss_nil)
    (pss_one (ps_ret (pv 2)))))))), ?_⟩)
  obtain ⟨v, d, i, rfl, ⟨a, rfl, hS⟩, hi, q⟩ := h
  obtain ⟨c, r, hd⟩ : ∃ c r, d.drop i = c :: r := by
    cases e : d.drop i with
    | nil => rw [List.drop_eq_nil_iff] at e; omega
    | cons c r => exact ⟨c, r, rfl⟩
  rw [hd] at q
  have hc : (nV d)[i]? = some (.int (c : Int)) := nV_at (by have := congrArg (fun l => l[0]?) hd; simpa using this)
  refine ⟨_, rfl, _, rfl, a, _, i, _, rfl, rfl, hS, atI_nat hc, c, rfl, fun H1 s1 => ?_⟩
  walk_at "sx"
  refine ⟨_, s1.seq hS, fun p hp => ⟨_, .inl (SqL.of upd_same), ?_⟩⟩
  rw [cut_seq d i (annLen c) hi c r hd]
  have s2 : Same H (upd H1 p (.lst (nV (r.take (annLen c - 1))))) := s1.trans (same_new hp)
  simp only [seqLen] at q
  generalize hrest : r.take (annLen c - 1) = rest at q s2 ⊢
  refine ite2 (fun h1 => ?_) (fun h1 => ?_)
  · rw [decide_eq_true_eq, List.length_map] at h1
    rw [if_pos (by omega)] at q
    exact q _ s2
  rw [decide_eq_true_eq, List.length_map] at h1
  rw [if_neg (by omega)] at q
  refine ⟨_, rfl, p, rfl, ⟨_, SqL.of upd_same⟩, for_list (xs := nV rest) (fun j σ' H' => Same (upd H1 p (.lst (nV rest))) H' ∧ (∃ x, σ' = [some (.ref a), some (.int i), some (.int (annLen c : Nat)), some (.ref p), x]) ∧ (rest.take j).all Kh450.isContinuation = true)
    ⟨Same.refl _, ⟨_, rfl⟩, rfl⟩ (fun j σ' H' _ ⟨s3, _⟩ => s3.seq (SqL.of upd_same)) ?_ ?_⟩
  · rintro j x σ' H' hx ⟨s3, ⟨y, rfl⟩, hall⟩
    obtain ⟨b, hb, rfl⟩ := nV_get hx
    walk_at "sx"
    intro H3 s4
    cases hcb : Kh450.isContinuation b with
    | true =>
      simp only [Bool.not_true, Bool.false_eq_true, if_false]
      refine ⟨s3.trans s4, ⟨_, rfl⟩, ?_⟩
      rw [take_at hb, List.all_append, hall]
      simp [hcb]
    | false =>
      simp only [Bool.not_false, if_true]
      have hn : rest.all Kh450.isContinuation = false := List.all_eq_false.mpr ⟨b, List.mem_of_getElem? hb, by rw [hcb]; decide⟩
      rw [hn, if_neg (by decide)] at q
      exact q _ ((s2.trans s3).trans s4)
  · rintro σ' H' ⟨s3, ⟨y, rfl⟩, hall⟩
    rw [List.length_map, List.take_length] at hall
    rw [hall, if_pos rfl] at q
    walk_at "sx"
    have hR : SqL K H' p (nV rest) := s3.seq (SqL.of upd_same)
    cases rest with
    | nil =>
      refine ⟨_, .inl ⟨_, hR, rfl⟩, ?_⟩
      exact q _ (s2.trans s3)
    | cons b t =>
      refine ⟨_, .inl ⟨_, hR, rfl⟩, ?_⟩
      refine iteT ?_
      refine ⟨_, ((s2.trans s3)).seq hS, _, atI_nat hc, _, hR, _, atI_nat (j := 0) rfl, c, b, rfl, fun H4 s4 => ?_⟩
      have q := q _ ((s2.trans s3).trans s4)
      refine ⟨sbf c b, rfl, ?_⟩
      cases hs : sbf c b with
      | true =>
        simp only [hs, if_true] at q
        exact iteF q
      | false =>
        simp only [hs, Bool.false_eq_true, if_false] at q
        exact iteT q
/-- is_utf8(data) -/
def utf8Loop : Nat → List Nat → Bool
  | _, [] => true
  | 0, _ => false
  | k + 1, l => if seqLen l = 0 then false else utf8Loop k (l.drop (seqLen l))
def spUtf8 (K : PySem.W.Frag) : Sp := fun vs H Q _ => ∃ (v : V) (d : List Nat), vs = [v] ∧ Lr K d v H ∧ ∀ H', Same H H' → Q (.bl (utf8Loop d.length d)) H'
theorem utf8_fuel : ∀ (k k' : Nat) (l : List Nat), l.length ≤ k → l.length ≤ k' → utf8Loop k l = utf8Loop k' l
  | 0, 0, _, _, _ => rfl
  | k, k', [], _, _ => by cases k <;> cases k' <;> rfl
  | 0, _, a :: r, h, _ => by simp at h
  | _, 0, a :: r, _, h => by simp at h
  | k + 1, k' + 1, a :: r, h, h' => by
    show (if seqLen (a :: r) = 0 then false else utf8Loop k ((a :: r).drop (seqLen (a :: r)))) = (if seqLen (a :: r) = 0 then false else utf8Loop k' ((a :: r).drop (seqLen (a :: r))))
    by_cases z : seqLen (a :: r) = 0
    · rw [if_pos z, if_pos z]
    · rw [if_neg z, if_neg z]
      exact utf8_fuel k k' _ (by rw [List.length_drop]; simp only [List.length_cons] at h ⊢; omega) (by rw [List.length_drop]; simp only [List.length_cons] at h' ⊢; omega)
end
end Bt

namespace Bt
open Kh450 (decodeUtf8 encodeUtf8 isContinuation isScalar)
/-! ### UTF-8 -/
theorem seq_dec : ∀ (l : List Nat), (∀ b ∈ l, b < 256) → (match decodeUtf8 l with
  | none => seqLen l = 0
  | some (c, r) => 0 < seqLen l ∧ l.drop (seqLen l) = r ∧ l.take (seqLen l) = encodeUtf8 c)
  | [], _ => rfl
  | a :: r, hb => by
    have ha : a < 256 := hb a (by simp)
    unfold decodeUtf8
    dsimp only
    by_cases h1 : a < 0x80
    · rw [if_pos h1]
      have e : seqLen (a :: r) = 1 := by simp [seqLen, annLen, h1]
      simp [e, encodeUtf8, h1]
    rw [if_neg h1]
    by_cases h2 : a < 0xC2
    · rw [if_pos h2]
      have e : annLen a = 0 := by unfold annLen; rw [if_neg h1, if_neg (by omega), if_neg (by omega), if_neg (by omega)]
      simp [seqLen, e]
    rw [if_neg h2]
    by_cases h3 : a < 0xE0
    · rw [if_pos h3]
      have e : annLen a = 2 := by unfold annLen; rw [if_neg h1, if_pos (by omega)]
      have hs : ∀ b, sbf a b = true := fun b => by unfold sbf; rw [if_neg (by omega), if_neg (by omega), if_neg (by omega), if_neg (by omega)]
      cases r with
      | nil => simp [seqLen, e]
      | cons b r =>
        have hbb : b < 256 := hb b (by simp)
        by_cases hc : isContinuation b = true
        · have e2 : seqLen (a :: b :: r) = 2 := by simp [seqLen, e, hc, hs]
          simp only [hc, if_true]
          rw [e2]
          refine ⟨by omega, rfl, ?_⟩
          simp only [isContinuation, Bool.and_eq_true, decide_eq_true_eq] at hc
          unfold encodeUtf8
          rw [if_neg (by omega), if_pos (by omega)]
          simp
          omega
        · simp only [hc, if_false]
          simp [seqLen, e, hc]
    rw [if_neg h3]
    by_cases h4 : a < 0xF0
    · rw [if_pos h4]
      have e : annLen a = 3 := by unfold annLen; rw [if_neg h1, if_neg (by omega), if_pos (by omega)]
      match r, hb with
      | [], _ => simp [seqLen, e]
      | [b], _ => simp [seqLen, e]
      | b :: c :: r, hb =>
        have hbb : b < 256 := hb b (by simp)
        have hcc : c < 256 := hb c (by simp)
        dsimp only
        have e1 : seqLen (a :: b :: c :: r) = if isContinuation b && isContinuation c then (if sbf a b then 3 else 0) else 0 := by
          simp [seqLen, e]
        rw [e1]
        cases hb1 : isContinuation b <;> cases hc1 : isContinuation c <;> simp only [Bool.false_and, Bool.and_false, Bool.true_and, Bool.false_eq_true, if_false, if_true, Bool.and_self]
        simp only [isContinuation, Bool.and_eq_true, decide_eq_true_eq] at hb1 hc1
        have hs : sbf a b = (decide (0x800 ≤ a % 16 * 4096 + b % 64 * 64 + c % 64) && isScalar (a % 16 * 4096 + b % 64 * 64 + c % 64)) := by
          rw [Bool.eq_iff_iff]
          unfold sbf isScalar
          simp only [Bool.and_eq_true, decide_eq_true_eq, Bool.not_eq_true', Bool.and_eq_false_iff, decide_eq_false_iff_not]
          repeat' split
          all_goals (simp only [decide_eq_true_eq, true_iff]; omega)
        rw [hs]
        by_cases hq : (decide (0x800 ≤ a % 16 * 4096 + b % 64 * 64 + c % 64) && isScalar (a % 16 * 4096 + b % 64 * 64 + c % 64)) = true
        · simp only [hq, if_true]
          simp only [Bool.and_eq_true, decide_eq_true_eq] at hq
          refine ⟨by omega, rfl, ?_⟩
          unfold encodeUtf8
          rw [if_neg (by omega), if_neg (by omega), if_pos (by omega)]
          simp
          omega
        · simp only [hq, if_false, Bool.false_eq_true]
    rw [if_neg h4]
    by_cases h5 : a < 0xF5
    · rw [if_pos h5]
      have e : annLen a = 4 := by unfold annLen; rw [if_neg h1, if_neg (by omega), if_neg (by omega), if_pos (by omega)]
      match r, hb with
      | [], _ => simp [seqLen, e]
      | [b], _ => simp [seqLen, e]
      | [b, c], _ => simp [seqLen, e]
      | b :: c :: d :: r, hb =>
        have hbb : b < 256 := hb b (by simp)
        have hcc : c < 256 := hb c (by simp)
        have hdd : d < 256 := hb d (by simp)
        dsimp only
        have e1 : seqLen (a :: b :: c :: d :: r) = if isContinuation b && isContinuation c && isContinuation d then (if sbf a b then 4 else 0) else 0 := by
          simp [seqLen, e, Bool.and_assoc]
        rw [e1]
        cases hb1 : isContinuation b <;> cases hc1 : isContinuation c <;> cases hd1 : isContinuation d <;> simp only [Bool.false_and, Bool.and_false, Bool.true_and, Bool.false_eq_true, if_false, if_true, Bool.and_self]
        simp only [isContinuation, Bool.and_eq_true, decide_eq_true_eq] at hb1 hc1 hd1
        have hs : sbf a b = (decide (0x10000 ≤ a % 8 * 262144 + b % 64 * 4096 + c % 64 * 64 + d % 64) && isScalar (a % 8 * 262144 + b % 64 * 4096 + c % 64 * 64 + d % 64)) := by
          rw [Bool.eq_iff_iff]
          unfold sbf isScalar
          simp only [Bool.and_eq_true, decide_eq_true_eq, Bool.not_eq_true', Bool.and_eq_false_iff, decide_eq_false_iff_not]
          repeat' split
          all_goals (simp only [decide_eq_true_eq, true_iff]; omega)
        rw [hs]
        by_cases hq : (decide (0x10000 ≤ a % 8 * 262144 + b % 64 * 4096 + c % 64 * 64 + d % 64) && isScalar (a % 8 * 262144 + b % 64 * 4096 + c % 64 * 64 + d % 64)) = true
        · simp only [hq, if_true]
          simp only [Bool.and_eq_true, decide_eq_true_eq] at hq
          refine ⟨by omega, rfl, ?_⟩
          unfold encodeUtf8
          rw [if_neg (by omega), if_neg (by omega), if_neg (by omega)]
          simp
          omega
        · simp only [hq, if_false, Bool.false_eq_true]
    · rw [if_neg h5]
      have e : annLen a = 0 := by unfold annLen; rw [if_neg h1, if_neg (by omega), if_neg (by omega), if_neg (by omega)]
      simp [seqLen, e]
end Bt

namespace Bt
open PySem PySem.Spec PyProof.Rows L2
local macro_rules | `(tactic| walk_at "sx") => `(tactic| simp only [cxK, tTru, rLen, rListOf, rTupOf, tRet, tRetN, tChain, tRng, tCB, tCons, tNil, tC, tVar, tOp, tUn, tTest, tB, tAnd, tOr, tNot, tIfS, tSeq, tIf, tOrV, tAndV, tNotV, tCall, tSl, tPart, tNoPart, tLst, tTup, tBM, tBM0, rExtendS, iList, iTup, iSeqV, rIxL, rIxT, rSlL, rAppend, rExtend, rCat, rI0, rI, rIxS, rEq, rNe, rU, tAsg, gName, tDrop, tNext, scal, L2.start, List.map_cons, List.map_nil, List.length_cons, List.length_nil, Nat.reduceAdd, Nat.reduceSub, List.replicate_succ, List.replicate_zero, List.append_nil, List.cons_append, List.nil_append, List.getElem?_cons_zero, List.getElem?_cons_succ, Option.some.injEq, exists_eq_left', exists_eq_left, V.int.injEq, V.bl.injEq, V.str.injEq, V.ref.injEq, List.cons.injEq, and_true, true_and, exists_and_left, List.set_cons_zero, List.set_cons_succ, spN1_run, tFC, sFC, sFCAug, tMeth, tMake, sRaise, tErF, rAdd, rPop, tM1, tCallL, Option.some.injEq, HO.ins.injEq])
local macro_rules | `(tactic| walk_at "sm") => `(tactic| (repeat (first | exact Same.refl _ | assumption | (refine Same.trans ?_ (same_new (by assumption))) | (refine Same.trans ?_ (by assumption)))))
section
variable {P : Program} {w : World} {K : PySem.W.Frag} {mg : Str → Option Value} {base : Heap}
/-! ### pieces -/
def addPiece (ps : List (List Nat)) (b : Nat) : List (List Nat) := match ps.getLast? with
  | some p => (match p.getLast? with
    | some c => if Kh450.isWhite c = Kh450.isWhite b then ps.dropLast ++ [p ++ [b]] else ps ++ [[b]]
    | none => ps ++ [[b]])
  | none => ps ++ [[b]]
def pieces (l : List Nat) : List (List Nat) := l.foldl addPiece []
theorem pieces_snoc (l : List Nat) (b : Nat) : pieces (l ++ [b]) = addPiece (pieces l) b := by
  unfold pieces
  rw [List.foldl_append]
  rfl
def spPieces (K : PySem.W.Frag) : Sp := spG (fun l vs G => ∃ v, vs = [v] ∧ Lq K l v G ∧ l.length ≤ 1000000) (fun l => Lss (pieces l))
theorem addPiece_nil (b : Nat) : addPiece [] b = [[b]] := rfl
theorem addPiece_snoc (qs : List (List Nat)) (p : List Nat) (c b : Nat) : addPiece (qs ++ [p ++ [c]]) b = if Kh450.isWhite c = Kh450.isWhite b then qs ++ [(p ++ [c]) ++ [b]] else (qs ++ [p ++ [c]]) ++ [[b]] := by
  unfold addPiece
  simp
/-- the pieces as they lie: all but the last one published -/
def PcAt (G H0 H : Hp) (F : Addr) (n : Nat) (ps : List (List Nat)) : Prop := G F = none ∧ H0 F = none ∧ ((ps = [] ∧ H F = some (.lst [])) ∨
  ∃ qs p vs l, ps = qs ++ [p] ∧ p ≠ [] ∧ p.length ≤ n ∧ qs.length < n ∧ H F = some (.lst (vs ++ [.ref l])) ∧ Paired (fun l v => Ls l v G) qs vs ∧ H l = some (.lst (nV p)) ∧ G l = none ∧ H0 l = none ∧ l ≠ F)
/-! ### joined -/
theorem joinTexts_snoc (sep : List Nat) : ∀ (ls : List (List Nat)) (t : List Nat), ls ≠ [] → Kh450.joinTexts sep (ls ++ [t]) = Kh450.joinTexts sep ls ++ (sep ++ t)
  | [], _, h => absurd rfl h
  | [a], t, _ => by simp [Kh450.joinTexts]
  | a :: b :: r, t, _ => by
    have ih := joinTexts_snoc sep (b :: r) t (by simp)
    show a ++ sep ++ Kh450.joinTexts sep (b :: r ++ [t]) = a ++ sep ++ Kh450.joinTexts sep (b :: r) ++ (sep ++ t)
    rw [ih]
    simp [List.append_assoc]
theorem joinTexts_take_le (sep : List Nat) : ∀ (ls : List (List Nat)) (i : Nat), (Kh450.joinTexts sep (ls.take i)).length ≤ (Kh450.joinTexts sep ls).length
  | [], i => by simp
  | [a], i => by cases i <;> simp [Kh450.joinTexts]
  | a :: b :: r, 0 => by simp [Kh450.joinTexts]
  | a :: b :: r, 1 => by simp [Kh450.joinTexts]
  | a :: b :: r, i + 2 => by
    have ih := joinTexts_take_le sep (b :: r) (i + 1)
    show (a ++ sep ++ Kh450.joinTexts sep ((b :: r).take (i + 1))).length ≤ (a ++ sep ++ Kh450.joinTexts sep (b :: r)).length
    simp only [List.length_append]
    omega
def spJoined : Sp := spG (fun (x : List (List Nat) × List Nat) vs G => ∃ v u, vs = [v, u] ∧ Sqs x.1 v G ∧ Ls x.2 u G ∧ (Kh450.joinTexts x.2 x.1).length ≤ 1000000) (fun x => Ls (Kh450.joinTexts x.2 x.1))
abbrev s_joined : Stmt := top 21
theorem sc_joined : FnScope ["texts", "separator", "whole", "place", "text"] ["texts", "separator"] (defScope s_joined) := ⟨rfl, rfl, rfl, by decide +kernel, rfl, by decide +kernel, by decide +kernel⟩
theorem ok_joined (D : Dn K mg "joined" s_joined ["texts", "separator"]) (n_enumerate : mg "enumerate" = none) : OwnOk P w K mg base CX0 1 "joined" ["texts", "separator"] spJoined := by
  refine own_ok D sc_joined (fun _ _ _ _ h => by obtain ⟨G, l, _, ⟨v, u, rfl, _⟩, _⟩ := h; rfl) (fun f cdv A outer s H vs Q E hr h => ⟨_, (pss_cons (ps_set (i := 2) sc_joined.nd rfl (by first | exact Or.inl rfl | exact Or.inr rfl) (pe_lst pa_nil))
    (pss_cons (ps_for PassesOwn.never rfl (kpi_enum (K := K) rfl (by rfl) n_enumerate (pa_cons (pv 0) pa_nil)) (kpg_tup (K := K) rfl rfl (pgs_cons (pg_name (i := 3) sc_joined.nd rfl (by first | exact Or.inl rfl | exact Or.inr rfl)) (pgs_cons (pg_name (i := 4) sc_joined.nd rfl (by first | exact Or.inl rfl | exact Or.inr rfl)) pgs_nil)))
    (pss_cons (ps_if (pt_cmpR op_gt (pv 3) pe_int (nomark _)) (pss_one (ps_expr (kpe_bm (K := K) rfl PySem.F.plainAttrs_list PySem.F.slot_list_extend PySem.F.type_list_extend mt_extendS (pv 2) (pa_cons (pv 1) pa_nil)))) pss_nil)
    (pss_one (ps_expr (kpe_bm (K := K) rfl PySem.F.plainAttrs_list PySem.F.slot_list_extend PySem.F.type_list_extend mt_extendS (pv 2) (pa_cons (pv 4) pa_nil))))))
    (pss_one (ps_ret (pv 2))))), ?_⟩)
  obtain ⟨G, ⟨ls, sep⟩, sG, ⟨v, u, rfl, ⟨a, vs, rfl, ha, hp⟩, ⟨b, rfl, hb⟩, hlen⟩, q⟩ := h
  simp only at hlen q hp hb
  walk_at "sx"
  refine ⟨Nat.zero_le _, fun F hF => ?_⟩
  have e0 : Ext G H G (upd H F (.lst [])) := (Ext.refl sG).priv hF
  have hab : a ≠ F := fun z => by rw [← z, sG _ _ ha] at hF; cases hF
  have hbF : b ≠ F := fun z => by rw [← z, sG _ _ hb] at hF; cases hF
  refine ⟨_, rfl, a, vs, rfl, SqL.of (e0.sub _ _ ha), for_enum (xs := vs) (fun i σ' H' => i ≤ vs.length ∧ ∃ x y, σ' = [some (.ref a), some (.ref b), some (.ref F), x, y] ∧ Ext G H G H' ∧ H' F = some (.lst (nV (Kh450.joinTexts sep (ls.take i)))))
    ⟨Nat.zero_le _, _, _, rfl, e0, upd_same⟩ (fun i σ' H' _ ⟨_, x, y, _, e, _⟩ => SqL.of (e.sub _ _ ha)) ?_ ?_⟩
  · rintro i x σ' H' T hx ⟨hi, y, z, rfl, e, hFl⟩ hT
    obtain ⟨t, ht, ⟨c, rfl, hc⟩⟩ := Paired.at hp hx
    have hi' : i < vs.length := (List.getElem?_eq_some_iff.mp hx).1
    have hTF : T ≠ F := fun z => by rw [z, hFl] at hT; cases hT
    have hcF : c ≠ F := fun z => by
      subst z
      rcases hc with hc | hc <;> (rw [sG _ _ hc] at hF; cases hF)
    have hbT : b ≠ T := fun z => by rw [← z, e.sub _ _ hb] at hT; cases hT
    have hcT : c ≠ T := fun z => by
      subst z
      rcases hc with hc | hc <;> (rw [e.sub _ _ hc] at hT; cases hT)
    have eT : Ext G H G (upd H' T (.tup [.int (i : Int), .ref c])) := e.priv hT
    have hlt := joinTexts_take_le sep ls (i + 1)
    rw [take_at ht] at hlt ⊢
    refine ⟨T, _, rfl, SqT.of upd_same, rfl, _, _, rfl, _, _, rfl, rfl, ?_⟩
    walk_at "sx"
    have hFT : (upd H' T (.tup [.int (i : Int), .ref c])) F = some (.lst (nV (Kh450.joinTexts sep (ls.take i)))) := (upd_ne hTF.symm).trans hFl
    have hcH : ∀ {H2 : Hp}, Same G H2 → (H2 c = some (.lst (nV t)) ∨ H2 c = some (.tup (nV t))) := fun s2 => hc.imp (s2 _ _) (s2 _ _)
    by_cases h0 : i = 0
    · subst h0
      refine ite2 (fun z => by simp at z) (fun _ => ?_)
      refine ⟨tyL (SqL.of hFT), _, hFT, nV t, hcH eT.sub, ?_, hi', _, _, ⟨rfl, rfl⟩, eT.mut hF (sG.free hF), ?_⟩
      · rw [List.length_map, List.length_map]
        exact le_line (by simp [Kh450.joinTexts] at hlt ⊢; omega)
      · rw [upd_same]
        simp [Kh450.joinTexts]
    · refine ite2 (fun _ => ?_) (fun z => by simp at z; omega)
      have hne : ls.take i ≠ [] := fun z => by
        rcases List.take_eq_nil_iff.mp z with z | z
        · exact h0 z
        · rw [z] at ht; cases ht
      rw [joinTexts_snoc _ _ _ hne] at hlt ⊢
      simp only [List.length_append] at hlt
      refine ⟨tyL (SqL.of hFT), _, hFT, nV sep, .inl (eT.sub _ _ hb), ?_, ?_⟩
      · rw [List.length_map, List.length_map]
        exact le_line (by omega)
      have eM := eT.mut (o := .lst (nV (Kh450.joinTexts sep (ls.take i)) ++ nV sep)) hF (sG.free hF)
      refine ⟨tyL (SqL.of upd_same), _, upd_same, nV t, hcH eM.sub, ?_, hi', _, _, ⟨rfl, rfl⟩, eM.mut hF (sG.free hF), ?_⟩
      · rw [List.length_append, List.length_map, List.length_map, List.length_map]
        exact le_line (by omega)
      · rw [upd_same]
        simp [List.append_assoc]
  · rintro σ' H' ⟨_, x, y, rfl, e, hFl⟩
    have e' : ls.take vs.length = ls := by rw [← Paired.length hp]; exact List.take_length
    rw [e'] at hFl
    exact ⟨_, rfl, q _ _ _ (e.pub hF hFl) ⟨F, rfl, upd_same⟩⟩
theorem all_paired_any {α : Type} {R : α → V → Hp → Prop} (h : ∀ a v H, R a v H) : True := trivial
/-! ### ascii_bytes -/
def spAscii : Sp := spG (fun (z : Str) vs _ => vs = [.str z] ∧ z.length ≤ 1000000) (fun z => Ls z.cps.toList)
def Sg (c : Nat) (v : V) (_H : Hp) : Prop := v = .str ⟨#[c]⟩
theorem paired_sg {H : Hp} : ∀ l : List Nat, Paired (fun c v => Sg c v H) l (l.map fun c => V.str ⟨#[c]⟩)
  | [] => .nil
  | c :: r => .cons rfl (paired_sg r)
theorem filter_yes {α : Type} (l : List α) : l.filter (fun _ => true) = l := List.filter_eq_self.mpr fun _ _ => rfl
abbrev s_ascii_bytes : Stmt := top 9
theorem sc_ascii_bytes : FnScope ["text", "sign"] ["text"] (defScope s_ascii_bytes) := ⟨rfl, rfl, rfl, by decide +kernel, rfl, by decide +kernel, by decide +kernel⟩
theorem ok_ascii_bytes (D : Dn K mg "ascii_bytes" s_ascii_bytes ["text"]) (n_ord : mg "ord" = none) : OwnOk P w K mg base CX0 1 "ascii_bytes" ["text"] spAscii := by
  refine own_ok D sc_ascii_bytes (fun _ _ _ _ h => by obtain ⟨G, l, _, ⟨rfl, _⟩, _⟩ := h; rfl) (fun f cdv A outer s H vs Q E hr h => ⟨_, (pss_one (ps_ret (pe_lc (own := [("sign", 1)]) (g := gName 1) (tt := tYes) rfl sc_ascii_bytes.nd (pi_str (pv 0)) (blkOk_by (N := ["text", "sign"]) (sc := defScope s_ascii_bytes) (by decide +kernel)) (fun _ _ _ _ _ => pg_name (i := 1) sc_ascii_bytes.nd rfl (Or.inl rfl)) (fun _ _ _ _ _ => pts_nil) (fun _ _ _ _ _ => (pe_callB call_ord (by rfl) n_ord (by decide +kernel) (pa_cons (pv 1) pa_nil)))))), ?_⟩)
  obtain ⟨G, z, sG, ⟨rfl, hlen⟩, q⟩ := h
  refine ⟨_, rfl, z, rfl, fun F hF => lc_ofS (z := z) (R := Sg) Nm (fun _ => true) id sG (paired_sg _) (by rw [List.length_map]; exact lt_line (by rw [Array.length_toList]; exact hlen)) hF (fun _ _ _ _ _ h => h) Nm.same (fun _ => rfl) (fun c x G' H' _ e hx Q' k => k _ (Same.refl _)) (fun c x G' H' _ e hx _ Q' k => ?_) (fun G' H' ys e hF' gF hy => ?_)⟩
  · obtain rfl : x = _ := hx
    refine ⟨_, rfl, _, rfl, rfl, k _ _ _ (Ext.refl e.sub) rfl⟩
  · rw [filter_yes, List.map_id] at hy
    rw [paired_of_nV hy] at hF'
    exact q _ _ _ (e.pub hF hF') ⟨F, rfl, upd_same⟩
/-! ### words -/
def words (l : List Nat) : List (List Nat) := (pieces l).filter fun p => !Kh450.isWhite (p.headD 0)
def PcOk (ps : List (List Nat)) : Prop := ∀ p ∈ ps, p ≠ []
theorem addPiece_ok {ps : List (List Nat)} (b : Nat) (h : PcOk ps) : PcOk (addPiece ps b) := by
  unfold addPiece
  intro p hp
  split at hp
  · split at hp
    · split at hp
      · rcases List.mem_append.mp hp with hp | hp
        · exact h p (List.dropLast_subset _ hp)
        · simp at hp; subst hp; simp
      · rcases List.mem_append.mp hp with hp | hp
        · exact h p hp
        · simp at hp; subst hp; simp
    · rcases List.mem_append.mp hp with hp | hp
      · exact h p hp
      · simp at hp; subst hp; simp
  · rcases List.mem_append.mp hp with hp | hp
    · exact h p hp
    · simp at hp; subst hp; simp
theorem foldl_ok : ∀ (l : List Nat) (ps : List (List Nat)), PcOk ps → PcOk (l.foldl addPiece ps)
  | [], _, h => h
  | b :: r, ps, h => foldl_ok r _ (addPiece_ok b h)
theorem pieces_ok (l : List Nat) : PcOk (pieces l) := foldl_ok l [] (fun _ h => by cases h)
theorem addPiece_size (ps : List (List Nat)) (b : Nat) : (addPiece ps b).length ≤ ps.length + 1 := by
  unfold addPiece
  split
  · split
    · split
      · simp
      · simp
    · simp
  · simp
theorem pieces_size : ∀ (l : List Nat) (ps : List (List Nat)), (l.foldl addPiece ps).length ≤ ps.length + l.length
  | [], _ => by simp
  | b :: r, ps => by
    have := pieces_size r (addPiece ps b)
    have := addPiece_size ps b
    simp only [List.foldl_cons, List.length_cons]
    omega
def spWords (K : PySem.W.Frag) : Sp := spG (fun l vs G => ∃ v, vs = [v] ∧ Lq K l v G ∧ l.length ≤ 1000000) (fun l => Lss (words l))
/-! ### slugs -/
def lowerB (b : Nat) : Nat := if Kh450.isUpper b then b + 32 else b
def slugWord (l : List Nat) : List Nat := (l.filter isLD).map lowerB
def spSlugWord : Sp := spG (fun l vs G => ∃ v, vs = [v] ∧ Ls l v G ∧ l.length ≤ 1000000) (fun l => Ls (slugWord l))
abbrev s_with_length : Stmt := top 86
theorem sc_with_length : FnScope ["data"] ["data"] (defScope s_with_length) := ⟨rfl, rfl, rfl, by decide +kernel, rfl, by decide +kernel, by decide +kernel⟩
def spWithLen : Sp := spG (fun l vs G => ∃ v, vs = [v] ∧ Ls l v G ∧ l.length ≤ 900000) (fun l => Ls (l.length :: l))
theorem ok_with_length (D : Dn K mg "with_length" s_with_length ["data"]) (n_len : mg "len" = none) : OwnOk P w K mg base CX0 1 "with_length" ["data"] spWithLen := by
  refine own_ok D sc_with_length (fun _ _ _ _ h => by obtain ⟨G, l, _, ⟨v, rfl, _⟩, _⟩ := h; rfl) (fun f cdv A outer s H vs Q E hr h => ⟨_, (pss_one (ps_ret (pe_op op_cat (pe_lst (pa_cons (pe_callB (kcall_len (K := K) rfl) (by rfl) n_len PySem.boot_len (pa_cons (pv 0) pa_nil)) pa_nil)) (pv 0)))), ?_⟩)
  obtain ⟨G, l, sG, ⟨v, rfl, ⟨a, rfl, ha⟩, hlen⟩, q⟩ := h
  refine ⟨_, rfl, a, _, rfl, .inl (SqL.of (sG _ _ ha)), Nat.le_of_lt (lt_line (by simp)), fun p hp => ?_⟩
  have e1 : Ext G H G (upd H p (.lst [.int ((nV l).length : Nat)])) := (Ext.refl sG).priv hp
  refine ⟨_, rfl, p, a, _, _, rfl, rfl, upd_same, e1.sub _ _ ha, ?_, fun r hr => ?_⟩
  · show 1 + (nV l).length ≤ _
    rw [List.length_map]; exact le_line (by omega)
  · refine q _ _ _ (e1.made hr) ⟨r, rfl, upd_same.trans ?_⟩
    simp

end
end Bt

namespace Bt
open PySem PySem.Spec PyProof.Rows L2
local macro_rules | `(tactic| walk_at "sx") => `(tactic| simp only [cxK, tTru, rLen, rListOf, rTupOf, tRet, tRetN, tChain, tRng, tCB, tCons, tNil, tC, tVar, tOp, tUn, tTest, tB, tAnd, tOr, tNot, tIfS, tSeq, tIf, tOrV, tAndV, tNotV, tCall, tSl, tPart, tNoPart, tLst, tTup, tBM, tBM0, rExtendS, iList, iTup, iSeqV, rIxL, rIxT, rSlL, rAppend, rExtend, rCat, rI0, rI, rIxS, rEq, rNe, rU, tAsg, gName, tDrop, tNext, scal, L2.start, List.map_cons, List.map_nil, List.length_cons, List.length_nil, Nat.reduceAdd, Nat.reduceSub, List.replicate_succ, List.replicate_zero, List.append_nil, List.cons_append, List.nil_append, List.getElem?_cons_zero, List.getElem?_cons_succ, Option.some.injEq, exists_eq_left', exists_eq_left, V.int.injEq, V.bl.injEq, V.str.injEq, V.ref.injEq, List.cons.injEq, and_true, true_and, exists_and_left, List.set_cons_zero, List.set_cons_succ, spN1_run, tFC, sFC, sFCAug, tMeth, tMake, sRaise, tErF, rAdd, rPop, tM1, tCallL, Option.some.injEq, HO.ins.injEq])
local macro_rules | `(tactic| walk_at "sm") => `(tactic| (repeat (first | exact Same.refl _ | assumption | (refine Same.trans ?_ (same_new (by assumption))) | (refine Same.trans ?_ (by assumption)))))
section
variable {P : Program} {w : World} {K : PySem.W.Frag} {mg : Str → Option Value} {base : Heap}
/-! ### what texts and expressions need besides -/
abbrev s_continuation : Stmt := top 20
theorem sc_continuation : FnScope ["code"] ["code"] (defScope s_continuation) := ⟨rfl, rfl, rfl, by decide +kernel, rfl, by decide +kernel, by decide +kernel⟩
theorem ok_continuation (D : Dn K mg "continuation" s_continuation ["code"]) : OwnOk P w K mg base CX0 1 "continuation" ["code"] (spN1 fun n => .int (128 + n % 64 : Nat)) := by
  refine own_ok D sc_continuation (fun _ _ _ _ h => spN1_len h) (fun f cdv A outer s H vs Q E hr h => ⟨_, (pss_one (ps_ret (pe_op op_add pe_int (pe_op op_mod (pv 0) pe_int)))), ?_⟩)
  obtain ⟨n, rfl, q⟩ := h
  have q := q _ (Same.refl _)
  walk_at "sx"
  exact ⟨by decide, fin_int (by omega) q⟩
theorem shr6 (n : Nat) : (n : Int) / 2 ^ (6 : Int).toNat = ((n / 64 : Nat) : Int) := by show (n : Int) / 64 = _; omega
theorem shr12 (n : Nat) : (n : Int) / 2 ^ (12 : Int).toNat = ((n / 4096 : Nat) : Int) := by show (n : Int) / 4096 = _; omega
theorem shr18 (n : Nat) : (n : Int) / 2 ^ (18 : Int).toNat = ((n / 262144 : Nat) : Int) := by show (n : Int) / 262144 = _; omega
theorem enc3 {n : Nat} (h2 : ¬ (n : Int) < 2048) (h3 : decide ((n : Int) < 65536) = true) : Kh450.encodeUtf8 n = [224 + n / 4096, 128 + n / 64 % 64, 128 + n % 64] := by rw [decide_eq_true_eq] at h3; rw [Kh450.encodeUtf8, if_neg (by omega), if_neg (by omega), if_pos (by omega)]
theorem enc4 {n : Nat} (h3 : decide ((n : Int) < 65536) = false) : Kh450.encodeUtf8 n = [240 + n / 262144, 128 + n / 4096 % 64, 128 + n / 64 % 64, 128 + n % 64] := by rw [decide_eq_false_iff_not] at h3; rw [Kh450.encodeUtf8, if_neg (by omega), if_neg (by omega), if_neg (by omega)]
def spEnc : Sp := spG (fun (n : Nat) vs _ => vs = [.int (n : Int)]) (fun n => Ls (Kh450.encodeUtf8 n))
abbrev s_encoded : Stmt := top 19
theorem sc_encoded : FnScope ["code"] ["code"] (defScope s_encoded) := ⟨rfl, rfl, rfl, by decide +kernel, rfl, by decide +kernel, by decide +kernel⟩
theorem ok_encoded (D : Dn K mg "encoded" s_encoded ["code"]) (o_continuation : OwnOk P w K mg base CX0 1 "continuation" ["code"] (spN1 fun n => .int (128 + n % 64 : Nat))) : OwnOk P w K mg base CX0 2 "encoded" ["code"] spEnc := by
  refine own_ok D sc_encoded (fun _ _ _ _ h => by obtain ⟨G, n, _, rfl, _⟩ := h; rfl) (fun f cdv A outer s H vs Q E hr h => ⟨_, (pss_cons (ps_if (pt_cmpR op_lt (pv 0) pe_int (nomark _)) (pss_one (ps_ret (pe_lst (pa_cons (pv 0) pa_nil)))) pss_nil)
    (pss_cons (ps_if (pt_cmpR op_lt (pv 0) pe_int (nomark _)) (pss_one (ps_ret (pe_lst (pa_cons (pe_op op_add pe_int (pe_op op_shr (pv 0) pe_int)) (pa_cons (pe_own o_continuation (hr.mono (by omega)) rfl pass0 (pa_cons (pv 0) pa_nil)) pa_nil))))) pss_nil)
    (pss_cons (ps_if (pt_cmpR op_lt (pv 0) pe_int (nomark _)) (pss_one (ps_ret (pe_lst (pa_cons (pe_op op_add pe_int (pe_op op_shr (pv 0) pe_int)) (pa_cons (pe_own o_continuation (hr.mono (by omega)) rfl pass0 (pa_cons (pe_op op_shr (pv 0) pe_int) pa_nil)) (pa_cons (pe_own o_continuation (hr.mono (by omega)) rfl pass0 (pa_cons (pv 0) pa_nil)) pa_nil)))))) pss_nil)
    (pss_one (ps_ret (pe_lst (pa_cons (pe_op op_add pe_int (pe_op op_shr (pv 0) pe_int)) (pa_cons (pe_own o_continuation (hr.mono (by omega)) rfl pass0 (pa_cons (pe_op op_shr (pv 0) pe_int) pa_nil)) (pa_cons (pe_own o_continuation (hr.mono (by omega)) rfl pass0 (pa_cons (pe_op op_shr (pv 0) pe_int) pa_nil)) (pa_cons (pe_own o_continuation (hr.mono (by omega)) rfl pass0 (pa_cons (pv 0) pa_nil)) pa_nil)))))))))), ?_⟩)
  obtain ⟨G, n, sG, rfl, q⟩ := h
  walk_at "sx"
  generalize hb : decide ((n : Int) < 65536) = b
  have e0 := Ext.refl sG
  have sh6 := shr6 n
  have sh12 := shr12 n
  have sh18 := shr18 n
  have one (k : Nat) (h : k ≤ 4) : k ≤ sizeLine := le_line (by omega)
  by_cases h1 : (n : Int) < 128
  · rw [if_pos (decide_eq_true h1)]
    refine ⟨one _ (by decide), fun p hp => q _ _ _ (e0.made hp) ⟨p, rfl, ?_⟩⟩
    rw [upd_same, Kh450.encodeUtf8, if_pos (by omega)]
    rfl
  rw [if_neg (fun z => h1 (of_decide_eq_true z))]
  by_cases h2 : (n : Int) < 2048
  · rw [if_pos (decide_eq_true h2), sh6]
    refine ⟨by decide, fun H' s1 => ⟨one _ (by decide), fun p hp => q _ _ _ ((e0.heap s1).made hp) ⟨p, rfl, ?_⟩⟩⟩
    rw [upd_same, Kh450.encodeUtf8, if_neg (by omega), if_pos (by omega)]
    rfl
  rw [if_neg (fun z => h2 (of_decide_eq_true z))]
  cases b with
  | true =>
    rw [if_pos rfl, sh6, sh12]
    refine ⟨by decide, by decide, ?_⟩
    rw [spN1_run]
    intro H1 s1 H2 s2
    refine ⟨one _ (by decide), fun p hp => q _ _ _ ((e0.heap (s1.trans s2)).made hp) ⟨p, rfl, ?_⟩⟩
    rw [upd_same, enc3 h2 hb]
    rfl
  | false =>
    rw [if_neg (by decide), sh12, sh18]
    refine ⟨by decide, by decide, ?_⟩
    rw [spN1_run]
    intro H1 s1
    refine ⟨by decide, ?_⟩
    rw [sh6, spN1_run]
    intro H2 s2 H3 s3
    refine ⟨one _ (by decide), fun p hp => q _ _ _ ((e0.heap ((s1.trans s2).trans s3)).made hp) ⟨p, rfl, ?_⟩⟩
    rw [upd_same, enc4 hb]
    rfl
def isSym (n : Nat) : Bool := Kh450.isSymbolPart n
abbrev s_is_symbol_byte : Stmt := top 29
theorem sc_is_symbol_byte : FnScope ["byte"] ["byte"] (defScope s_is_symbol_byte) := ⟨rfl, rfl, rfl, by decide +kernel, rfl, by decide +kernel, by decide +kernel⟩
theorem ok_is_symbol_byte (D : Dn K mg "is_symbol_byte" s_is_symbol_byte ["byte"]) (n_ord : mg "ord" = none) (o_is_lowercase : OwnOk P w K mg base CX0 1 "is_lowercase" ["byte"] (spN1 fun n => .bl (Kh450.isLower n))) (o_is_digit : OwnOk P w K mg base CX0 1 "is_digit" ["byte"] (spN1 fun n => .bl (Kh450.isDigit n))) :
    OwnOk P w K mg base CX0 2 "is_symbol_byte" ["byte"] (spN1 fun n => .bl (Kh450.isSymbolPart n)) := by
  refine own_ok D sc_is_symbol_byte (fun _ _ _ _ h => spN1_len h) (fun f cdv A outer s H vs Q E hr h => ⟨_, (pss_one (ps_ret (pe_or (pe_own o_is_lowercase (hr.mono (by omega)) rfl pass0 (pa_cons (pv 0) pa_nil)) (pe_or (pe_own o_is_digit (hr.mono (by omega)) rfl pass0 (pa_cons (pv 0) pa_nil)) (pe_one (pe_cmpR op_eq (pv 0) (pe_ordL 45 n_ord) (nomark _))))))), ?_⟩)
  obtain ⟨n, rfl, q⟩ := h
  walk_at "sx"
  intro H1 s1
  simp only [Kh450.isSymbolPart] at q
  cases h1 : Kh450.isLower n
  · rw [h1] at q; simp only [Bool.false_or, Bool.false_eq_true, if_false] at q ⊢
    intro H2 s2
    cases h2 : Kh450.isDigit n
    · rw [h2] at q; simp only [Bool.false_or, Bool.false_eq_true, if_false] at q ⊢
      refine fin_bl ?_ (q _ ?_)
      · rw [Bool.eq_iff_iff]; simp; omega
      · walk_at "sm"
    · rw [h2] at q
      simp only [if_true]
      refine q _ ?_
      walk_at "sm"
  · rw [h1] at q
    simp only [if_true]
    refine q _ ?_
    walk_at "sm"
def hexVal (n : Nat) : Int := if Kh450.isDigit n then (n : Int) - 48 else (n : Int) - 97 + 10
abbrev s_hex_value : Stmt := top 31
theorem sc_hex_value : FnScope ["byte"] ["byte"] (defScope s_hex_value) := ⟨rfl, rfl, rfl, by decide +kernel, rfl, by decide +kernel, by decide +kernel⟩
theorem ok_hex_value (D : Dn K mg "hex_value" s_hex_value ["byte"]) (n_ord : mg "ord" = none) (o_is_digit : OwnOk P w K mg base CX0 1 "is_digit" ["byte"] (spN1 fun n => .bl (Kh450.isDigit n))) :
    OwnOk P w K mg base CX0 2 "hex_value" ["byte"] (spN1 fun n => .int (hexVal n)) := by
  refine own_ok D sc_hex_value (fun _ _ _ _ h => spN1_len h) (fun f cdv A outer s H vs Q E hr h => ⟨_, (pss_cons (ps_if (pt_val (pe_own o_is_digit (hr.mono (by omega)) rfl pass0 (pa_cons (pv 0) pa_nil))) (pss_one (ps_ret (pe_op op_sub (pv 0) (pe_ordL 48 n_ord)))) pss_nil)
    (pss_one (ps_ret (pe_op op_add (pe_op op_sub (pv 0) (pe_ordL 97 n_ord)) pe_int)))), ?_⟩)
  obtain ⟨n, rfl, q⟩ := h
  walk_at "sx"
  intro H1 s1
  have q := q _ s1
  simp only [hexVal] at q
  cases h1 : Kh450.isDigit n <;> rw [h1] at q <;> exact q
def isHex (n : Nat) : Bool := Kh450.isDigit n || decide (97 ≤ n) && decide (n ≤ 102)
abbrev s_is_hex_digit : Stmt := top 32
theorem sc_is_hex_digit : FnScope ["byte"] ["byte"] (defScope s_is_hex_digit) := ⟨rfl, rfl, rfl, by decide +kernel, rfl, by decide +kernel, by decide +kernel⟩
theorem ok_is_hex_digit (D : Dn K mg "is_hex_digit" s_is_hex_digit ["byte"]) (n_ord : mg "ord" = none) (o_is_digit : OwnOk P w K mg base CX0 1 "is_digit" ["byte"] (spN1 fun n => .bl (Kh450.isDigit n))) :
    OwnOk P w K mg base CX0 2 "is_hex_digit" ["byte"] (spN1 fun n => .bl (isHex n)) := by
  refine own_ok D sc_is_hex_digit (fun _ _ _ _ h => spN1_len h) (fun f cdv A outer s H vs Q E hr h => ⟨_, (pss_one (ps_ret (pe_or (pe_own o_is_digit (hr.mono (by omega)) rfl pass0 (pa_cons (pv 0) pa_nil)) (pe_one (pe_rng (pe_ordL 97 n_ord) (pv 0) (pe_ordL 102 n_ord) (mono := mono_var)))))), ?_⟩)
  obtain ⟨n, rfl, q⟩ := h
  walk_at "sx"
  intro H1 s1
  have q := q _ s1
  simp only [isHex] at q
  cases h1 : Kh450.isDigit n
  · rw [h1] at q; simp only [Bool.false_or, Bool.false_eq_true, if_false] at q ⊢
    refine fin_bl ?_ q
    rw [Bool.eq_iff_iff]; simp; omega
  · rw [h1] at q
    exact q
abbrev s_is_code_point : Stmt := top 33
theorem sc_is_code_point : FnScope ["code"] ["code"] (defScope s_is_code_point) := ⟨rfl, rfl, rfl, by decide +kernel, rfl, by decide +kernel, by decide +kernel⟩
theorem ok_is_code_point (D : Dn K mg "is_code_point" s_is_code_point ["code"]) (c_LARGEST_CODE : IsC mg "LARGEST_CODE" (.int 1114111)) :
    OwnOk P w K mg base CX0 1 "is_code_point" ["code"] (spN1 fun n => .bl (Kh450.isScalar n)) := by
  refine own_ok D sc_is_code_point (fun _ _ _ _ h => spN1_len h) (fun f cdv A outer s H vs Q E hr h => ⟨_, (pss_one (ps_ret (pe_and (pe_cmpR op_le (pv 0) (pe_cst (by rfl) c_LARGEST_CODE) (nomark _)) (pe_one (pe_not (pe_rng pe_int (pv 0) pe_int (mono := mono_var))))))), ?_⟩)
  obtain ⟨n, rfl, q⟩ := h
  have q := q _ (Same.refl _)
  walk_at "sx"
  simp only [decide_eq_true_eq]
  refine ite2 (fun h => fin_bl ?_ q) fun h => fin_bl ?_ q
  · rw [Bool.eq_iff_iff]; simp [Kh450.isScalar]; omega
  · rw [Bool.eq_iff_iff]; simp [Kh450.isScalar]; omega
theorem sign_of : ∀ i : Fin 26, ("abcdefghijklmnopqrstuvwxyz" : Str).cps.toList[i.val]? = some (97 + i.val) := by decide +kernel
theorem digit_of : ∀ i : Fin 10, ("0123456789" : Str).cps.toList[i.val]? = some (48 + i.val) := by decide +kernel
abbrev s_symbol_sign : Stmt := top 30
theorem sc_symbol_sign : FnScope ["byte"] ["byte"] (defScope s_symbol_sign) := ⟨rfl, rfl, rfl, by decide +kernel, rfl, by decide +kernel, by decide +kernel⟩
theorem ok_symbol_sign (D : Dn K mg "symbol_sign" s_symbol_sign ["byte"]) (n_ord : mg "ord" = none) (o_is_lowercase : OwnOk P w K mg base CX0 1 "is_lowercase" ["byte"] (spN1 fun n => .bl (Kh450.isLower n))) (o_is_digit : OwnOk P w K mg base CX0 1 "is_digit" ["byte"] (spN1 fun n => .bl (Kh450.isDigit n)))
    (c_LETTERS : IsC mg "LETTERS" (.str "abcdefghijklmnopqrstuvwxyz")) (c_DIGITS : IsC mg "DIGITS" (.str "0123456789")) :
    OwnOk P w K mg base CX0 2 "symbol_sign" ["byte"] (fun vs H Q _ => ∃ n : Nat, vs = [.int n] ∧ Kh450.isSymbolPart n = true ∧ ∀ H', Same H H' → Q (.str ⟨#[n]⟩) H') := by
  refine own_ok D sc_symbol_sign (fun _ _ _ _ h => by obtain ⟨n, rfl, _⟩ := h; rfl) (fun f cdv A outer s H vs Q E hr h => ⟨_, (pss_cons (ps_if (pt_val (pe_own o_is_lowercase (hr.mono (by omega)) rfl pass0 (pa_cons (pv 0) pa_nil))) (pss_one (ps_ret (pe_ix ix_str (pe_cst (by rfl) c_LETTERS) (pe_op op_sub (pv 0) (pe_ordL 97 n_ord)) (fun _ _ => rfl)))) pss_nil)
    (pss_cons (ps_if (pt_val (pe_own o_is_digit (hr.mono (by omega)) rfl pass0 (pa_cons (pv 0) pa_nil))) (pss_one (ps_ret (pe_ix ix_str (pe_cst (by rfl) c_DIGITS) (pe_op op_sub (pv 0) (pe_ordL 48 n_ord)) (fun _ _ => rfl)))) pss_nil)
    (pss_one (ps_ret pe_str)))), ?_⟩)
  obtain ⟨n, rfl, hn, q⟩ := h
  walk_at "sx"
  intro H1 s1
  refine ite2 (fun h => ?_) fun h H2 s2 => ite2 (fun h2 => ?_) fun h2 => ?_
  · have hb : 97 ≤ n ∧ n ≤ 122 := by simpa [Kh450.isLower] using h
    have hs := sign_of ⟨n - 97, by omega⟩
    refine ⟨by decide +kernel, _, ?_, q _ s1⟩
    rw [show ((n : Int) - ((97 : Nat) : Int)) = ((n - 97 : Nat) : Int) by omega, atI_nat hs]
    simp only [Option.some.injEq]; omega
  · have hb : 48 ≤ n ∧ n ≤ 57 := by simpa [Kh450.isDigit] using h2
    have hs := digit_of ⟨n - 48, by omega⟩
    refine ⟨by decide +kernel, _, ?_, q _ (s1.trans s2)⟩
    rw [show ((n : Int) - ((48 : Nat) : Int)) = ((n - 48 : Nat) : Int) by omega, atI_nat hs]
    simp only [Option.some.injEq]; omega
  · have e : n = 45 := by
      simp only [Kh450.isSymbolPart, Bool.or_eq_true, beq_iff_eq] at hn
      rcases hn with (hn | hn) | hn
      · exact absurd hn h
      · exact absurd hn h2
      · exact hn
    subst e
    exact q _ (s1.trans s2)

end
end Bt

namespace Bt
open PySem PySem.Spec PyProof.Rows L2
local macro_rules | `(tactic| walk_at "sx") => `(tactic| simp only [cxK, tTru, rLen, rListOf, rTupOf, tRet, tRetN, tChain, tRng, tCB, tCons, tNil, tC, tVar, tOp, tUn, tTest, tB, tAnd, tOr, tNot, tIfS, tSeq, tIf, tOrV, tAndV, tNotV, tCall, tSl, tPart, tNoPart, tLst, tTup, tBM, tBM0, rExtendS, iList, iTup, iSeqV, rIxL, rIxT, rSlL, rAppend, rExtend, rCat, rI0, rI, rIxS, rEq, rNe, rU, tAsg, gName, tDrop, tNext, scal, L2.start, List.map_cons, List.map_nil, List.length_cons, List.length_nil, Nat.reduceAdd, Nat.reduceSub, List.replicate_succ, List.replicate_zero, List.append_nil, List.cons_append, List.nil_append, List.getElem?_cons_zero, List.getElem?_cons_succ, Option.some.injEq, exists_eq_left', exists_eq_left, V.int.injEq, V.bl.injEq, V.str.injEq, V.ref.injEq, List.cons.injEq, and_true, true_and, exists_and_left, List.set_cons_zero, List.set_cons_succ, spN1_run, tFC, sFC, sFCAug, tMeth, tMake, sRaise, tErF, rAdd, rPop, tM1, tCallL, Option.some.injEq, HO.ins.injEq])
local macro_rules | `(tactic| walk_at "sm") => `(tactic| (repeat (first | exact Same.refl _ | assumption | (refine Same.trans ?_ (same_new (by assumption))) | (refine Same.trans ?_ (by assumption)))))
section
variable {P : Program} {w : World} {K : PySem.W.Frag} {mg : Str → Option Value} {base : Heap}
/-! ### the reader -/
abbrev s_Refusal_init : Stmt := inClass (top 2) 0
theorem sc_Refusal_init : FnScope ["self", "code"] ["self", "code"] (defScope s_Refusal_init) := ⟨rfl, rfl, rfl, by decide +kernel, rfl, by decide +kernel, by decide +kernel⟩
theorem ok_Refusal_init (D : DnB K mg "Refusal" "Refusal.__init__" s_Refusal_init ["self", "code"]) : OwnB P w K mg base 1 "Refusal" ["self", "code"] "code" := by
  refine base_ok D sc_Refusal_init rfl (fun f cdv A outer s H vs Q E hr h => ⟨_, (pss_one (ps_erF (K := K) rfl (pv 0) (pv 1))), ?_⟩)
  obtain ⟨a, C, x, rfl, ha, he, nf, q⟩ := h
  walk_at "sx"
  exact ⟨C, he, nf, .inl ⟨ha, q⟩⟩
abbrev s_NotationError_init : Stmt := inClass (top 3) 0
theorem sc_NotationError_init : FnScope ["self", "kind", "position"] ["self", "kind", "position"] (defScope s_NotationError_init) := ⟨rfl, rfl, rfl, by decide +kernel, rfl, by decide +kernel, by decide +kernel⟩
theorem ok_NotationError_init {C : Addr} (D : DnX K mg "NotationError" "NotationError.__init__" C s_NotationError_init ["self", "kind", "position"]) (b_Refusal : OwnB P w K mg base 1 "Refusal" ["self", "code"] "code")
    (nc : PySem.W.findIn K (.ref C) "code" = some none) (nk : PySem.W.findIn K (.ref C) "kind" = some none) (np : PySem.W.findIn K (.ref C) "position" = some none) :
    OwnX P w K mg base 2 "NotationError" C 2 neF ["self", "kind", "position"] := by
  refine err_ok D sc_NotationError_init rfl (fun f cdv A outer s H vs Q E hr h => ⟨_, (pss_cons (ps_expr (pe_binit b_Refusal (hr.mono (by omega)) (by rfl) pass0 (pa_cons (pv 0) (pa_cons (pe_un un_neg pe_int) pa_nil))))
    (pss_cons (ps_erF (K := K) rfl (pv 0) (pv 1))
    (pss_one (ps_erF (K := K) rfl (pv 0) (pv 2))))), ?_⟩)
  obtain ⟨a, ws, rfl, hn, ha, q⟩ := h
  obtain ⟨x, y, rfl⟩ : ∃ x y, ws = [x, y] := by
    match ws, hn with
    | [x, y], _ => exact ⟨x, y, rfl⟩
  have he := D.err
  walk_at "sx"
  refine ⟨a, C, _, rfl, ha, he, nc, fun d hd hne => ?_⟩
  refine ⟨C, he, nk, .inr ⟨d, upd_same, [("code", .int (-20))], (upd_ne hne).trans upd_same, by simp, C, he, np, .inr ⟨d, (upd_ne hne.symm).trans upd_same, _, upd_same, by simp, ?_⟩⟩⟩
  refine q d _ hd hne ((upd_ne hne.symm).trans ((upd_ne hne.symm).trans upd_same)) upd_same fun b ba bd => ?_
  rw [upd_ne bd, upd_ne bd, upd_ne ba, upd_ne bd]
theorem put_len {f : Str} {v : V} {fs : List (Str × V)} {n : Nat} (h : fs.length ≤ n) (l : n + 1 < 1000) : (putF f v fs).length ≤ n + 1 ∧ (putF f v fs).length < 1000 := by
  have := length_putF f v fs
  omega
abbrev s_Expression_init : Stmt := inClass (top 28) 0
theorem sc_Expression_init : FnScope ["self", "kind", "value", "position"] ["self", "kind", "value", "position"] (defScope s_Expression_init) := ⟨rfl, rfl, rfl, by decide +kernel, rfl, by decide +kernel, by decide +kernel⟩
theorem ok_Expression_init {C : Addr} (D : DnI K mg "Expression" "Expression.__init__" C s_Expression_init ["self", "kind", "value", "position"]) (q_Expression_kind : Kf K C "kind") (q_Expression_value : Kf K C "value") (q_Expression_position : Kf K C "position") :
    OwnI P w K mg base CX0 1 "Expression" C ["self", "kind", "value", "position"] (fun vs H Q _ => ∃ a dx x y z, vs = [.ref a, x, y, z] ∧ H a = some (.ins C dx []) ∧ Q .non (upd H a (.ins C dx [("kind", x), ("value", y), ("position", z)]))) := by
  refine ini_ok D sc_Expression_init (fun _ _ _ _ h => by obtain ⟨_, _, _, _, _, rfl, _⟩ := h; rfl) (fun f cdv A outer s H vs Q E hr h => ⟨_, (pss_cons (ps_fc (K := K) rfl q_Expression_kind (pv 0) (pv 1))
    (pss_cons (ps_fc (K := K) rfl q_Expression_value (pv 0) (pv 2))
    (pss_one (ps_fc (K := K) rfl q_Expression_position (pv 0) (pv 3))))), ?_⟩)
  obtain ⟨a, dx, x, y, z, rfl, ha, q⟩ := h
  walk_at "sx"
  refine ⟨dx, [], ha, by decide, dx, _, upd_same, by simp [putF], dx, _, upd_same, (put_len (n := 1) (put_len (n := 0) (Nat.le_refl _) (by decide)).1 (by decide)).2, ?_⟩
  rw [upd_upd, upd_upd]
  exact q

end
end Bt

namespace Bt
open PySem PySem.Spec PyProof.Rows L2
local macro_rules | `(tactic| walk_at "sx") => `(tactic| simp only [cxK, tTru, rLen, rListOf, rTupOf, tRet, tRetN, tChain, tRng, tCB, tCons, tNil, tC, tVar, tOp, tUn, tTest, tB, tAnd, tOr, tNot, tIfS, tSeq, tIf, tOrV, tAndV, tNotV, tCall, tSl, tPart, tNoPart, tLst, tTup, tBM, tBM0, rExtendS, iList, iTup, iSeqV, rIxL, rIxT, rSlL, rAppend, rExtend, rCat, rI0, rI, rIxS, rEq, rNe, rU, tAsg, gName, tDrop, tNext, scal, L2.start, List.map_cons, List.map_nil, List.length_cons, List.length_nil, Nat.reduceAdd, Nat.reduceSub, List.replicate_succ, List.replicate_zero, List.append_nil, List.cons_append, List.nil_append, List.getElem?_cons_zero, List.getElem?_cons_succ, Option.some.injEq, exists_eq_left', exists_eq_left, V.int.injEq, V.bl.injEq, V.str.injEq, V.ref.injEq, List.cons.injEq, and_true, true_and, exists_and_left, List.set_cons_zero, List.set_cons_succ, spN1_run, tFC, sFC, sFCAug, tMeth, tMake, sRaise, tErF, rAdd, rPop, tM1, tCallL, Option.some.injEq, HO.ins.injEq])
local macro_rules | `(tactic| walk_at "sm") => `(tactic| (repeat (first | exact Same.refl _ | assumption | (refine Same.trans ?_ (same_new (by assumption))) | (refine Same.trans ?_ (by assumption)))))
section
variable {P : Program} {w : World} {K : PySem.W.Frag} {mg : Str → Option Value} {base : Heap}
open LamX
/-! ### answer, answer_text: what is handed on is called, a refusal is answered by its code -/
/-- a def whose code object is known -/
structure DnC (K : PySem.W.Frag) (mg : Str → Option Value) (x : Str) (st : Stmt) (ps : List Str) (c : Addr) : Prop where
  ex : ∃ (f : Addr) (oc kV doc pm ct : Value) (od an : Option Addr) (sl : Array (Option Value)), mg x = some (.ref f) ∧ K.lookup f = some ⟨oc, od, .func (PySem.W.fnOf x x (defArgs st) (defBody st) (defScope st) .none kV doc pm an (.ref c) ct), sl⟩ ∧ PySem.W.codeIn K (.ref c) x = true ∧ PySem.W.keepIn K (.ref f) = true ∧
    Binds K (PySem.W.fnOf x x (defArgs st) (defBody st) (defScope st) .none kV doc pm an (.ref c) ct) ps []
theorem act_ok {x a : Str} {st : Stmt} {N : List Str} {kb : Nat} {T : List (Addr × Str)} {TT : (XK → Hp → VK → Prop) → Hp → VK → Prop} (D : Dn K mg x st [a]) (S : FnScope N [a] (defScope st))
    (hbody : ∀ (j : Nat) (g : Addr) (cdv : Value) (A : Around) (outer : List Env) (f : Addr) (s : Shared) (H : Hp) (Q : VK) (tl : XK → Hp → VK → Prop), Act P w K mg base j (frs outer) f H s tl → Room (kb + j) (A.deeper (envOfC x (defScope st) s.heap.objs.size g cdv)) → Tabs T H → TT tl H Q →
      ∃ t, PSs (cxOf CX0 P w K mg base N x (defScope st) g cdv A outer s H E0).nox (defBody st) t ∧ t { nx := fun _ H' => Q .non H', rt := Q } (start N [.ref f]) H) : OwnAct P w K mg base (kb + 1) x T TT := by
  obtain ⟨g, fd, hm, F, hb⟩ := D.ex
  obtain ⟨oc, od, kV, doc, pm, an, cdv, ct, osl, rfl, lk, hcd⟩ := F.ex
  refine ⟨g, hm, F.kp, fun j A outer f s H Q tl act e0 hr tabs want => ?_⟩
  have hr' : Room (kb + j + 1) A := by rwa [show kb + 1 + j = kb + j + 1 by omega] at hr
  refine run_ofS (us := [.ref f]) (vs := [.ref f]) lk hcd S hr' e0 (hb s [.ref f] (e0.mod.kin.keeps fun b o e => (e0.bs b o e).1) rfl) (.cons rfl .nil) rfl fun hr2 => ?_
  obtain ⟨t, h, q⟩ := hbody j g cdv A outer f s H Q tl act hr2 tabs want
  exact ⟨t, h.nox, q⟩
theorem act_okC {x a : Str} {st : Stmt} {N : List Str} {kb : Nat} {c : Addr} {T : List (Addr × Str)} {TT : (XK → Hp → VK → Prop) → Hp → VK → Prop} (D : DnC K mg x st [a] c) (S : FnScope N [a] (defScope st))
    (hbody : ∀ (j : Nat) (g : Addr) (A : Around) (outer : List Env) (f : Addr) (s : Shared) (H : Hp) (Q : VK) (tl : XK → Hp → VK → Prop), Act P w K mg base j (frs outer) f H s tl → Room (kb + j) (A.deeper (envOfC x (defScope st) s.heap.objs.size g (.ref c))) → Tabs T H → TT tl H Q →
      ∃ t, PSs (cxOf CX0 P w K mg base N x (defScope st) g (.ref c) A outer s H E0).nox (defBody st) t ∧ t { nx := fun _ H' => Q .non H', rt := Q } (start N [.ref f]) H) : OwnAct P w K mg base (kb + 1) x T TT := by
  obtain ⟨g, oc, kV, doc, pm, ct, od, an, sl, hm, lk, hcd, hk, hb⟩ := D.ex
  refine ⟨g, hm, hk, fun j A outer f s H Q tl act e0 hr tabs want => ?_⟩
  have hr' : Room (kb + j + 1) A := by rwa [show kb + 1 + j = kb + j + 1 by omega] at hr
  refine run_ofS (us := [.ref f]) (vs := [.ref f]) lk hcd S hr' e0 (hb s [.ref f] (e0.mod.kin.keeps fun b o e => (e0.bs b o e).1) rfl) (.cons rfl .nil) rfl fun hr2 => ?_
  obtain ⟨t, h, q⟩ := hbody j g A outer f s H Q tl act hr2 tabs want
  exact ⟨t, h.nox, q⟩
/-- n.f of a caught error of whatever own class -/
def tXfA (K : PySem.W.Frag) (a : Addr) (cls : Value) (d : Option Addr) (f : Str) (te : TE) : TE := fun σ H Q => te σ H fun x H1 => x = .ref a ∧ ∃ (C dd : Addr) (fs : List (Str × V)) (v : V), cls = .ref C ∧ XfC K C ∧ PySem.W.findIn K (.ref C) f = some none ∧ d = some dd ∧ H1 dd = some (.xd fs) ∧ fs.lookup f = some v ∧ Q v H1
theorem pe_xfA {X : Cx} {a : Addr} {oe : Obj} {cls : Value} {d : Option Addr} {pn : List (Addr × Obj)} {e : Expr} {te : TE} {pos : Pos} {n : Str} (hK : X.K = K) (hz : Zc cls d oe) (hf : ∃ vs, oe.data = .fields vs) (he : PE (X.suite a ((a, oe) :: pn)) e te)
    (hb : attributeBase e n X.env (eval e X.env) = eval e X.env := by rfl) : PE (X.suite a ((a, oe) :: pn)) (.Attribute e n pos) (tXfA K a cls d n te) := by
  subst hK
  constructor
  intro pins s σ H Q I want
  -- first the name alone, then the kit's rule at a value that is known
  refine attr_of hb (thn (he.run pins s σ H _ I want) fun u s1 got => ?_)
  obtain ⟨x, H1, I1, rx, rfl, C, dd, fs, v, rfl, T, no, rfl, lies, look, q⟩ := got
  cases (show u = Value.ref a from rx)
  obtain ⟨at_, _⟩ := I1.pin (a, oe) (List.mem_append_left _ List.mem_cons_self)
  obtain ⟨ws, data⟩ := hf
  have own : ObjOk X.prog X.w H1 s1.heap dd (.xd fs) := I1.hok dd _ lies
  obtain ⟨mA, names, same⟩ := own
  obtain ⟨od, at2, look2⟩ := lookIn_ns names
  obtain ⟨u2, hu2, ru2⟩ := RelO.some_of (v := v) (o := mA n) (by rw [← look]; exact same n)
  refine HandSPX.exc_get (od := some od) I1.kIn ⟨at_, hz.1, ?_, by rw [hz.2]; exact at2⟩ T.ga T.gg T.exC (PySem.W.findObj_own T.hdC no rfl (by rw [look2, hu2])) (handed_of ru2) ⟨v, H1, I1.tok _, ru2, q⟩
  unfold PySem.W.notCls
  rw [data] <;> rfl
/-- what becomes of a refusal: its code is answered -/
def EA (K : PySem.W.Frag) (CF : Addr) (Q : VK) : XK := fun cls d H => ∃ b, PySem.W.exmOne K cls (.ref CF) = some b ∧ (b = true → ∀ a, H a = none → tRet (tLst (tCons (tXfA K a cls d "code" (tVar 1)) tNil)) { nx := fun _ H' => Q .non H', rt := Q } [none, some (.ref a)] H) ∧ (b = false → False)
theorem EA_mk {CF C dd : Addr} {Q : VK} {H : Hp} {fs : List (Str × V)} {v : V} (te : PySem.W.exmOne K (.ref C) (.ref CF) = some true) (tx : XfC K C) (nc : PySem.W.findIn K (.ref C) "code" = some none) (lies : H dd = some (.xd fs)) (look : fs.lookup ("code" : Str) = some v)
    (q : ∀ p, H p = none → Q (.ref p) (upd H p (.lst [v]))) : EA K CF Q (.ref C) (some dd) H :=
  ⟨true, te, fun _ a ha => ⟨_, rfl, rfl, C, dd, fs, v, rfl, tx, nc, rfl, lies, look, by show 1 ≤ sizeLine; decide, q⟩, fun z => Bool.noConfusion z⟩
def TTans (K : PySem.W.Frag) (CF : Addr) : (XK → Hp → VK → Prop) → Hp → VK → Prop := fun tl H Q => tl (EA K CF Q) H Q
theorem frs_cx {CX : CXT} {N : List Str} {qual : Str} {sc : Scope} {g : Addr} {cd : Value} {A : Around} {outer : List Env} {s : Shared} {H : Hp} {E : XK} : frs (cxOf CX P w K mg base N qual sc g cd A outer s H E).stack = s.heap.objs.size :: frs outer := rfl
abbrev s_answer : Stmt := top 84
theorem sc_answer : FnScope ["operation", "refusal"] ["operation"] (defScope s_answer) := ⟨rfl, rfl, rfl, by decide +kernel, rfl, by decide +kernel, by decide +kernel⟩
theorem ok_answer {CF : Addr} {T : List (Addr × Str)} (D : Dn K mg "answer" s_answer ["operation"]) (at_Refusal : mg "Refusal" = some (.ref CF)) : OwnAct P w K mg base 2 "answer" T (TTans K CF) := by
  refine act_ok D sc_answer (fun j g cdv A outer f s H Q tl act hr tabs want => ⟨_, pss_one (ps_try_as (i := 1) (tb := fun W D σ H => σ[0]? = some (some (.ref f)) ∧ tl (WE W σ) H D.rt)
      (ts := fun a cls d => tRet (tLst (tCons (tXfA K a cls d "code" (tVar 1)) tNil))) (Wout := fun _ _ _ _ => False) rfl rfl sc_answer.nd rfl rfl ⟨rfl, by decide, Or.inl at_Refusal⟩ L2.takes0
      (fun W pn xe tk _ => pss_one (ps_ret (pe_actL (i := 0) (E := WE W) (tl := tl) (fun σ => passAt tk σ) (fun pins s2 σ2 H2 Q2 E2 I q => ?_) rfl (Or.inl rfl))))
      (fun a oe cls d pn hz hf => pss_one (ps_ret (pe_lst (pa_cons (pe_xfA rfl hz hf (pv 1)) pa_nil))))), rfl, want⟩)
  refine act _ _ s2 H2 Q2 E2 I.base (fun c m => ?_) I.env0 (hr.mono (by omega)) q
  rcases List.mem_cons.mp m with rfl | m
  · exact .inr (Heap.get?_none_of_le (Nat.le_refl _))
  · exact .inl m
def TTtext (K : PySem.W.Frag) (CF : Addr) (T : List (Addr × Str)) (q : Str) : (XK → Hp → VK → Prop) → Hp → VK → Prop := fun tl H Q => ∀ c H1, ExtN H H1 → Tabs T H1 → H1 c = some (CodeO c q) →
  TTans K CF (fun E Hz Qz => Hz c = some (CodeO c q) ∧ tl E Hz fun v H' => spWithLen [v] H' Qz E0) H1 Q
abbrev s_answer_text : Stmt := top 85
theorem sc_answer_text : FnScope ["operation"] ["operation"] (defScope s_answer_text) := ⟨rfl, rfl, rfl, by decide +kernel, rfl, by decide +kernel, by decide +kernel⟩
theorem ok_answer_text {CF ct Pt : Addr} {T : List (Addr × Str)} (D : DnC K mg "answer_text" s_answer_text ["operation"] ct) (tb_answer_text : TabB base mg ct Pt) (mem : (Pt, ("answer_text.<locals>.<lambda>" : Str)) ∈ T) (one : ∀ p ∈ T, p.1 = Pt → p.2 = "answer_text.<locals>.<lambda>")
    (o_answer : OwnAct P w K mg base 2 "answer" T (TTans K CF)) (o_with_length : OwnOk P w K mg base CX0 1 "with_length" ["data"] spWithLen) : OwnAct P w K mg base 5 "answer_text" T (TTtext K CF T "answer_text.<locals>.<lambda>") := by
  refine act_okC D sc_answer_text (fun j g A outer f s H Q tl act hr tabs want => ⟨_, pss_one (ps_ret (pe_lam2 (k := j + 1) (t := fun E => tCall spWithLen [] E0 (tCons (fun σ H Q => σ[0]? = some (some (.ref f)) ∧ tl E H Q) tNil)) o_answer rfl tb_answer_text rfl mem one (hr.mono (by omega)) (lamS_by (sc := defScope s_answer_text) (by decide +kernel)) rfl (fun _ _ _ _ _ => rfl)
    (fun pins σ H1 s1 I1 A2 outer2 z Hz E f2 c2 un old hr2 => pe_own o_with_length (hr2.mono (by omega)) (by rfl) pass0 (pa_cons (pe_actL (i := 0) (E := fun _ => E) (tl := tl) (fun σ => ?_) (fun pins s2 σ2 H2 Q2 E2 I q => ?_) rfl (Or.inr (Or.inr rfl))) pa_nil)))), tabs, fun c H1 grown tabs1 code => ?_⟩)
  · exact fun pins H s e s' I c => (L2.passes_call (L2.takes_of rfl rfl rfl rfl) (fun _ _ _ _ h => h)) pins σ H s e s' I c
  · have old1 : ∀ c ∈ s.heap.objs.size :: frs outer, c ∈ frs outer ∨ s.heap.get? c = none := fun c m => by
      rcases List.mem_cons.mp m with rfl | m
      · exact .inr (Heap.get?_none_of_le (Nat.le_refl _))
      · exact .inl m
    have back : ∀ c, s1.heap.get? c = none → s.heap.get? c = none := fun c h => by
      cases e : s.heap.get? c with
      | none => rfl
      | some o => obtain ⟨o', e'⟩ := I1.base.there c o e (fun z => by cases z); rw [h] at e'; cases e'
    have old2 : ∀ c ∈ frs outer2, c ∈ frs outer ∨ s.heap.get? c = none := fun c m => by
      rcases old c m with h | h
      · exact old1 c h
      · exact .inr (back c h)
    have a := un_on I1.base un old1
    refine act _ _ s2 H2 Q2 E2 (un_on a I.base old2) (fun c m => ?_) I.env0 (hr2.mono (by omega)) q
    rcases List.mem_cons.mp m with rfl | m
    · refine .inr ?_
      cases e : s.heap.get? z.heap.objs.size with
      | none => rfl
      | some o =>
        obtain ⟨o', e'⟩ := a.there _ o e (fun z => by cases z)
        rw [Heap.get?_none_of_le (Nat.le_refl _)] at e'; cases e'
    · exact old2 c m
  · have want := want c H1 grown tabs1 code
    exact ⟨want.1, rfl, want.2⟩
/-- return answer_text(lambda: ..), all told -/
def tText (K : PySem.W.Frag) (CF : Addr) (T : List (Addr × Str)) (t : XK → TE) : TE := fun σ H Q => Tabs T H ∧ ∀ H1, ExtN H H1 → t (EA K CF Q) σ H1 fun v H' => spWithLen [v] H' Q E0
theorem text_of {CF : Addr} {T : List (Addr × Str)} {q q2 : Str} {t : XK → TE} {σ : L2.St} {H : Hp} {Q : VK} (h : tText K CF T t σ H Q) : tLam2 T q (TTtext K CF T q2) t σ H Q :=
  ⟨h.1, fun _ H1 g1 _ code _ _ g2 _ code2 => ⟨code2, g2 _ _ code codeO_ne, h.2 _ (g1.trans g2)⟩⟩
def tAns (K : PySem.W.Frag) (CF : Addr) (T : List (Addr × Str)) (t : XK → TE) : TE := fun σ H Q => Tabs T H ∧ ∀ H1, ExtN H H1 → t (EA K CF Q) σ H1 Q
theorem ans_of {CF : Addr} {T : List (Addr × Str)} {q : Str} {t : XK → TE} {σ : L2.St} {H : Hp} {Q : VK} (h : tAns K CF T t σ H Q) : tLam2 T q (TTans K CF) t σ H Q :=
  ⟨h.1, fun _ H1 g1 _ code => ⟨code, h.2 _ g1⟩⟩
/-- a def of the text whose code object is known, its promise -/
theorem def_okC {x : Str} {st : Stmt} {N ps : List Str} {k : Nat} {sp : Sp} {f c : Addr} {oc kV doc pm ct : Value} {od an : Option Addr} {sl : Array (Option Value)} (l : K.lookup f = some ⟨oc, od, .func (PySem.W.fnOf x x (defArgs st) (defBody st) (defScope st) .none kV doc pm an (.ref c) ct), sl⟩) (hcd : PySem.W.codeIn K (.ref c) x = true)
    (S : FnScope N ps (defScope st)) (len : ∀ vs H Q E, sp vs H Q E → vs.length = ps.length)
    (hbody : ∀ (A : Around) (outer : List Env) (s : Shared) (H : Hp) (vs : List V) (Q : VK) (E : XK), Room k (A.deeper (envOfC x (defScope st) s.heap.objs.size f (.ref c))) → sp vs H Q E →
      ∃ t, PSs (cxOf CX0 P w K mg base N x (defScope st) f (.ref c) A outer s H E).nox (defBody st) t ∧ t { nx := fun _ H' => Q .non H', rt := Q } (start N vs) H) : FnOk P w K mg base CX0 (k + 1) f (PySem.W.fnOf x x (defArgs st) (defBody st) (defScope st) .none kV doc pm an (.ref c) ct) ps sp :=
  fn_of l hcd S len fun A outer s H vs Q E hr hsp => let ⟨t, h, q⟩ := hbody A outer s H vs Q E hr hsp; ⟨t, h.nox, q⟩

end
end Bt

namespace Bt
open PySem PySem.Spec PyProof.Rows L2
local macro_rules | `(tactic| walk_at "sx") => `(tactic| simp only [cxK, tTru, rLen, rListOf, rTupOf, tRet, tRetN, tChain, tRng, tCB, tCons, tNil, tC, tVar, tOp, tUn, tTest, tB, tAnd, tOr, tNot, tIfS, tSeq, tIf, tOrV, tAndV, tNotV, tCall, tSl, tPart, tNoPart, tLst, tTup, tBM, tBM0, rExtendS, iList, iTup, iSeqV, rIxL, rIxT, rSlL, rAppend, rExtend, rCat, rI0, rI, rIxS, rEq, rNe, rU, tAsg, gName, tDrop, tNext, scal, L2.start, List.map_cons, List.map_nil, List.length_cons, List.length_nil, Nat.reduceAdd, Nat.reduceSub, List.replicate_succ, List.replicate_zero, List.append_nil, List.cons_append, List.nil_append, List.getElem?_cons_zero, List.getElem?_cons_succ, Option.some.injEq, exists_eq_left', exists_eq_left, V.int.injEq, V.bl.injEq, V.str.injEq, V.ref.injEq, List.cons.injEq, and_true, true_and, exists_and_left, List.set_cons_zero, List.set_cons_succ, spN1_run, tFC, sFC, sFCAug, tMeth, tMake, sRaise, tErF, rAdd, rPop, tM1, tCallL, Option.some.injEq, HO.ins.injEq])
local macro_rules | `(tactic| walk_at "sm") => `(tactic| (repeat (first | exact Same.refl _ | assumption | (refine Same.trans ?_ (same_new (by assumption))) | (refine Same.trans ?_ (by assumption)))))
section
variable {P : Program} {w : World} {K : PySem.W.Frag} {mg : Str → Option Value} {base : Heap}
/-! ### the errors without arguments; texts that are asked for -/
/-- a refusal with this code alone -/
def ErrC0 (C : Addr) (c : Int) (H : Hp) (E : XK) : Prop := ∀ H' d, Same H H' → H' d = none → E (.ref C) (some d) (upd H' d (.xd [("code", .int c)]))
def spText (K : PySem.W.Frag) (C : Addr) : Sp := fun vs H Q E => ∃ v d, vs = [v] ∧ Lr K d v H ∧ d.length ≤ 1000 ∧ if utf8Loop d.length d = true then ∀ H' l, Same H H' → H' l = none → Q (.ref l) (upd H' l (.tup (nV d))) else ErrC0 C (-24) H E
end
end Bt

namespace Bt
open PySem PySem.Spec PyProof.Rows L2
local macro_rules | `(tactic| walk_at "sx") => `(tactic| simp only [cxK, tTru, rLen, rListOf, rTupOf, tRet, tRetN, tChain, tRng, tCB, tCons, tNil, tC, tVar, tOp, tUn, tTest, tB, tAnd, tOr, tNot, tIfS, tSeq, tIf, tOrV, tAndV, tNotV, tCall, tSl, tPart, tNoPart, tLst, tTup, tBM, tBM0, rExtendS, iList, iTup, iSeqV, rIxL, rIxT, rSlL, rAppend, rExtend, rCat, rI0, rI, rIxS, rEq, rNe, rU, tAsg, gName, tDrop, tNext, scal, L2.start, List.map_cons, List.map_nil, List.length_cons, List.length_nil, Nat.reduceAdd, Nat.reduceSub, List.replicate_succ, List.replicate_zero, List.append_nil, List.cons_append, List.nil_append, List.getElem?_cons_zero, List.getElem?_cons_succ, Option.some.injEq, exists_eq_left', exists_eq_left, V.int.injEq, V.bl.injEq, V.str.injEq, V.ref.injEq, List.cons.injEq, and_true, true_and, exists_and_left, List.set_cons_zero, List.set_cons_succ, spN1_run, tFC, sFC, sFCAug, tMeth, tMake, sRaise, tErF, rAdd, rPop, tM1, tCallL, Option.some.injEq, HO.ins.injEq])
local macro_rules | `(tactic| walk_at "sm") => `(tactic| (repeat (first | exact Same.refl _ | assumption | (refine Same.trans ?_ (same_new (by assumption))) | (refine Same.trans ?_ (by assumption)))))
section
variable {P : Program} {w : World} {K : PySem.W.Frag} {mg : Str → Option Value} {base : Heap}
/-! ### the reader: what moves its position only -/
def rdF (D : Addr) (p : Nat) (L : Addr) : List (Str × V) := [("data", .ref D), ("position", .int (p : Int)), ("levels", .ref L)]
theorem rd_dat {D L : Addr} {p : Nat} : (rdF D p L).lookup ("data" : Str) = some (V.ref D) := rfl
theorem rd_pos {D L : Addr} {p : Nat} : (rdF D p L).lookup ("position" : Str) = some (V.int (p : Int)) := rfl
theorem rd_lev {D L : Addr} {p : Nat} : (rdF D p L).lookup ("levels" : Str) = some (V.ref L) := rfl
theorem rd_put {D L : Addr} {p : Nat} {i : Int} {n : Nat} (h : i = (n : Int)) : putF "position" (.int i) (rdF D p L) = rdF D n L := by subst h; rfl
theorem rd_len {D L : Addr} {p : Nat} : (rdF D p L).length < 1000 := by simp [rdF]
theorem rd_mth {D L : Addr} {p : Nat} {m : Str} (h1 : (m == ("data" : Str)) = false := by decide) (h2 : (m == ("position" : Str)) = false := by decide) (h3 : (m == ("levels" : Str)) = false := by decide) : (rdF D p L).lookup m = none := by
  show List.lookup m [(("data" : Str), V.ref D), (("position" : Str), V.int (p : Int)), (("levels" : Str), V.ref L)] = none
  simp only [List.lookup, h1, h2, h3]
/-- the reader as it lies -/
structure RdR (CR r D L dx : Addr) (d : List Nat) (p : Nat) (H : Hp) : Prop where
  at_ : H r = some (.ins CR dx (rdF D p L))
  data : H D = some (.lst (nV d))
  le : p ≤ d.length
/-- all but the object at r stays -/
def But (r : Addr) (H H' : Hp) : Prop := ∀ b o, b ≠ r → H b = some o → H' b = some o
theorem But.refl {r : Addr} {H : Hp} : But r H H := fun _ _ _ h => h
theorem But.trans {r : Addr} {H H' H'' : Hp} (a : But r H H') (b : But r H' H'') : But r H H'' := fun c o n h => b c o n (a c o n h)
theorem But.same {r : Addr} {H H' H'' : Hp} (a : But r H H') (b : Same H' H'') : But r H H'' := fun c o n h => b c o (a c o n h)
theorem But.upd {r : Addr} {H H' : Hp} {o : HO} (a : But r H H') : But r H (upd H' r o) := fun c u n h => (upd_ne n).trans (a c u n h)
section
variable {CR r D L dx : Addr} {d : List Nat} {p q : Nat} {H H' : Hp}
theorem RdR.ne (h : RdR CR r D L dx d p H) : D ≠ r := fun e => by have := h.data; rw [e, h.at_] at this; cases this
theorem RdR.same (h : RdR CR r D L dx d p H) (s : Same H H') : RdR CR r D L dx d p H' := ⟨s _ _ h.at_, s _ _ h.data, h.le⟩
theorem RdR.go (h : RdR CR r D L dx d p H) (l : q ≤ d.length) : RdR CR r D L dx d q (upd H r (.ins CR dx (rdF D q L))) := ⟨upd_same, (upd_ne h.ne).trans h.data, l⟩
theorem RdR.sq (h : RdR CR r D L dx d p H) {K : PySem.W.Frag} : SqL K H D (nV d) := SqL.of h.data
end
theorem RdR.inc {CR r D L dx : Addr} {d : List Nat} {p n : Nat} {H : Hp} {i : Int} (h : RdR CR r D L dx d p H) (e : i = (n : Int)) (l : n ≤ d.length) : RdR CR r D L dx d n (upd H r (.ins CR dx (putF "position" (.int i) (rdF D p L)))) := by
  rw [rd_put e]
  exact h.go l
def skipTo (c : Bool) (d : List Nat) (p : Nat) : Nat := d.length - (Kh450.skipSpace c (d.drop p)).length
theorem skip_len (c : Bool) (l : List Nat) : (Kh450.skipSpace c l).length ≤ l.length := by
  induction l generalizing c with
  | nil => simp [Kh450.skipSpace]
  | cons b r ih =>
    simp only [Kh450.skipSpace]
    have := ih (b != 10); have := ih false; have := ih true
    split
    · simp only [List.length_cons]; omega
    · split
      · simp only [List.length_cons]; omega
      · split
        · simp only [List.length_cons]; omega
        · simp
theorem skip_end (c : Bool) (d : List Nat) (p : Nat) (h : d.length ≤ p) : skipTo c d p = d.length := by
  unfold skipTo
  rw [List.drop_eq_nil_iff.mpr h]
  simp [Kh450.skipSpace]
theorem drop_at {d : List Nat} {p b : Nat} (h : d[p]? = some b) : d.drop p = b :: d.drop (p + 1) := by
  have hl : p < d.length := (List.getElem?_eq_some_iff.mp h).1
  have hb := (List.getElem?_eq_some_iff.mp h).2
  rw [List.drop_eq_getElem_cons hl, hb]
theorem nV_at_nat {l : List Nat} {i n : Nat} (h : l[i]? = some n) : atI (nV l) (i : Int) = some (.int (n : Int)) := atI_nat (nV_at h)
/-- skip_blanks(self) -/
def spSkip (CR : Addr) : Sp := fun vs H Q _ => ∃ r D L dx d p, vs = [.ref r] ∧ RdR CR r D L dx d p H ∧ ∀ H', But r H H' → RdR CR r D L dx d (skipTo false d p) H' → Q .non H'
abbrev s_Reader_skip_blanks : Stmt := inClass (top 34) 2
theorem sc_Reader_skip_blanks : FnScope ["self", "in_comment", "byte"] ["self"] (defScope s_Reader_skip_blanks) := ⟨rfl, rfl, rfl, by decide +kernel, rfl, by decide +kernel, by decide +kernel⟩
theorem ok_Reader_skip_blanks {CR : Addr} (DD : DnM K CR "skip_blanks" "Reader.skip_blanks" s_Reader_skip_blanks ["self"]) (n_len : mg "len" = none) (n_ord : mg "ord" = none) (c_LINE_FEED : IsC mg "LINE_FEED" (.int 10))
    (q_Reader_position : Kf K CR "position") (q_Reader_data : Kf K CR "data") (o_is_space : OwnOk P w K mg base CX0 1 "is_space" ["byte"] (spN1 fun n => .bl (Kh450.isWhite n))) :
    OwnM P w K mg base CX0 2 CR "skip_blanks" ["self"] (spSkip CR) := by
  refine mth_ok DD sc_Reader_skip_blanks (fun _ _ _ _ h => by obtain ⟨_, _, _, _, _, _, rfl, _⟩ := h; rfl) (fun f cdv A outer s H vs Q E hr h => ⟨_, (pss_cons (ps_set (i := 1) sc_Reader_skip_blanks.nd rfl (by first | exact Or.inl rfl | exact Or.inr rfl) pe_bl)
    (pss_one (ps_while PassesOwn.never (pt_cmpR op_lt (pe_fc (K := K) rfl q_Reader_position (pv 0)) (pe_callB (kcall_len (K := K) rfl) (by rfl) n_len PySem.boot_len (pa_cons (pe_fc (K := K) rfl q_Reader_data (pv 0)) pa_nil)) (nomark _)) (pss_cons (ps_set (i := 2) sc_Reader_skip_blanks.nd rfl (by first | exact Or.inl rfl | exact Or.inr rfl) (pe_ix (kix_list (K := K) rfl) (pe_fc (K := K) rfl q_Reader_data (pv 0)) (pe_fc (K := K) rfl q_Reader_position (pv 0)) (fun _ _ => rfl)))
    (pss_cons (ps_if (pt_cmpR op_eq (pv 2) (pe_ordL 59 n_ord) (nomark _)) (pss_one (ps_set (i := 1) sc_Reader_skip_blanks.nd rfl (by first | exact Or.inl rfl | exact Or.inr rfl) pe_bl)) (pss_one (ps_if (pt_cmpR op_eq (pv 2) (pe_cst (by rfl) c_LINE_FEED) (nomark _)) (pss_one (ps_set (i := 1) sc_Reader_skip_blanks.nd rfl (by first | exact Or.inl rfl | exact Or.inr rfl) pe_bl)) (pss_one (ps_if (PW.pt (pw_and (pt_not (pt_val (pv 1))) (pw_and1 (pt_not (pt_val (pe_own o_is_space (hr.mono (by omega)) rfl pass0 (pa_cons (pv 2) pa_nil))))))) (pss_one ps_retN) pss_nil)))))
    (pss_one (ps_fcaug (K := K) rfl q_Reader_position (pv 0) pe_int in_add))))))), ?_⟩)
  obtain ⟨r, D, L, dx, d, p, rfl, h, q⟩ := h
  walk_at "sx"
  refine ⟨fun m σ' H' => ∃ (p1 : Nat) (c : Bool) (x : Option V), m = d.length - p1 ∧ σ' = [some (.ref r), some (.bl c), x] ∧ But r H H' ∧ RdR CR r D L dx d p1 H' ∧ skipTo c d p1 = skipTo false d p, ⟨_, p, false, _, rfl, rfl, But.refl, h, rfl⟩, ?_⟩
  rintro m σ' H' ⟨p1, c, x, rfl, rfl, hB, h1, hs⟩
  walk_at "sx"
  refine ⟨dx, _, h1.at_, _, rd_pos, dx, _, h1.at_, _, rd_dat, D, rfl, _, .inl h1.sq, _, rfl, ?_⟩
  rw [List.length_map]
  refine ite2 (fun hlt => ?_) (fun hlt => ?_)
  · rw [decide_eq_true_eq] at hlt
    have hp : p1 < d.length := by omega
    obtain ⟨b, hb⟩ : ∃ b, d[p1]? = some b := ⟨_, List.getElem?_eq_getElem hp⟩
    have hd := drop_at hb
    refine ⟨fun σ2 H2 => ∃ (p2 : Nat) (c : Bool) (x : Option V), p1 < p2 ∧ σ2 = [some (.ref r), some (.bl c), x] ∧ But r H H2 ∧ RdR CR r D L dx d p2 H2 ∧ skipTo c d p2 = skipTo false d p, ?_, ?_⟩
    · rintro σ2 H2 ⟨p2, c2, x2, hlt2, rfl, hB2, h2, hs2⟩
      exact ⟨d.length - p2, by omega, p2, rfl, c2, x2, rfl, hB2, h2, hs2⟩
    refine ⟨dx, _, h1.at_, _, rd_dat, dx, _, h1.at_, _, rd_pos, D, rfl, ?_⟩
    refine ⟨_, _, rfl, h1.sq, _, nV_at_nat hb, ?_⟩
    walk_at "sx"
    have step : ∀ (H2 : Hp) (c' : Bool), But r H H2 → RdR CR r D L dx d p1 H2 → skipTo c' d (p1 + 1) = skipTo false d p → ∃ x x_1, H2 r = some (HO.ins CR x x_1) ∧ ∃ y, List.lookup (Str.ofString "position") x_1 = some y ∧ ∃ i, y = V.int i ∧ ∃ dx' fs', H2 r = some (HO.ins CR dx' fs') ∧ fs'.length < 1000 ∧
        ∃ p2, p1 < p2 ∧ ∃ x x_2, (c' = x ∧ some (V.int (b : Int)) = x_2) ∧ But r H (upd H2 r (HO.ins CR dx' (putF (Str.ofString "position") (V.int (i + 1)) fs'))) ∧ RdR CR r D L dx d p2 (upd H2 r (HO.ins CR dx' (putF (Str.ofString "position") (V.int (i + 1)) fs'))) ∧ skipTo x d p2 = skipTo false d p := by
      intro H2 c' hB2 h2 hs2
      refine ⟨dx, _, h2.at_, _, rd_pos, _, rfl, dx, _, h2.at_, rd_len, p1 + 1, by omega, c', _, ⟨rfl, rfl⟩, hB2.upd, ?_, hs2⟩
      have := h2.go (q := p1 + 1) hp
      rw [← rd_put (D := D) (p := p1) (L := L) (i := (p1 : Int) + 1) (n := p1 + 1) (by omega)] at this
      exact this
    have sk : ∀ c, skipTo c d p1 = d.length - (Kh450.skipSpace c (b :: d.drop (p1 + 1))).length := fun c => by unfold skipTo; rw [hd]
    refine ite2 (fun h59 => ?_) (fun h59 => ite2 (fun h10 => ?_) (fun h10 => ?_))
    · rw [decide_eq_true_eq] at h59
      have e : b = 59 := by omega
      refine step _ _ hB h1 ?_
      rw [← hs, sk, e]
      cases c <;> rfl
    · rw [decide_eq_true_eq] at h10
      have e : b = 10 := by omega
      refine step _ _ hB h1 ?_
      rw [← hs, sk, e]
      cases c <;> rfl
    · rw [decide_eq_true_eq] at h59 h10
      cases c with
      | true =>
        refine iteF (iteF (step _ _ hB h1 ?_))
        rw [← hs, sk]
        have e : (b != 10) = true := by simp; omega
        simp only [Kh450.skipSpace, e, if_true]
        rfl
      | false =>
        refine iteT fun H3 s3 => ?_
        have ew : Kh450.isWhite b = Kh450.isSpace b := rfl
        rw [ew]
        cases hw : Kh450.isSpace b with
        | true =>
          refine iteF (step _ _ (hB.same s3) (h1.same s3) ?_)
          rw [← hs, sk]
          simp only [Kh450.skipSpace, hw, if_true, Bool.false_eq_true, if_false]
          rfl
        | false =>
          refine iteT (q _ (hB.same s3) ?_)
          have e : skipTo false d p1 = p1 := by
            rw [sk]
            have e59 : ¬ b = 59 := by omega
            simp only [Kh450.skipSpace, hw, e59, if_false, Bool.false_eq_true, List.length_cons, List.length_drop]
            omega
          rw [← hs, e]
          exact h1.same s3
  · rw [decide_eq_true_eq] at hlt
    have e := h1.le
    have hp : p1 = d.length := by omega
    rw [skip_end c d p1 (by omega)] at hs
    refine q _ hB ?_
    rw [← hs, ← hp]
    exact h1

end
end Bt

namespace Bt
open PySem PySem.Spec PyProof.Rows L2
local macro_rules | `(tactic| walk_at "sx") => `(tactic| simp only [cxK, tTru, rLen, rListOf, rTupOf, tRet, tRetN, tChain, tRng, tCB, tCons, tNil, tC, tVar, tOp, tUn, tTest, tB, tAnd, tOr, tNot, tIfS, tSeq, tIf, tOrV, tAndV, tNotV, tCall, tSl, tPart, tNoPart, tLst, tTup, tBM, tBM0, rExtendS, iList, iTup, iSeqV, rIxL, rIxT, rSlL, rAppend, rExtend, rCat, rI0, rI, rIxS, rEq, rNe, rU, tAsg, gName, tDrop, tNext, scal, L2.start, List.map_cons, List.map_nil, List.length_cons, List.length_nil, Nat.reduceAdd, Nat.reduceSub, List.replicate_succ, List.replicate_zero, List.append_nil, List.cons_append, List.nil_append, List.getElem?_cons_zero, List.getElem?_cons_succ, Option.some.injEq, exists_eq_left', exists_eq_left, V.int.injEq, V.bl.injEq, V.str.injEq, V.ref.injEq, List.cons.injEq, and_true, true_and, exists_and_left, List.set_cons_zero, List.set_cons_succ, spN1_run, tFC, sFC, sFCAug, tMeth, tMake, sRaise, tErF, rAdd, rPop, tM1, tCallL, Option.some.injEq, HO.ins.injEq])
local macro_rules | `(tactic| walk_at "sm") => `(tactic| (repeat (first | exact Same.refl _ | assumption | (refine Same.trans ?_ (same_new (by assumption))) | (refine Same.trans ?_ (by assumption)))))
section
variable {P : Program} {w : World} {K : PySem.W.Frag} {mg : Str → Option Value} {base : Heap}
theorem cut_nn (d : List Nat) (i j : Nat) (hi : i ≤ d.length) : cutV (nV d) (some (i : Int)) (some (j : Int)) = nV ((d.drop i).take (j - i)) := by
  unfold cutV
  rw [HT.sIx_nat, HT.sIx_nat, List.length_map, show min i d.length = i by omega, ← List.map_drop, ← List.map_take]
  congr 1
  by_cases hn : j ≤ d.length
  · rw [show min j d.length - i = j - i by omega]
  · rw [List.take_of_length_le, List.take_of_length_le]
    · simp; omega
    · simp; omega
def tw (pr : Nat → Bool) (d : List Nat) (p : Nat) : List Nat := (Kh450.takeWhile pr (d.drop p)).1
theorem tw_take (pr : Nat → Bool) (l : List Nat) : l.take (Kh450.takeWhile pr l).1.length = (Kh450.takeWhile pr l).1 ∧ (Kh450.takeWhile pr l).2 = l.drop (Kh450.takeWhile pr l).1.length := by
  induction l with
  | nil => simp [Kh450.takeWhile]
  | cons b r ih =>
    simp only [Kh450.takeWhile]
    by_cases h : pr b = true
    · rw [if_pos h]; simp [ih.1, ih.2]
    · rw [if_neg h]; simp
theorem tw_le (pr : Nat → Bool) (d : List Nat) (p : Nat) (h : p ≤ d.length) : p + (tw pr d p).length ≤ d.length := by
  have := congrArg List.length (tw_take pr (d.drop p)).1
  rw [List.length_take, List.length_drop] at this
  unfold tw
  omega
theorem tw_all (pr : Nat → Bool) (d : List Nat) (p : Nat) : ∀ x ∈ tw pr d p, pr x = true := by
  unfold tw
  induction d.drop p with
  | nil => simp [Kh450.takeWhile]
  | cons b r ih =>
    simp only [Kh450.takeWhile]
    by_cases h : pr b = true
    · rw [if_pos h]; intro x hx; rcases List.mem_cons.mp hx with rfl | hx
      · exact h
      · exact ih x hx
    · rw [if_neg h]; simp
theorem tw_step {pr : Nat → Bool} {d : List Nat} {p b : Nat} (hb : d[p]? = some b) : (tw pr d p).length = if pr b then (tw pr d (p + 1)).length + 1 else 0 := by
  unfold tw
  rw [drop_at hb]
  simp only [Kh450.takeWhile]
  split <;> simp
theorem tw_end {pr : Nat → Bool} {d : List Nat} {p : Nat} (h : d.length ≤ p) : tw pr d p = [] := by
  unfold tw
  rw [List.drop_eq_nil_iff.mpr h]
  rfl
theorem But.free {r : Addr} {H H' : Hp} {o : HO} {a : Addr} (b : But r H H') (hr : H' r = some o) (ha : H' a = none) : H a = none := by
  cases e : H a with
  | none => rfl
  | some u =>
    have ne : a ≠ r := fun z => by rw [z, hr] at ha; cases ha
    rw [b a u ne e] at ha; cases ha
/-- take_while(self, fits) -/
def spTake (P : Program) (w : World) (K : PySem.W.Frag) (mg : Str → Option Value) (base : Heap) (CR : Addr) : Sp := fun vs H Q _ => ∃ r D L dx d p fa pr, vs = [.ref r, .ref fa] ∧ RdR CR r D L dx d p H ∧ d.length ≤ 1000000 ∧ HeldF P w K mg base 2 fa ["byte"] (spN1 fun n => .bl (pr n)) ∧
  ∀ a H', But r H H' → H a = none → RdR CR r D L dx d (p + (tw pr d p).length) H' → H' a = some (.lst (nV (tw pr d p))) → Q (.ref a) H'
abbrev s_Reader_take_while : Stmt := inClass (top 34) 9
theorem sc_Reader_take_while : FnScope ["self", "fits", "start"] ["self", "fits"] (defScope s_Reader_take_while) := ⟨rfl, rfl, rfl, by decide +kernel, rfl, by decide +kernel, by decide +kernel⟩
theorem ok_Reader_take_while {CR : Addr} (DD : DnM K CR "take_while" "Reader.take_while" s_Reader_take_while ["self", "fits"]) (n_len : mg "len" = none)
    (q_Reader_position : Kf K CR "position") (q_Reader_data : Kf K CR "data") :
    OwnM P w K mg base CX0 3 CR "take_while" ["self", "fits"] (spTake P w K mg base CR) := by
  refine mth_ok DD sc_Reader_take_while (fun _ _ _ _ h => by obtain ⟨_, _, _, _, _, _, _, _, rfl, _⟩ := h; rfl) (fun f cdv A outer s H vs Q E hr h => ?_)
  obtain ⟨r, D, L, dx, d, p, fa, pr, rfl, h, hlen, hF, q⟩ := h
  refine ⟨_, (pss_cons (ps_set (i := 2) sc_Reader_take_while.nd rfl (by first | exact Or.inl rfl | exact Or.inr rfl) (pe_fc (K := K) rfl q_Reader_position (pv 0)))
    (pss_cons (ps_while PassesOwn.never (PW.pt (pw_and (pt_cmpR op_lt (pe_fc (K := K) rfl q_Reader_position (pv 0)) (pe_callB (kcall_len (K := K) rfl) (by rfl) n_len PySem.boot_len (pa_cons (pe_fc (K := K) rfl q_Reader_data (pv 0)) pa_nil)) (nomark _)) (pw_and1 (pt_val (pe_callv (i := 1) hF (hr.mono (by omega)) rfl (by first | exact Or.inl rfl | exact Or.inr rfl) (pa_cons (pe_ix (kix_list (K := K) rfl) (pe_fc (K := K) rfl q_Reader_data (pv 0)) (pe_fc (K := K) rfl q_Reader_position (pv 0)) (fun _ _ => rfl)) pa_nil)))))) (pss_one (ps_fcaug (K := K) rfl q_Reader_position (pv 0) pe_int in_add)))
    (pss_one (ps_ret (pe_slice (ksl_list (K := K) rfl) (pe_fc (K := K) rfl q_Reader_data (pv 0)) (po_some (pv 2)) (po_some (pe_fc (K := K) rfl q_Reader_position (pv 0)))))))), ?_⟩
  walk_at "sx"
  refine ⟨dx, _, h.at_, _, rd_pos, ?_⟩
  refine ⟨fun m σ' H' => ∃ (p1 : Nat), m = d.length - p1 ∧ σ' = [some (.ref r), some (.ref fa), some (.int (p : Int))] ∧ But r H H' ∧ RdR CR r D L dx d p1 H' ∧ p ≤ p1 ∧ p1 + (tw pr d p1).length = p + (tw pr d p).length, ⟨_, p, rfl, rfl, But.refl, h, Nat.le_refl _, rfl⟩, ?_⟩
  rintro m σ' H' ⟨p1, rfl, rfl, hB, h1, hle, hs⟩
  walk_at "sx"
  have fin : ∀ H2, But r H H2 → RdR CR r D L dx d p1 H2 → (tw pr d p1).length = 0 → ∃ x x_1, H2 r = some (HO.ins CR x x_1) ∧ ∃ x, List.lookup (Str.ofString "data") x_1 = some x ∧ ∃ x_2 x_3, H2 r = some (HO.ins CR x_2 x_3) ∧ ∃ x_4, List.lookup (Str.ofString "position") x_3 = some x_4 ∧
      ∃ i, x_4 = V.int i ∧ ∃ a, x = V.ref a ∧ ∃ x, SqL K H2 a x ∧ ∀ (p_1 : Addr), H2 p_1 = none → Q (V.ref p_1) (upd H2 p_1 (HO.lst (cutV x (some (p : Int)) (some i)))) := by
    intro H2 hB2 h2 z
    have e1 : p1 = p + (tw pr d p).length := by omega
    refine ⟨dx, _, h2.at_, _, rd_dat, dx, _, h2.at_, _, rd_pos, _, rfl, D, rfl, _, h2.sq, fun a ha => ?_⟩
    rw [cut_nn d p p1 h.le, show p1 - p = (tw pr d p).length by omega, show (d.drop p).take (tw pr d p).length = tw pr d p from (tw_take pr (d.drop p)).1]
    exact q a _ (hB2.same (same_new ha)) (hB2.free h2.at_ ha) (e1 ▸ h2.same (same_new ha)) upd_same
  refine ⟨dx, _, h1.at_, _, rd_pos, dx, _, h1.at_, _, rd_dat, D, rfl, _, .inl h1.sq, _, rfl, ?_⟩
  rw [List.length_map]
  refine ite2 (fun hlt => ?_) (fun hlt => iteF ?_)
  · rw [decide_eq_true_eq] at hlt
    have hp : p1 < d.length := by omega
    obtain ⟨b, hb⟩ : ∃ b, d[p1]? = some b := ⟨_, List.getElem?_eq_getElem hp⟩
    refine ⟨dx, _, h1.at_, _, rd_dat, dx, _, h1.at_, _, rd_pos, D, rfl, _, _, rfl, h1.sq, _, nV_at_nat hb, ?_⟩
    rw [spN1_run]
    intro H3 s3
    refine ⟨_, rfl, ?_⟩
    have hst := tw_step (pr := pr) hb
    cases hpr : pr b with
    | true =>
      rw [hpr, if_pos rfl] at hst
      refine iteT ?_
      refine ⟨fun σ2 H2 => ∃ (p2 : Nat), p1 < p2 ∧ σ2 = [some (.ref r), some (.ref fa), some (.int (p : Int))] ∧ But r H H2 ∧ RdR CR r D L dx d p2 H2 ∧ p2 + (tw pr d p2).length = p + (tw pr d p).length, ?_, ?_⟩
      · rintro σ2 H2 ⟨p2, hlt2, rfl, hB2, h2, hs2⟩
        exact ⟨d.length - p2, by omega, p2, rfl, rfl, hB2, h2, by omega, hs2⟩
      have h3 := h1.same s3
      refine ⟨dx, _, h3.at_, _, rd_pos, _, rfl, dx, _, h3.at_, rd_len, p1 + 1, by omega, rfl, (hB.same s3).upd, ?_, by omega⟩
      have := h3.go (q := p1 + 1) hp
      rw [← rd_put (D := D) (p := p1) (L := L) (i := (p1 : Int) + 1) (n := p1 + 1) (by omega)] at this
      exact this
    | false =>
      rw [hpr] at hst
      exact iteF (fin H3 (hB.same s3) (h1.same s3) (by simpa using hst))
  · rw [decide_eq_true_eq] at hlt
    exact fin H' hB h1 (by rw [tw_end (by omega)]; rfl)

end
end Bt

namespace Bt
open PySem PySem.Spec PyProof.Rows L2
local macro_rules | `(tactic| walk_at "sx") => `(tactic| simp only [cxK, tTru, rLen, rListOf, rTupOf, tRet, tRetN, tChain, tRng, tCB, tCons, tNil, tC, tVar, tOp, tUn, tTest, tB, tAnd, tOr, tNot, tIfS, tSeq, tIf, tOrV, tAndV, tNotV, tCall, tSl, tPart, tNoPart, tLst, tTup, tBM, tBM0, rExtendS, iList, iTup, iSeqV, rIxL, rIxT, rSlL, rAppend, rExtend, rCat, rI0, rI, rIxS, rEq, rNe, rU, tAsg, gName, tDrop, tNext, scal, L2.start, List.map_cons, List.map_nil, List.length_cons, List.length_nil, Nat.reduceAdd, Nat.reduceSub, List.replicate_succ, List.replicate_zero, List.append_nil, List.cons_append, List.nil_append, List.getElem?_cons_zero, List.getElem?_cons_succ, Option.some.injEq, exists_eq_left', exists_eq_left, V.int.injEq, V.bl.injEq, V.str.injEq, V.ref.injEq, List.cons.injEq, and_true, true_and, exists_and_left, List.set_cons_zero, List.set_cons_succ, spN1_run, tFC, sFC, sFCAug, tMeth, tMake, sRaise, tErF, rAdd, rPop, tM1, tCallL, Option.some.injEq, HO.ins.injEq])
local macro_rules | `(tactic| walk_at "sm") => `(tactic| (repeat (first | exact Same.refl _ | assumption | (refine Same.trans ?_ (same_new (by assumption))) | (refine Same.trans ?_ (by assumption)))))
section
variable {P : Program} {w : World} {K : PySem.W.Frag} {mg : Str → Option Value} {base : Heap}
theorem seqLen_le (l : List Nat) : seqLen l ≤ l.length := by
  cases l with
  | nil => simp [seqLen]
  | cons a r =>
    have ha : annLen a ≤ 4 := by unfold annLen; split <;> (try split) <;> (try split) <;> (try split) <;> omega
    simp only [seqLen]
    split
    · omega
    · rename_i h
      rw [List.length_take] at h
      have : annLen a ≤ (a :: r).length := by simp only [List.length_cons]; omega
      split
      · split
        · exact this
        · split
          · exact this
          · omega
      · omega
/-- an error of this kind, at this place -/
def ErrR (CE r : Addr) (H : Hp) (E : XK) (k n : Nat) : Prop := ∀ H' d, But r H H' → H' d = none → E (.ref CE) (some d) (upd H' d (.xd [("position", .int (n : Int)), ("kind", .int (k : Int)), ("code", .int (-20))]))
theorem ErrR.go {CE r : Addr} {H H1 : Hp} {E : XK} {k n : Nat} (e : ErrR CE r H E k n) (b : But r H H1) : ErrR CE r H1 E k n := fun H' d b' => e H' d (b.trans b')
/-- string_byte(self) -/
def spByte (CR CE : Addr) : Sp := fun vs H Q E => ∃ r D L dx d p, vs = [.ref r] ∧ RdR CR r D L dx d p H ∧ match d[p]? with
  | none => ErrR CE r H E 1 d.length
  | some b => ∀ H', Same H H' → Q (.int (b : Int)) H'
abbrev s_Reader_string_byte : Stmt := inClass (top 34) 11
theorem sc_Reader_string_byte : FnScope ["self"] ["self"] (defScope s_Reader_string_byte) := ⟨rfl, rfl, rfl, by decide +kernel, rfl, by decide +kernel, by decide +kernel⟩
theorem ok_Reader_string_byte {CR CE : Addr} {ps : List Str} (DD : DnM K CR "string_byte" "Reader.string_byte" s_Reader_string_byte ["self"]) (n_len : mg "len" = none)
    (q_Reader_position : Kf K CR "position") (q_Reader_data : Kf K CR "data") (x_NotationError : OwnX P w K mg base 2 "NotationError" CE 2 neF ps) :
    OwnM P w K mg base (L2.CX P w) 4 CR "string_byte" ["self"] (spByte CR CE) := by
  refine mth_okX DD sc_Reader_string_byte (fun _ _ _ _ h => by obtain ⟨_, _, _, _, _, _, rfl, _⟩ := h; rfl) (fun f cdv A outer s H vs Q E hr h => ⟨_, (pss_cons (ps_if (pt_cmpR op_eq (pe_fc (K := K) rfl q_Reader_position (pv 0)) (pe_callB (kcall_len (K := K) rfl) (by rfl) n_len PySem.boot_len (pa_cons (pe_fc (K := K) rfl q_Reader_data (pv 0)) pa_nil)) (nomark _)) (pss_one (ps_raiseN x_NotationError (hr.mono (by omega)) (by rfl) rfl (L2.takes_of rfl rfl rfl rfl) (pa_cons pe_int (pa_cons (pe_callB (kcall_len (K := K) rfl) (by rfl) n_len PySem.boot_len (pa_cons (pe_fc (K := K) rfl q_Reader_data (pv 0)) pa_nil)) pa_nil)))) pss_nil)
    (pss_one (ps_ret (pe_ix (kix_list (K := K) rfl) (pe_fc (K := K) rfl q_Reader_data (pv 0)) (pe_fc (K := K) rfl q_Reader_position (pv 0)) (fun _ _ => rfl))))), ?_⟩)
  obtain ⟨r, D, L, dx, d, p, rfl, h, q⟩ := h
  walk_at "sx"
  refine ⟨dx, _, h.at_, _, rd_pos, dx, _, h.at_, _, rd_dat, D, rfl, _, .inl h.sq, rfl, ?_⟩
  have hle := h.le
  refine ite2 (fun he => ?_) (fun he => ?_)
  · rw [decide_eq_true_eq, V.int.injEq, List.length_map] at he
    have e : d[p]? = none := List.getElem?_eq_none (by omega)
    rw [e] at q
    refine ⟨dx, _, h.at_, _, rd_dat, D, rfl, _, .inl h.sq, _, _, ⟨rfl, rfl⟩, fun dE hd => ?_⟩
    rw [List.length_map]
    exact q H dE But.refl hd
  · rw [decide_eq_true_eq, V.int.injEq, List.length_map] at he
    have hp : p < d.length := by omega
    have hb : d[p]? = some d[p] := List.getElem?_eq_getElem hp
    rw [hb] at q
    refine ⟨dx, _, h.at_, _, rd_dat, dx, _, h.at_, _, rd_pos, D, rfl, _, _, rfl, h.sq, _, nV_at_nat hb, q H (Same.refl _)⟩
/-- read_character(self) -/
def spChar (CR CE : Addr) : Sp := fun vs H Q E => ∃ r D L dx d p b, vs = [.ref r] ∧ RdR CR r D L dx d p H ∧ d[p]? = some b ∧ d.length ≤ 1000000 ∧ (∀ x ∈ d, x < 256) ∧
  if b < 32 then ErrR CE r H E 2 p else match Kh450.decodeUtf8 (d.drop p) with
  | none => ErrR CE r H E 4 p
  | some (c, rest) => ∀ a H', But r H H' → H a = none → RdR CR r D L dx d (d.length - rest.length) H' → rest = d.drop (d.length - rest.length) → rest.length < (d.drop p).length → H' a = some (.lst (nV (Kh450.encodeUtf8 c))) → Q (.ref a) H'
abbrev s_Reader_read_character : Stmt := inClass (top 34) 12
theorem sc_Reader_read_character : FnScope ["self", "start", "length"] ["self"] (defScope s_Reader_read_character) := ⟨rfl, rfl, rfl, by decide +kernel, rfl, by decide +kernel, by decide +kernel⟩
theorem ok_Reader_read_character {CR CE : Addr} {ps : List Str} (DD : DnM K CR "read_character" "Reader.read_character" s_Reader_read_character ["self"]) (c_SPACE : IsC mg "SPACE" (.int 32))
    (q_Reader_position : Kf K CR "position") (q_Reader_data : Kf K CR "data") (o_sequence_length : OwnOk P w K mg base CX0 2 "sequence_length" ["data", "start"] (spSeq K)) (x_NotationError : OwnX P w K mg base 2 "NotationError" CE 2 neF ps) :
    OwnM P w K mg base (L2.CX P w) 4 CR "read_character" ["self"] (spChar CR CE) := by
  refine mth_okX DD sc_Reader_read_character (fun _ _ _ _ h => by obtain ⟨_, _, _, _, _, _, _, rfl, _⟩ := h; rfl) (fun f cdv A outer s H vs Q E hr h => ⟨_, (pss_cons (ps_set (i := 1) sc_Reader_read_character.nd rfl (by first | exact Or.inl rfl | exact Or.inr rfl) (pe_fc (K := K) rfl q_Reader_position (pv 0)))
    (pss_cons (ps_if (pt_cmpR op_lt (pe_ix (kix_list (K := K) rfl) (pe_fc (K := K) rfl q_Reader_data (pv 0)) (pv 1) (fun _ _ => rfl)) (pe_cst (by rfl) c_SPACE) (nomark _)) (pss_one (ps_raiseN x_NotationError (hr.mono (by omega)) (by rfl) rfl (L2.takes_of rfl rfl rfl rfl) (pa_cons pe_int (pa_cons (pv 1) pa_nil)))) pss_nil)
    (pss_cons (ps_set (i := 2) sc_Reader_read_character.nd rfl (by first | exact Or.inl rfl | exact Or.inr rfl) (pe_own o_sequence_length (hr.mono (by omega)) rfl pass0 (pa_cons (pe_fc (K := K) rfl q_Reader_data (pv 0)) (pa_cons (pv 1) pa_nil))))
    (pss_cons (ps_if (pt_cmpR op_eq (pv 2) pe_int (nomark _)) (pss_one (ps_raiseN x_NotationError (hr.mono (by omega)) (by rfl) rfl (L2.takes_of rfl rfl rfl rfl) (pa_cons pe_int (pa_cons (pv 1) pa_nil)))) pss_nil)
    (pss_cons (ps_fcaug (K := K) rfl q_Reader_position (pv 0) (pv 2) in_add)
    (pss_one (ps_ret (pe_slice (ksl_list (K := K) rfl) (pe_fc (K := K) rfl q_Reader_data (pv 0)) (po_some (pv 1)) (po_some (pe_fc (K := K) rfl q_Reader_position (pv 0))))))))))), ?_⟩)
  obtain ⟨r, D, L, dx, d, p, b, rfl, h, hb, hlen, hby, q⟩ := h
  walk_at "sx"
  refine ⟨dx, _, h.at_, _, rd_pos, ?_⟩
  walk_at "sx"
  refine ⟨dx, _, h.at_, _, rd_dat, D, rfl, _, h.sq, _, nV_at_nat hb, _, rfl, ?_⟩
  have hp : p < d.length := (List.getElem?_eq_some_iff.mp hb).1
  refine ite2 (fun h32 => ?_) (fun h32 => ?_)
  · rw [decide_eq_true_eq] at h32
    rw [if_pos (by omega)] at q
    exact ⟨_, _, ⟨rfl, rfl⟩, fun dE hd => q H dE But.refl hd⟩
  rw [decide_eq_true_eq] at h32
  rw [if_neg (by omega)] at q
  refine ⟨dx, _, h.at_, _, rd_dat, V.ref D, d, p, rfl, ⟨D, rfl, h.sq⟩, hp, fun H1 s1 => ⟨rfl, ?_⟩⟩
  have h1 := h.same s1
  have sd := seq_dec (d.drop p) (fun x hx => hby x (List.mem_of_mem_drop hx))
  refine ite2 (fun h0 => ?_) (fun h0 => ?_)
  · rw [decide_eq_true_eq, V.int.injEq] at h0
    cases e : Kh450.decodeUtf8 (d.drop p) with
    | some y =>
      rw [e] at sd
      obtain ⟨c, rest⟩ := y
      simp only at sd
      omega
    | none =>
      rw [e] at q
      exact ⟨_, _, ⟨rfl, rfl⟩, fun dE hd => q H1 dE (But.refl.same s1) hd⟩
  · rw [decide_eq_true_eq, V.int.injEq] at h0
    cases e : Kh450.decodeUtf8 (d.drop p) with
    | none =>
      rw [e] at sd
      simp only at sd
      omega
    | some y =>
      obtain ⟨c, rest⟩ := y
      rw [e] at sd q
      simp only at sd q
      obtain ⟨hpos, hdrop, htake⟩ := sd
      generalize hn : seqLen (d.drop p) = n at hpos hdrop htake h0 ⊢
      have hl : rest.length = d.length - p - n := by rw [← hdrop, List.length_drop, List.length_drop]
      have hn' : n ≤ d.length - p := by
        rcases Nat.lt_or_ge (d.length - p) n with hgt | hle
        · rw [← hn] at hgt
          have := seqLen_le (d.drop p)
          rw [List.length_drop] at this
          omega
        · exact hle
      have hpn : d.length - rest.length = p + n := by omega
      refine ⟨dx, _, h1.at_, _, rd_pos, _, rfl, _, rfl, dx, _, h1.at_, rd_len, ?_⟩
      have h2 := h1.inc (i := (p : Int) + (n : Int)) (n := p + n) (by omega) (by omega)
      generalize hH2 : upd H1 r (HO.ins CR dx (putF (Str.ofString "position") (V.int ((p : Int) + (n : Int))) (rdF D p L))) = H2 at h2 ⊢
      have hB2 : But r H H2 := hH2 ▸ (But.refl.same s1).upd
      refine ⟨dx, _, h2.at_, _, rd_dat, dx, _, h2.at_, _, rd_pos, _, rfl, D, rfl, _, h2.sq, fun a ha => ?_⟩
      rw [cut_nn d p (p + n) h.le, show p + n - p = n by omega, htake]
      exact q a _ (hB2.same (same_new ha)) (hB2.free h2.at_ ha) (hpn ▸ h2.same (same_new ha)) (by rw [hpn, ← List.drop_drop, hdrop]) (by rw [List.length_drop]; omega) upd_same

end
end Bt

namespace Bt
open PySem PySem.Spec PyProof.Rows L2
local macro_rules | `(tactic| walk_at "sx") => `(tactic| simp only [cxK, tTru, rLen, rListOf, rTupOf, tRet, tRetN, tChain, tRng, tCB, tCons, tNil, tC, tVar, tOp, tUn, tTest, tB, tAnd, tOr, tNot, tIfS, tSeq, tIf, tOrV, tAndV, tNotV, tCall, tSl, tPart, tNoPart, tLst, tTup, tBM, tBM0, rExtendS, iList, iTup, iSeqV, rIxL, rIxT, rSlL, rAppend, rExtend, rCat, rI0, rI, rIxS, rEq, rNe, rU, tAsg, gName, tDrop, tNext, scal, L2.start, List.map_cons, List.map_nil, List.length_cons, List.length_nil, Nat.reduceAdd, Nat.reduceSub, List.replicate_succ, List.replicate_zero, List.append_nil, List.cons_append, List.nil_append, List.getElem?_cons_zero, List.getElem?_cons_succ, Option.some.injEq, exists_eq_left', exists_eq_left, V.int.injEq, V.bl.injEq, V.str.injEq, V.ref.injEq, List.cons.injEq, and_true, true_and, exists_and_left, List.set_cons_zero, List.set_cons_succ, spN1_run, tFC, sFC, sFCAug, tMeth, tMake, sRaise, tErF, rAdd, rPop, tM1, tCallL, Option.some.injEq, HO.ins.injEq])
local macro_rules | `(tactic| walk_at "sm") => `(tactic| (repeat (first | exact Same.refl _ | assumption | (refine Same.trans ?_ (same_new (by assumption))) | (refine Same.trans ?_ (by assumption)))))
section
variable {P : Program} {w : World} {K : PySem.W.Frag} {mg : Str → Option Value} {base : Heap}
theorem eqv_one (l : List Nat) (n : Nat) : PyData.eqv (.list (l.map fun m : Nat => PyData.int (m : Int))) (.list [PyData.int (n : Int)]) = decide (l = [n]) := by
  cases l with
  | nil => simp [PyData.eqv, PyData.eqvAll]
  | cons a r =>
    cases r with
    | nil =>
      rw [Bool.eq_iff_iff]
      simp [PyData.eqv, PyData.eqvAll]
      try omega
    | cons b t => simp [PyData.eqv, PyData.eqvAll]
theorem dpAll_nV {K : PySem.W.Frag} {H : Hp} : ∀ l : List Nat, DpAll K H (nV l) (l.map fun m : Nat => PyData.int (m : Int))
  | [] => .nil
  | _ :: r => .cons (.int _) (dpAll_nV r)
theorem take_one (d : List Nat) (p : Nat) : (d.drop p).take 1 = match d[p]? with | none => [] | some b => [b] := by
  cases e : d[p]? with
  | none => rw [List.getElem?_eq_none_iff] at e; rw [List.drop_eq_nil_iff.mpr e]; rfl
  | some b => rw [drop_at e]; rfl
/-- skip_sign(self, sign) -/
def signTo (d : List Nat) (p n : Nat) : Nat := if d[p]? = some n then p + 1 else p
def spSign (CR : Addr) : Sp := fun vs H Q _ => ∃ r D L dx d p z n, vs = [.ref r, .str z] ∧ RdR CR r D L dx d p H ∧ d.length ≤ 1000000 ∧ z.length = 1 ∧ z.cps.getD 0 0 = n ∧ ∀ H', But r H H' → RdR CR r D L dx d (signTo d p n) H' → Q (.bl (decide (d[p]? = some n))) H'
abbrev s_Reader_skip_sign : Stmt := inClass (top 34) 15
theorem sc_Reader_skip_sign : FnScope ["self", "sign"] ["self", "sign"] (defScope s_Reader_skip_sign) := ⟨rfl, rfl, rfl, by decide +kernel, rfl, by decide +kernel, by decide +kernel⟩
theorem ok_Reader_skip_sign {CR : Addr} (DD : DnM K CR "skip_sign" "Reader.skip_sign" s_Reader_skip_sign ["self", "sign"]) (n_ord : mg "ord" = none)
    (q_Reader_position : Kf K CR "position") (q_Reader_data : Kf K CR "data") : OwnM P w K mg base CX0 3 CR "skip_sign" ["self", "sign"] (spSign CR) := by
  refine mth_ok DD sc_Reader_skip_sign (fun _ _ _ _ h => by obtain ⟨_, _, _, _, _, _, _, _, rfl, _⟩ := h; rfl) (fun f cdv A outer s H vs Q E hr h => ⟨_, (pss_cons (ps_if (pt_cmpR (kop_neD (K := K) rfl (Room.units hr)) (pe_slice (ksl_list (K := K) rfl) (pe_fc (K := K) rfl q_Reader_data (pv 0)) (po_some (pe_fc (K := K) rfl q_Reader_position (pv 0))) (po_some (pe_op op_add (pe_fc (K := K) rfl q_Reader_position (pv 0)) pe_int))) (pe_lst (pa_cons (pe_callB call_ord (by rfl) n_ord (by decide +kernel) (pa_cons (pv 1) pa_nil)) pa_nil)) (nomark _)) (pss_one (ps_ret pe_bl)) pss_nil)
    (pss_cons (ps_fcaug (K := K) rfl q_Reader_position (pv 0) pe_int in_add)
    (pss_one (ps_ret pe_bl)))), ?_⟩)
  obtain ⟨r, D, L, dx, d, p, z, n, rfl, h, hlen, hz1, hz, q⟩ := h
  walk_at "sx"
  refine ⟨dx, _, h.at_, _, rd_dat, dx, _, h.at_, _, rd_pos, _, rfl, dx, _, h.at_, _, rd_pos, _, rfl, D, rfl, _, h.sq, fun p1 hp1 => ⟨hz1, le_line (by omega), fun p2 hp2 => ?_⟩⟩
  rw [show ((p : Int) + 1) = ((p + 1 : Nat) : Int) by omega, cut_nn d p (p + 1) h.le, show p + 1 - p = 1 by omega] at hp2 ⊢
  rw [hz]
  have s1 : Same H (upd H p1 (.lst (nV ((d.drop p).take 1)))) := same_new hp1
  have s2 : Same H (upd (upd H p1 (.lst (nV ((d.drop p).take 1)))) p2 (.lst [V.int (n : Int)])) := s1.trans (same_new hp2)
  have l1 : upd (upd H p1 (.lst (nV ((d.drop p).take 1)))) p2 (.lst [V.int (n : Int)]) p1 = some (.lst (nV ((d.drop p).take 1))) := same_new hp2 _ _ upd_same
  have h2 := h.same s2
  refine ⟨_, _, .lst (SqL.of l1) (dpAll_nV _), .lst (SqL.of upd_same) (dpAll_nV [n]), (by rw [take_one]; cases d[p]? <;> rfl), rfl, ?_⟩
  rw [show ([n].map fun m : Nat => PyData.int (m : Int)) = [PyData.int (n : Int)] from rfl, eqv_one]
  refine ⟨_, rfl, ?_⟩
  by_cases e : d[p]? = some n
  · rw [decide_eq_true e] at q
    rw [show decide ((d.drop p).take 1 = [n]) = true by rw [take_one, e]; simp]
    refine iteF ?_
    have hp : p < d.length := (List.getElem?_eq_some_iff.mp e).1
    have qs : signTo d p n = p + 1 := if_pos e
    rw [qs] at q
    refine ⟨dx, _, h2.at_, _, rd_pos, _, rfl, dx, _, h2.at_, rd_len, q _ (But.refl.same s2).upd (h2.inc (by omega) hp)⟩
  · rw [decide_eq_false e] at q
    have qs : signTo d p n = p := if_neg e
    rw [qs] at q
    have e2 : decide ((d.drop p).take 1 = [n]) = false := by
      rw [take_one]
      cases e3 : d[p]? with
      | none => rfl
      | some b => rw [e3] at e; simpa using e
    rw [e2]
    exact iteT (q _ (But.refl.same s2) h2)
theorem OwnOk.held {CX : CXT} {k j : Nat} {x : Str} {ps : List Str} {sp : Sp} (O : OwnOk P w K mg base CX0 k x ps sp) (hj : k ≤ j) : ∃ f, mg x = some (.ref f) ∧ HeldF P w K mg base j f ps sp := by
  obtain ⟨f, fd, hm, hk, hb, F⟩ := O.ex
  exact ⟨f, hm, fd, F.mono hj, hk, hb⟩
theorem hexVal_ge {b : Nat} (h : isHex b = true) : 0 ≤ hexVal b := by
  simp only [isHex, Kh450.isDigit, Bool.or_eq_true, Bool.and_eq_true, decide_eq_true_eq] at h
  simp only [hexVal, Kh450.isDigit, Bool.and_eq_true, decide_eq_true_eq]
  split <;> omega
/-- read_code_point(self, backslash) -/
def hexNum (ds : List Nat) : Nat := ds.foldl (fun n x => n * 16 + (hexVal x).toNat) 0
def codePt (d : List Nat) (p : Nat) : Option (Nat × Nat) :=
  let ds := tw isHex d (signTo d p 123)
  let p2 := signTo d p 123 + ds.length
  if d[p]? = some 123 ∧ d[p2]? = some 125 ∧ 1 ≤ ds.length ∧ ds.length ≤ 6 then (if Kh450.isScalar (hexNum ds) then some (hexNum ds, p2 + 1) else none) else none
def spCode (CR CE : Addr) : Sp := fun vs H Q E => ∃ r D L dx d p back, vs = [.ref r, .int (back : Nat)] ∧ RdR CR r D L dx d p H ∧ d.length ≤ 1000000 ∧ match codePt d p with
  | none => ErrR CE r H E 3 back
  | some (c, p') => ∀ H', But r H H' → RdR CR r D L dx d p' H' → Q (.int (c : Nat)) H'
abbrev s_Reader_read_code_point : Stmt := inClass (top 34) 14
theorem sc_Reader_read_code_point : FnScope ["self", "backslash", "has_opening", "digits", "has_closing", "code", "digit"] ["self", "backslash"] (defScope s_Reader_read_code_point) := ⟨rfl, rfl, rfl, by decide +kernel, rfl, by decide +kernel, by decide +kernel⟩
theorem ok_Reader_read_code_point {CR CE : Addr} {ps : List Str} (DD : DnM K CR "read_code_point" "Reader.read_code_point" s_Reader_read_code_point ["self", "backslash"]) (n_len : mg "len" = none) (c_MOST_DIGITS : IsC mg "MOST_DIGITS" (.int 6))
    (m_Reader_skip_sign : OwnM P w K mg base CX0 3 CR "skip_sign" ["self", "sign"] (spSign CR)) (m_Reader_take_while : OwnM P w K mg base CX0 3 CR "take_while" ["self", "fits"] (spTake P w K mg base CR))
    (o_is_hex_digit : OwnOk P w K mg base CX0 2 "is_hex_digit" ["byte"] (spN1 fun n => .bl (isHex n))) (o_hex_value : OwnOk P w K mg base CX0 2 "hex_value" ["byte"] (spN1 fun n => .int (hexVal n)))
    (o_is_code_point : OwnOk P w K mg base CX0 1 "is_code_point" ["code"] (spN1 fun n => .bl (Kh450.isScalar n))) (x_NotationError : OwnX P w K mg base 2 "NotationError" CE 2 neF ps) :
    OwnM P w K mg base (L2.CX P w) 4 CR "read_code_point" ["self", "backslash"] (spCode CR CE) := by
  obtain ⟨fx, v_is_hex_digit, hF⟩ := o_is_hex_digit.held (CX := CX0) (Nat.le_refl _)
  refine mth_okX DD sc_Reader_read_code_point (fun _ _ _ _ h => by obtain ⟨_, _, _, _, _, _, _, rfl, _⟩ := h; rfl) (fun f cdv A outer s H vs Q E hr h => ⟨_, (pss_cons (ps_set (i := 2) sc_Reader_read_code_point.nd rfl (by first | exact Or.inl rfl | exact Or.inr rfl) (pe_mth m_Reader_skip_sign (pv 0) (hr.mono (by omega)) pass0 (pa_cons pe_str pa_nil)))
    (pss_cons (ps_set (i := 3) sc_Reader_read_code_point.nd rfl (by first | exact Or.inl rfl | exact Or.inr rfl) (pe_mth m_Reader_take_while (pv 0) (hr.mono (by omega)) pass0 (pa_cons (pe_defv (by rfl) v_is_hex_digit) pa_nil)))
    (pss_cons (ps_set (i := 4) sc_Reader_read_code_point.nd rfl (by first | exact Or.inl rfl | exact Or.inr rfl) (pe_mth m_Reader_skip_sign (pv 0) (hr.mono (by omega)) pass0 (pa_cons pe_str pa_nil)))
    (pss_cons (ps_if (pt_not (PW.pt (pw_and (pt_val (pv 2)) (pw_and (pt_val (pv 4)) (pw_and1 (pt_chain op_le op_le pe_int (pe_callB (kcall_len (K := K) rfl) (by rfl) n_len PySem.boot_len (pa_cons (pv 3) pa_nil)) (pe_cst (by rfl) c_MOST_DIGITS))))))) (pss_one (ps_raiseN x_NotationError (hr.mono (by omega)) (by rfl) rfl (L2.takes_of rfl rfl rfl rfl) (pa_cons pe_int (pa_cons (pv 1) pa_nil)))) pss_nil)
    (pss_cons (ps_set (i := 5) sc_Reader_read_code_point.nd rfl (by first | exact Or.inl rfl | exact Or.inr rfl) pe_int)
    (pss_cons (ps_for (L2.passes_of rfl) rfl (kpi_list (K := K) rfl (pv 3)) (pg_name (i := 6) sc_Reader_read_code_point.nd rfl (by first | exact Or.inl rfl | exact Or.inr rfl))
    (pss_one (ps_set (i := 5) sc_Reader_read_code_point.nd rfl (by first | exact Or.inl rfl | exact Or.inr rfl) (pe_op op_add (pe_op op_mul (pv 5) pe_int) (pe_own o_hex_value (hr.mono (by omega)) rfl pass0 (pa_cons (pv 6) pa_nil))))))
    (pss_cons (ps_if (pt_not (pt_val (pe_own o_is_code_point (hr.mono (by omega)) rfl pass0 (pa_cons (pv 5) pa_nil)))) (pss_one (ps_raiseN x_NotationError (hr.mono (by omega)) (by rfl) rfl (L2.takes_of rfl rfl rfl rfl) (pa_cons pe_int (pa_cons (pv 1) pa_nil)))) pss_nil)
    (pss_one (ps_ret (pv 5)))))))))), ?_⟩)
  obtain ⟨r, D, L, dx, d, p, back, rfl, h, hlen, q⟩ := h
  walk_at "sx"
  refine ⟨dx, _, h.at_, rd_mth, r, D, L, dx, d, p, "{", 123, rfl, h, hlen, by decide +kernel, by decide +kernel, fun H1 b1 h1 => ?_⟩
  walk_at "sx"
  refine ⟨dx, _, h1.at_, rd_mth, r, D, L, dx, d, _, fx, isHex, rfl, h1, hlen, hF, fun a1 H2 b2 f1 h2 l1 => ?_⟩
  walk_at "sx"
  refine ⟨dx, _, h2.at_, rd_mth, r, D, L, dx, d, _, "}", 125, rfl, h2, hlen, by decide +kernel, by decide +kernel, fun H3 b3 h3 => ?_⟩
  walk_at "sx"
  have err : codePt d p = none → ErrR CE r H3 E 3 back := fun e => by rw [e] at q; exact q.go (b1.trans (b2.trans b3))
  have errg : ErrR CE r H3 E 3 back → ∃ x y, (V.int 3 = x ∧ V.int (back : Int) = y) ∧ ∀ (d : Addr), H3 d = none → E (Value.ref CE) (some d) (upd H3 d (HO.xd [(Str.ofString "position", y), (Str.ofString "kind", x), (Str.ofString "code", V.int (-20))])) :=
    fun z => ⟨_, _, ⟨rfl, rfl⟩, fun dE hd => z H3 dE But.refl hd⟩
  generalize hds : tw isHex d (signTo d p 123) = ds at h2 l1 h3 ⊢
  generalize hp2 : signTo d p 123 + ds.length = p2 at h2 h3 ⊢
  have cp : codePt d p = if d[p]? = some 123 ∧ d[p2]? = some 125 ∧ 1 ≤ ds.length ∧ ds.length ≤ 6 then (if Kh450.isScalar (hexNum ds) then some (hexNum ds, p2 + 1) else none) else none := by
    simp only [codePt, hds, hp2]
  have ne1 : a1 ≠ r := fun z => by rw [z, h1.at_] at f1; cases f1
  have l3 : H3 a1 = some (.lst (nV ds)) := b3 _ _ ne1 l1
  by_cases e1 : d[p]? = some 123
  case neg =>
    rw [decide_eq_false e1]
    exact iteF (iteT (errg (err (cp.trans (if_neg fun z => e1 z.1)))))
  rw [decide_eq_true e1]
  refine iteT ?_
  by_cases e2 : d[p2]? = some 125
  case neg =>
    rw [decide_eq_false e2]
    exact iteF (iteT (errg (err (cp.trans (if_neg fun z => e2 z.2.1)))))
  rw [decide_eq_true e2]
  refine iteT ⟨_, .inl (SqL.of l3), ?_⟩
  rw [List.length_map]
  by_cases e3 : 1 ≤ ds.length
  case neg => exact ite2 (fun z => by rw [decide_eq_true_eq] at z; omega) fun _ => iteT (errg (err (cp.trans (if_neg fun z => e3 z.2.2.1))))
  refine ite2 (fun _ => ?_) fun z => absurd (decide_eq_true (by omega)) z
  by_cases e4 : ds.length ≤ 6
  case neg => exact ite2 (fun _ => errg (err (cp.trans (if_neg fun z => e4 z.2.2.2)))) fun z => by simp at z; omega
  refine ite2 (fun z => by simp at z; omega) fun _ => ?_
  rw [if_pos ⟨e1, e2, e3, e4⟩] at cp
  have hx : ∀ x ∈ ds, isHex x = true := hds ▸ tw_all isHex d _
  refine ⟨_, rfl, a1, rfl, ⟨_, SqL.of l3⟩, for_list (xs := nV ds) (fun j σ' H' => Same H3 H' ∧ ∃ x, σ' = [some (.ref r), some (.int (back : Int)), some (.bl true), some (.ref a1), some (.bl true), some (.int (hexNum (ds.take j) : Nat)), x])
    ⟨Same.refl _, _, rfl⟩ (fun j σ' H' _ ⟨s1, _⟩ => s1.seq (SqL.of l3)) ?_ ?_⟩
  · rintro j x σ' H' hxj ⟨s1, y, rfl⟩
    obtain ⟨b, hb, rfl⟩ := nV_get hxj
    walk_at "sx"
    refine ⟨.inr (by decide), fun H4 s4 => ⟨s1.trans s4, ?_, _, rfl⟩⟩
    have hb' := hexVal_ge (hx b (List.mem_of_getElem? hb))
    rw [take_at hb]
    simp only [hexNum, List.foldl_append, List.foldl_cons, List.foldl_nil, and_true]
    omega
  · rintro σ' H' ⟨s1, y, rfl⟩
    rw [List.length_map, List.take_length]
    walk_at "sx"
    intro H4 s4
    have s14 := s1.trans s4
    cases hsc : Kh450.isScalar (hexNum ds) with
    | true =>
      rw [hsc, if_pos rfl] at cp
      rw [cp] at q
      have e5 : signTo d p2 125 = p2 + 1 := if_pos e2
      rw [e5] at h3
      exact iteF (q H4 ((b1.trans (b2.trans b3)).same s14) (h3.same s14))
    | false =>
      rw [hsc] at cp
      exact iteT ⟨_, _, ⟨rfl, rfl⟩, fun dE hd => err cp H4 dE (But.refl.same s14) hd⟩

end
end Bt

namespace Bt
open Kh450 (takeWhile hexValue hexNumber isScalar readEscape)
/-! ### escapes -/
abbrev hexStep : Option Nat → Nat → Option Nat := fun n d => match n, hexValue d with
  | some x, some y => some (16 * x + y)
  | _, _ => none
theorem hex_yes {x : Nat} (h : isHex x = true) : x ≠ 125 ∧ hexValue x = some (hexVal x).toNat := by
  simp only [isHex, Kh450.isDigit, Bool.or_eq_true, Bool.and_eq_true, decide_eq_true_eq] at h
  refine ⟨by omega, ?_⟩
  simp only [hexValue, hexVal, Kh450.isDigit, Bool.and_eq_true, decide_eq_true_eq]
  split
  · congr 1; omega
  · rw [if_pos (by omega)]; congr 1; omega
theorem hex_no {x : Nat} (h : isHex x = false) : hexValue x = none := by
  simp only [isHex, Kh450.isDigit, Bool.or_eq_false_iff, Bool.and_eq_false_iff, decide_eq_false_iff_not] at h
  simp only [hexValue, Kh450.isDigit, Bool.and_eq_true, decide_eq_true_eq]
  rw [if_neg (by omega), if_neg (by omega)]
theorem hex_none (l : List Nat) : l.foldl hexStep none = none := by
  induction l with
  | nil => rfl
  | cons a r ih => exact ih
theorem hex_run : ∀ (l : List Nat) (acc : Nat), (match (takeWhile isHex l).2 with
  | [] => (takeWhile (fun b => b != 125) l).2 = []
  | x :: r => if x = 125 then takeWhile (fun b => b != 125) l = takeWhile isHex l ∧ (takeWhile isHex l).1.foldl hexStep (some acc) = some ((takeWhile isHex l).1.foldl (fun n x => n * 16 + (hexVal x).toNat) acc)
    else (takeWhile (fun b => b != 125) l).1.foldl hexStep (some acc) = none)
  | [], acc => rfl
  | a :: r, acc => by
    by_cases h : isHex a = true
    · obtain ⟨h1, h2⟩ := hex_yes h
      have ih := hex_run r (acc * 16 + (hexVal a).toNat)
      have e1 : takeWhile isHex (a :: r) = (a :: (takeWhile isHex r).1, (takeWhile isHex r).2) := by simp only [takeWhile, h, if_true]
      have e2 : takeWhile (fun b => b != 125) (a :: r) = (a :: (takeWhile (fun b => b != 125) r).1, (takeWhile (fun b => b != 125) r).2) := by
        simp only [takeWhile]
        rw [if_pos (by simpa using h1)]
      have st : hexStep (some acc) a = some (acc * 16 + (hexVal a).toNat) := by
        show (match some acc, hexValue a with | some x, some y => some (16 * x + y) | _, _ => none) = _
        rw [h2]
        show some _ = some _
        congr 1; omega
      rw [e1, e2]
      simp only [List.foldl_cons, st]
      cases e : (takeWhile isHex r).2 with
      | nil => rw [e] at ih; exact ih
      | cons x t =>
        rw [e] at ih
        simp only at ih ⊢
        by_cases hx : x = 125
        · rw [if_pos hx] at ih ⊢
          refine ⟨by rw [ih.1, e], ih.2⟩
        · rw [if_neg hx] at ih ⊢
          exact ih
    · have e1 : takeWhile isHex (a :: r) = ([], a :: r) := by simp only [takeWhile]; rw [if_neg h]
      rw [e1]
      simp only
      by_cases hx : a = 125
      · rw [if_pos hx]
        have e2 : takeWhile (fun b => b != 125) (a :: r) = ([], a :: r) := by simp only [takeWhile]; rw [if_neg (by simpa using hx)]
        exact ⟨e2, rfl⟩
      · rw [if_neg hx]
        have e2 : takeWhile (fun b => b != 125) (a :: r) = (a :: (takeWhile (fun b => b != 125) r).1, (takeWhile (fun b => b != 125) r).2) := by
          simp only [takeWhile]
          rw [if_pos (by simpa using hx)]
        rw [e2]
        have hn := hex_no (x := a) (by simpa using h)
        have st : hexStep (some acc) a = none := by
          show (match some acc, hexValue a with | some x, some y => some (16 * x + y) | _, _ => none) = _
          rw [hn]
        simp only [List.foldl_cons, st]
        exact hex_none _
theorem esc_u (d : List Nat) (q : Nat) (h : d[q]? = some 117) : readEscape (d.drop q) = (codePt d (q + 1)).map fun y => (y.1, d.drop y.2) := by
  rw [drop_at h]
  cases e : d[q + 1]? with
  | none =>
    rw [List.getElem?_eq_none_iff] at e
    rw [List.drop_eq_nil_iff.mpr e]
    have : codePt d (q + 1) = none := by
      simp only [codePt]
      rw [if_neg (fun z => by have := (List.getElem?_eq_some_iff.mp z.1).1; omega)]
    rw [this]
    rfl
  | some b =>
    rw [drop_at e]
    by_cases hb : b = 123
    · subst hb
      have e0 : signTo d (q + 1) 123 = q + 2 := if_pos e
      have hr := hex_run (d.drop (q + 2)) 0
      have ht := tw_take isHex (d.drop (q + 2))
      have hds : tw isHex d (q + 2) = (takeWhile isHex (d.drop (q + 2))).1 := rfl
      simp only [codePt, e0]
      rw [hds]
      show (let digits := takeWhile (fun b => b != 125) (d.drop (q + 2)); if digits.1.isEmpty ∨ 6 < digits.1.length ∨ digits.2.isEmpty then none else match hexNumber digits.1 with
        | none => none
        | some c => if isScalar c then some (c, digits.2.drop 1) else none) = _
      simp only
      have d2 : ∀ i, d[q + 2 + i]? = ((d.drop (q + 2)).drop i)[0]? := fun i => by rw [List.getElem?_drop, List.getElem?_drop]; rfl
      have hn2 := d2 (takeWhile isHex (d.drop (q + 2))).1.length
      rw [← ht.2] at hn2
      generalize takeWhile (fun b => b != 125) (d.drop (q + 2)) = A at hr ⊢
      generalize hB : takeWhile isHex (d.drop (q + 2)) = B at hr ht hn2 ⊢
      obtain ⟨B1, B2⟩ := B
      obtain ⟨A1, A2⟩ := A
      try simp only at *
      cases B2 with
      | nil =>
        try simp only at hr hn2
        subst hr
        rw [if_pos (.inr (.inr rfl)), if_neg (fun z => by rw [hn2] at z; simp at z)]
        rfl
      | cons x t =>
        try simp only at hr hn2
        by_cases hx : x = 125
        · subst hx
          rw [if_pos rfl] at hr
          obtain ⟨hA, hf⟩ := hr
          injection hA with hA1 hA2
          subst hA1 hA2
          have hn : hexNumber A1 = some (hexNum A1) := hf
          rw [hn]
          have hdr : d.drop (q + 2 + A1.length + 1) = t := by
            have : d.drop (q + 2 + A1.length) = 125 :: t := by rw [← List.drop_drop]; exact ht.2.symm
            rw [show q + 2 + A1.length + 1 = (q + 2 + A1.length) + 1 from rfl, ← List.drop_drop, this]
            rfl
          by_cases hc : A1.isEmpty = true ∨ 6 < A1.length
          · rw [if_pos (hc.elim .inl fun z => .inr (.inl z)), if_neg]
            · rfl
            · rintro ⟨_, _, z1, z2⟩
              rcases hc with hc | hc
              · rw [List.isEmpty_iff] at hc; subst hc; simp at z1
              · omega
          · rw [not_or] at hc
            have l1 : 1 ≤ A1.length := by
              cases A1 with
              | nil => exact absurd rfl hc.1
              | cons _ _ => simp
            rw [if_neg (fun z => z.elim hc.1 fun z => z.elim hc.2 fun z => by simp at z), if_pos ⟨e, by rw [hn2]; rfl, l1, by omega⟩]
            simp only
            split
            · show some (_, t) = some (_, _)
              rw [hdr]
            · rfl
        · rw [if_neg hx] at hr
          have hn : hexNumber A1 = none := hr
          have z : ¬ (d[q + 1]? = some 123 ∧ d[q + 2 + B1.length]? = some 125 ∧ 1 ≤ B1.length ∧ B1.length ≤ 6) := fun z => by
            have z1 := z.2.1
            rw [hn2] at z1
            exact hx (Option.some.inj z1)
          rw [hn, if_neg z]
          split <;> rfl
    · have e0 : codePt d (q + 1) = none := by
        simp only [codePt]
        rw [if_neg (fun z => by rw [e] at z; simp at z; exact hb z.1)]
      rw [e0]
      unfold readEscape
      split
      all_goals first | rfl | (rename_i hh; simp at hh; exact (hb hh.1).elim) | (rename_i hh; simp at hh)
end Bt

namespace Bt
open PySem PySem.Spec PyProof.Rows L2
local macro_rules | `(tactic| walk_at "sx") => `(tactic| simp only [cxK, tTru, rLen, rListOf, rTupOf, tRet, tRetN, tChain, tRng, tCB, tCons, tNil, tC, tVar, tOp, tUn, tTest, tB, tAnd, tOr, tNot, tIfS, tSeq, tIf, tOrV, tAndV, tNotV, tCall, tSl, tPart, tNoPart, tLst, tTup, tBM, tBM0, rExtendS, iList, iTup, iSeqV, rIxL, rIxT, rSlL, rAppend, rExtend, rCat, rI0, rI, rIxS, rEq, rNe, rU, tAsg, gName, tDrop, tNext, scal, L2.start, List.map_cons, List.map_nil, List.length_cons, List.length_nil, Nat.reduceAdd, Nat.reduceSub, List.replicate_succ, List.replicate_zero, List.append_nil, List.cons_append, List.nil_append, List.getElem?_cons_zero, List.getElem?_cons_succ, Option.some.injEq, exists_eq_left', exists_eq_left, V.int.injEq, V.bl.injEq, V.str.injEq, V.ref.injEq, List.cons.injEq, and_true, true_and, exists_and_left, List.set_cons_zero, List.set_cons_succ, spN1_run, tFC, sFC, sFCAug, tMeth, tMake, sRaise, tErF, rAdd, rPop, tM1, tCallL, Option.some.injEq, HO.ins.injEq])
local macro_rules | `(tactic| walk_at "sm") => `(tactic| (repeat (first | exact Same.refl _ | assumption | (refine Same.trans ?_ (same_new (by assumption))) | (refine Same.trans ?_ (by assumption)))))
section
variable {P : Program} {w : World} {K : PySem.W.Frag} {mg : Str → Option Value} {base : Heap}
/-- a character that was read: its bytes, fresh, and the place behind it -/
def CharR (CR r D L dx : Addr) (d : List Nat) (p : Nat) (H : Hp) (Q : VK) (c : Nat) (rest : List Nat) : Prop := ∀ a H', But r H H' → H a = none → RdR CR r D L dx d (d.length - rest.length) H' → rest = d.drop (d.length - rest.length) → rest.length < (d.drop p).length → H' a = some (.lst (nV (Kh450.encodeUtf8 c))) → Q (.ref a) H'
theorem codePt_gt {d : List Nat} {q c p' : Nat} (h : codePt d q = some (c, p')) : q < p' := by
  simp only [codePt] at h
  split at h
  · split at h
    · injection h with h
      injection h with h1 h2
      have : q ≤ signTo d q 123 := by unfold signTo; split <;> omega
      omega
    · cases h
  · cases h
/-- read_escape(self) -/
def spEsc (CR CE : Addr) : Sp := fun vs H Q E => ∃ r D L dx d p, vs = [.ref r] ∧ RdR CR r D L dx d p H ∧ d.length ≤ 1000000 ∧ p < d.length ∧
  if d.length ≤ p + 1 then ErrR CE r H E 1 d.length else match Kh450.readEscape (d.drop (p + 1)) with
  | none => ErrR CE r H E 3 p
  | some (c, rest) => CharR CR r D L dx d p H Q c rest
abbrev s_Reader_read_escape : Stmt := inClass (top 34) 13
theorem sc_Reader_read_escape : FnScope ["self", "start", "byte"] ["self"] (defScope s_Reader_read_escape) := ⟨rfl, rfl, rfl, by decide +kernel, rfl, by decide +kernel, by decide +kernel⟩
theorem ok_Reader_read_escape {CR CE : Addr} {ps : List Str} (DD : DnM K CR "read_escape" "Reader.read_escape" s_Reader_read_escape ["self"]) (n_ord : mg "ord" = none) (c_LINE_FEED : IsC mg "LINE_FEED" (.int 10)) (c_TAB : IsC mg "TAB" (.int 9))
    (q_Reader_position : Kf K CR "position") (o_encoded : OwnOk P w K mg base CX0 2 "encoded" ["code"] spEnc)
    (m_Reader_string_byte : OwnM P w K mg base (L2.CX P w) 4 CR "string_byte" ["self"] (spByte CR CE)) (m_Reader_read_code_point : OwnM P w K mg base (L2.CX P w) 4 CR "read_code_point" ["self", "backslash"] (spCode CR CE))
    (x_NotationError : OwnX P w K mg base 2 "NotationError" CE 2 neF ps) :
    OwnM P w K mg base (L2.CX P w) 5 CR "read_escape" ["self"] (spEsc CR CE) := by
  refine mth_okX DD sc_Reader_read_escape (fun _ _ _ _ h => by obtain ⟨_, _, _, _, _, _, rfl, _⟩ := h; rfl) (fun f cdv A outer s H vs Q E hr h => ⟨_, (pss_cons (ps_set (i := 1) sc_Reader_read_escape.nd rfl (by first | exact Or.inl rfl | exact Or.inr rfl) (pe_fc (K := K) rfl q_Reader_position (pv 0)))
    (pss_cons (ps_fcaug (K := K) rfl q_Reader_position (pv 0) pe_int in_add)
    (pss_cons (ps_set (i := 2) sc_Reader_read_escape.nd rfl (by first | exact Or.inl rfl | exact Or.inr rfl) (pe_mth0 m_Reader_string_byte (pv 0) (hr.mono (by omega)) (L2.passes_call (L2.takes_of rfl rfl rfl rfl) (fun _ _ _ _ h => h))))
    (pss_cons (ps_fcaug (K := K) rfl q_Reader_position (pv 0) pe_int in_add)
    (pss_cons (ps_if (pt_cmpR (kop_in (K := K) rfl) (pv 2) (pe_tup (pa_cons (pe_ordL 34 n_ord) (pa_cons (pe_ordL 92 n_ord) pa_nil))) (by rfl)) (pss_one (ps_ret (pe_lst (pa_cons (pv 2) pa_nil)))) pss_nil)
    (pss_cons (ps_if (pt_cmpR op_eq (pv 2) (pe_ordL 110 n_ord) (nomark _)) (pss_one (ps_ret (pe_lst (pa_cons (pe_cst (by rfl) c_LINE_FEED) pa_nil)))) pss_nil)
    (pss_cons (ps_if (pt_cmpR op_eq (pv 2) (pe_ordL 116 n_ord) (nomark _)) (pss_one (ps_ret (pe_lst (pa_cons (pe_cst (by rfl) c_TAB) pa_nil)))) pss_nil)
    (pss_cons (ps_if (pt_cmpR op_eq (pv 2) (pe_ordL 117 n_ord) (nomark _)) (pss_one (ps_ret (pe_own o_encoded (hr.mono (by omega)) rfl pass0 (pa_cons (pe_mth m_Reader_read_code_point (pv 0) (hr.mono (by omega)) (L2.passes_call (L2.takes_of rfl rfl rfl rfl) (fun _ _ _ _ h => h)) (pa_cons (pv 1) pa_nil)) pa_nil)))) pss_nil)
    (pss_one (ps_raiseN x_NotationError (hr.mono (by omega)) (by rfl) rfl (L2.takes_of rfl rfl rfl rfl) (pa_cons pe_int (pa_cons (pv 1) pa_nil)))))))))))), ?_⟩)
  obtain ⟨r, D, L, dx, d, p, rfl, h, hlen, hp, q⟩ := h
  walk_at "sx"
  refine ⟨dx, _, h.at_, _, rd_pos, ?_⟩
  have h1 := h.inc (i := (p : Int) + 1) (n := p + 1) (by omega) hp
  generalize hH1 : upd H r (HO.ins CR dx (putF (Str.ofString "position") (V.int ((p : Int) + 1)) (rdF D p L))) = H1 at h1
  have b1 : But r H H1 := hH1 ▸ But.refl.upd
  refine ⟨dx, _, h.at_, _, rd_pos, _, rfl, dx, _, h.at_, rd_len, ?_⟩
  rw [hH1]
  refine ⟨dx, _, h1.at_, rd_mth, r, D, L, dx, d, _, rfl, h1, ?_⟩
  cases e : d[p + 1]? with
  | none =>
    rw [List.getElem?_eq_none_iff] at e
    rw [if_pos e] at q
    exact q.go b1
  | some b =>
    have hp1 : p + 1 < d.length := (List.getElem?_eq_some_iff.mp e).1
    rw [if_neg (by omega)] at q
    intro H2 s2
    walk_at "sx"
    have h2 := h1.same s2
    have h3 := h2.inc (i := ((p + 1 : Nat) : Int) + 1) (n := p + 2) (by omega) hp1
    generalize hH3 : upd H2 r (HO.ins CR dx (putF (Str.ofString "position") (V.int (((p + 1 : Nat) : Int) + 1)) (rdF D (p + 1) L))) = H3 at h3
    have b3 : But r H H3 := b1.trans (But.refl.same s2 |>.trans (hH3 ▸ But.refl.upd))
    refine ⟨dx, _, h2.at_, _, rd_pos, _, rfl, dx, _, h2.at_, rd_len, ?_⟩
    rw [hH3]
    have hd := drop_at e
    have dl : ∀ j, j ≤ d.length → d.length - (d.drop j).length = j := fun j hj => by rw [List.length_drop]; omega
    have one : ∀ c : Nat, c < 128 → Kh450.readEscape (d.drop (p + 1)) = some (c, d.drop (p + 2)) → ∀ H4, But r H H4 → RdR CR r D L dx d (p + 2) H4 → 1 ≤ sizeLine ∧ ∀ (a : Addr), H4 a = none → Q (V.ref a) (upd H4 a (HO.lst [V.int (c : Int)])) := by
      intro c hc he H4 b4 h4
      rw [he] at q
      refine ⟨le_line (by omega), fun a ha => q a _ (b4.same (same_new ha)) (b4.free h4.at_ ha) ?_ ?_ ?_ ?_⟩
      · rw [dl _ (by omega)]; exact h4.same (same_new ha)
      · rw [dl _ (by omega)]
      · rw [List.length_drop, List.length_drop]; omega
      · rw [upd_same, Kh450.encodeUtf8, if_pos (by omega)]; rfl
    refine ⟨le_line (by omega), fun t ht => ⟨t, _, rfl, .inr (SqT.of upd_same), rfl, rfl, _, rfl, ?_⟩⟩
    have s4 : Same H3 (upd H3 t (HO.tup [V.int ((34 : Nat) : Int), V.int ((92 : Nat) : Int)])) := same_new ht
    have b4 := b3.same s4
    have h4 := h3.same s4
    generalize upd H3 t (HO.tup [V.int ((34 : Nat) : Int), V.int ((92 : Nat) : Int)]) = H4 at b4 h4 ⊢
    have hin : inV (V.int (b : Int)) [V.int ((34 : Nat) : Int), V.int ((92 : Nat) : Int)] = decide (b = 34 ∨ b = 92) := by
      simp only [inV, List.any_cons, List.any_nil, eqV, Bool.or_false]
      rw [Bool.eq_iff_iff]; simp; omega
    rw [hin]
    refine ite2 (fun hb => ?_) fun hb => ite2 (fun h110 => ?_) fun h110 => ite2 (fun h116 => ?_) fun h116 => ite2 (fun h117 => ?_) fun h117 => ?_
    · have hb : b = 34 ∨ b = 92 := by simpa using hb
      refine one b (by omega) ?_ H4 b4 h4
      rw [hd]
      rcases hb with hb | hb <;> subst hb <;> rfl
    · have hb2 : b = 110 := by rw [decide_eq_true_eq] at h110; omega
      refine one 10 (by omega) ?_ H4 b4 h4
      rw [hd, hb2]; rfl
    · have hb2 : b = 116 := by rw [decide_eq_true_eq] at h116; omega
      refine one 9 (by omega) ?_ H4 b4 h4
      rw [hd, hb2]; rfl
    · have hb2 : b = 117 := by rw [decide_eq_true_eq] at h117; omega
      refine ⟨dx, _, h4.at_, rd_mth, r, D, L, dx, d, _, p, rfl, h4, hlen, ?_⟩
      rw [esc_u d (p + 1) (by rw [e, hb2])] at q
      cases ec : codePt d (p + 1 + 1) with
      | none =>
        rw [ec] at q
        exact q.go b4
      | some y =>
        obtain ⟨c, p'⟩ := y
        rw [ec] at q
        intro H5 b5 h5
        refine ⟨fun _ => none, c, fun _ _ z => (by cases z), rfl, fun v G' H6 e6 ⟨a, hv, ha⟩ => ?_⟩
        subst hv
        have hf : H5 a = none := (e6.fr a _ ha).elim (fun z => by cases z) id
        refine q a H6 ((b4.trans b5).same e6.same) ((b4.trans b5).free h5.at_ hf) ?_ ?_ ?_ (e6.sub _ _ ha)
        · rw [dl _ h5.le]; exact h5.same e6.same
        · rw [dl _ h5.le]
        · rw [List.length_drop, List.length_drop]
          have := codePt_gt ec
          have := h5.le
          omega
    · have e1 : ¬ (b = 34 ∨ b = 92) := by simpa using hb
      have e2 : ¬ b = 110 := by intro z; subst z; exact h110 rfl
      have e3 : ¬ b = 116 := by intro z; subst z; exact h116 rfl
      have e4 : ¬ b = 117 := by intro z; subst z; exact h117 rfl
      have en : Kh450.readEscape (d.drop (p + 1)) = none := by
        rw [hd]
        unfold Kh450.readEscape
        split
        all_goals first | rfl | (rename_i hh; simp at hh; omega)
      rw [en] at q
      exact ⟨_, _, ⟨rfl, rfl⟩, fun dE hd => q H4 dE b4 hd⟩

end
end Bt

namespace Bt
open Kh450 (takeWhile readEscape decodeUtf8 readString readList readNode readAllLoop skipSpace Read isDigit isLower isSymbolPart)
/-! ### reading, step by step -/
theorem decode_lt {l r : List Nat} {c : Nat} (h : decodeUtf8 l = some (c, r)) : r.length < l.length := by
  unfold decodeUtf8 at h
  split at h
  · cases h
  · rename_i a rest
    split at h
    · injection h with h; injection h with _ h; subst h; simp
    · split at h
      · cases h
      · split at h
        · split at h
          · split at h
            · injection h with h; injection h with _ h; subst h; simp; omega
            · cases h
          · cases h
        · split at h
          · split at h
            · dsimp only at h
              split at h
              · injection h with h; injection h with _ h; subst h; simp; omega
              · cases h
            · cases h
          · split at h
            · split at h
              · dsimp only at h
                split at h
                · injection h with h; injection h with _ h; subst h; simp; omega
                · cases h
              · cases h
            · cases h
theorem tw2_le (p : Nat → Bool) (l : List Nat) : (takeWhile p l).2.length ≤ l.length := by
  rw [(tw_take p l).2, List.length_drop]; omega
theorem escape_lt {l r : List Nat} {c : Nat} (h : readEscape l = some (c, r)) : r.length < l.length := by
  unfold readEscape at h
  split at h
  · injection h with h; injection h with _ h; subst h; simp
  · injection h with h; injection h with _ h; subst h; simp
  · injection h with h; injection h with _ h; subst h; simp
  · injection h with h; injection h with _ h; subst h; simp
  · rename_i rest
    dsimp only at h
    split at h
    · cases h
    · split at h
      · cases h
      · split at h
        · injection h with h; injection h with _ h; subst h
          have := tw2_le (fun b => b != 125) rest
          simp only [List.length_drop, List.length_cons]; omega
        · cases h
  · cases h
theorem bind_ok {α β : Type} {r : Read α} {f : α → List Nat → Read β} {b : β} {rest : List Nat} (h : r.bind f = .ok b rest) : ∃ a s, r = .ok a s ∧ f a s = .ok b rest := by
  cases r with
  | ok a s => exact ⟨a, s, rfl, h⟩
  | error k s => cases h
theorem string_lt : ∀ (fuel : Nat) (l : List Nat) {t : Kh450.Text} {r : List Nat}, readString fuel l = .ok t r → r.length < l.length
  | fuel, [], t, r, h => by unfold readString at h; cases h
  | 0, a :: l, t, r, h => by unfold readString at h; cases h
  | fuel + 1, b :: rest, t, r, h => by
    unfold readString at h
    split at h
    · injection h with _ h; subst h; simp
    · split at h
      · split at h
        · cases h
        · split at h
          · cases h
          · rename_i c s e
            obtain ⟨a, s', e2, e3⟩ := bind_ok h
            injection e3 with _ e3; subst e3
            have := string_lt fuel _ e2
            have := escape_lt e
            simp only [List.length_cons]; omega
      · split at h
        · cases h
        · split at h
          · cases h
          · rename_i c s e
            obtain ⟨a, s', e2, e3⟩ := bind_ok h
            injection e3 with _ e3; subst e3
            have := string_lt fuel _ e2
            have := decode_lt e
            omega
theorem list_lt {rn : List Nat → Read Kh450.Node} (hn : ∀ l n r, rn l = .ok n r → r.length < l.length) : ∀ (fuel : Nat) (l : List Nat) {ns : List Kh450.Node} {r : List Nat}, readList rn fuel l = .ok ns r → r.length < l.length
  | 0, l, ns, r, h => by unfold readList at h; cases h
  | fuel + 1, l, ns, r, h => by
    have hs := skip_len false l
    unfold readList at h
    split at h
    · cases h
    · rename_i rest e
      injection h with _ h; subst h
      rw [e] at hs
      simp only [List.length_cons] at hs; omega
    · rename_i other h1 h2
      obtain ⟨a, s', e2, e3⟩ := bind_ok h
      obtain ⟨a', s'', e4, e5⟩ := bind_ok e3
      injection e5 with _ e5; subst e5
      have := hn _ _ _ e2
      have := list_lt hn fuel _ e4
      omega
theorem node_eq (total depth b : Nat) (rest : List Nat) : readNode total depth (b :: rest) = 
    if b = 40 then (match depth with
      | 0 => .error 6 (b :: rest)
      | depth + 1 => (readList (readNode total depth) (rest.length + 1) rest).bind fun items r => .ok (.list (total - (rest.length + 1)) items) r)
    else if b = 34 then (readString rest.length rest).bind fun content r => .ok (.string (total - (rest.length + 1)) content) r
    else if isDigit b then (let digits := takeWhile isDigit (b :: rest)
        if 6 < digits.1.length ∨ (1 < digits.1.length ∧ b = 48) then .error 5 (b :: rest)
        else .ok (.integer (total - (rest.length + 1)) (digits.1.foldl (fun n d => 10 * n + (d - 48)) 0)) digits.2)
    else if isLower b then (let name := takeWhile isSymbolPart (b :: rest)
        .ok (.symbol (total - (rest.length + 1)) name.1) name.2)
    else .error 2 (b :: rest) := by
  cases depth <;> rfl
theorem tw2_lt {p : Nat → Bool} {b : Nat} (l : List Nat) (h : p b = true) : (takeWhile p (b :: l)).2.length < (b :: l).length := by
  simp only [takeWhile, h, if_true, List.length_cons]
  have := tw2_le p l
  omega
theorem node_lt (total : Nat) : ∀ (depth : Nat) (l : List Nat) (n : Kh450.Node) (r : List Nat), readNode total depth l = .ok n r → r.length < l.length
  | depth, [], n, r, h => by cases depth <;> (unfold readNode at h; cases h)
  | depth, b :: rest, n, r, h => by
    rw [node_eq] at h
    split at h
    · cases depth with
      | zero => cases h
      | succ k =>
        obtain ⟨a, s, e2, e3⟩ := bind_ok h
        injection e3 with _ e3; subst e3
        have := list_lt (node_lt total k) _ _ e2
        simp only [List.length_cons]; omega
    · split at h
      · obtain ⟨a, s, e2, e3⟩ := bind_ok h
        injection e3 with _ e3; subst e3
        have := string_lt _ _ e2
        simp only [List.length_cons]; omega
      · split at h
        · rename_i hd
          dsimp only at h
          split at h
          · cases h
          · injection h with _ h; subst h
            exact tw2_lt rest hd
        · split at h
          · rename_i hl
            dsimp only at h
            injection h with _ h; subst h
            exact tw2_lt rest (by simp [isSymbolPart, hl])
          · cases h
theorem list_fuel {rn : List Nat → Read Kh450.Node} (hn : ∀ l n r, rn l = .ok n r → r.length < l.length) : ∀ (f f' : Nat) (l : List Nat), l.length < f → l.length < f' → readList rn f l = readList rn f' l
  | 0, _, l, h, _ => by omega
  | _, 0, l, _, h => by omega
  | f + 1, f' + 1, l, h, h' => by
    have hs := skip_len false l
    unfold readList
    split
    · rfl
    · rfl
    · rename_i other h1 h2
      cases e : rn (skipSpace false l) with
      | error k s => rfl
      | ok n s =>
        have := hn _ _ _ e
        show (readList rn f s).bind _ = (readList rn f' s).bind _
        rw [list_fuel hn f f' s (by omega) (by omega)]
theorem all_fuel (total : Nat) : ∀ (f f' : Nat) (l : List Nat), l.length < f → l.length < f' → readAllLoop total f l = readAllLoop total f' l
  | 0, _, l, h, _ => by omega
  | _, 0, l, _, h => by omega
  | f + 1, f' + 1, l, h, h' => by
    have hs := skip_len false l
    unfold readAllLoop
    split
    · rfl
    · rename_i other h1
      cases e : readNode total Kh450.maxDepth (skipSpace false l) with
      | error k s => rfl
      | ok n s =>
        have := node_lt _ _ _ _ _ e
        show (readAllLoop total f s).bind _ = (readAllLoop total f' s).bind _
        rw [all_fuel total f f' s (by omega) (by omega)]
end Bt

namespace Bt
open Kh450 (readList readNode readAllLoop skipSpace Read isSpace)
/-- what comes of reading on: open lists (innermost first: place, items before it), the items so far, the bytes ahead -/
def goOn (total : Nat) : List (Nat × List Kh450.Node) → List Kh450.Node → List Nat → Read (List Kh450.Node)
  | [], cur, bs => (readAllLoop total (bs.length + 1) bs).bind fun ns r => .ok (cur ++ ns) r
  | (q, prev) :: up, cur, bs => (readList (readNode total (16 - (up.length + 1))) (bs.length + 1) bs).bind fun ns r => goOn total up (prev ++ [.list q (cur ++ ns)]) r
theorem skip_idem : ∀ (c : Bool) (l : List Nat), skipSpace false (skipSpace c l) = skipSpace c l
  | c, [] => by simp [skipSpace]
  | c, b :: r => by
    simp only [skipSpace]
    split
    · exact skip_idem _ r
    · split
      · exact skip_idem _ r
      · split
        · exact skip_idem _ r
        · rename_i h1 h2 h3
          simp only [skipSpace, h2, h3, if_false, Bool.false_eq_true]
theorem goOn_skip (total : Nat) (up : List (Nat × List Kh450.Node)) (cur : List Kh450.Node) (bs : List Nat) : goOn total up cur (skipSpace false bs) = goOn total up cur bs := by
  have hs := skip_len false bs
  cases up with
  | nil =>
    unfold goOn
    rw [all_fuel total ((skipSpace false bs).length + 1) (bs.length + 1) _ (by omega) (by omega)]
    congr 1
    show readAllLoop total (bs.length + 1) (skipSpace false bs) = readAllLoop total (bs.length + 1) bs
    unfold readAllLoop
    rw [skip_idem]
  | cons y up =>
    obtain ⟨q, prev⟩ := y
    unfold goOn
    rw [list_fuel (node_lt total _) ((skipSpace false bs).length + 1) (bs.length + 1) _ (by omega) (by omega)]
    congr 1
    show readList _ (bs.length + 1) (skipSpace false bs) = readList _ (bs.length + 1) bs
    unfold readList
    rw [skip_idem]
/-- a byte that begins something -/
theorem goOn_token (total : Nat) (up : List (Nat × List Kh450.Node)) (cur : List Kh450.Node) (b : Nat) (r : List Nat) (hs : skipSpace false (b :: r) = b :: r) (h41 : b ≠ 41) :
    goOn total up cur (b :: r) = match readNode total (16 - up.length) (b :: r) with
      | .ok n rest => goOn total up (cur ++ [n]) rest
      | .error k rest => .error k rest := by
  cases up with
  | nil =>
    show (readAllLoop total ((b :: r).length + 1) (b :: r)).bind _ = match readNode total 16 (b :: r) with | .ok n rest => goOn total [] (cur ++ [n]) rest | .error k rest => .error k rest
    have e : readAllLoop total ((b :: r).length + 1) (b :: r) = (readNode total 16 (b :: r)).bind fun node rest => (readAllLoop total (b :: r).length rest).bind fun nodes rest => .ok (node :: nodes) rest := by
      conv => lhs; unfold readAllLoop
      rw [hs]
      rfl
    rw [e]
    cases e2 : readNode total 16 (b :: r) with
    | error k s => rfl
    | ok n s =>
      have := node_lt _ _ _ _ _ e2
      show ((readAllLoop total (b :: r).length s).bind _).bind _ = (readAllLoop total (s.length + 1) s).bind _
      rw [all_fuel total (b :: r).length (s.length + 1) s this (by omega)]
      cases readAllLoop total (s.length + 1) s with
      | error k t => rfl
      | ok ns t => show Read.ok _ _ = Read.ok _ _; simp
  | cons y up =>
    obtain ⟨q, prev⟩ := y
    show (readList (readNode total (16 - (up.length + 1))) ((b :: r).length + 1) (b :: r)).bind _ = match readNode total (16 - (up.length + 1)) (b :: r) with | .ok n rest => goOn total ((q, prev) :: up) (cur ++ [n]) rest | .error k rest => .error k rest
    have e : readList (readNode total (16 - (up.length + 1))) ((b :: r).length + 1) (b :: r) = (readNode total (16 - (up.length + 1)) (b :: r)).bind fun node rest => (readList (readNode total (16 - (up.length + 1))) (b :: r).length rest).bind fun nodes rest => .ok (node :: nodes) rest := by
      conv => lhs; unfold readList
      rw [hs]
      split
      · rename_i h; cases h
      · rename_i h; injection h with h _; exact absurd h h41
      · rfl
    rw [e]
    cases e2 : readNode total (16 - (up.length + 1)) (b :: r) with
    | error k s => rfl
    | ok n s =>
      have := node_lt _ _ _ _ _ e2
      show ((readList (readNode total (16 - (up.length + 1))) (b :: r).length s).bind _).bind _ = (readList (readNode total (16 - (up.length + 1))) (s.length + 1) s).bind _
      rw [list_fuel (node_lt total _) (b :: r).length (s.length + 1) s this (by omega)]
      cases readList (readNode total (16 - (up.length + 1))) (s.length + 1) s with
      | error k t => rfl
      | ok ns t => show goOn _ _ _ _ = goOn _ _ _ _; simp
theorem goOn_close (total : Nat) (q : Nat) (prev : List Kh450.Node) (up : List (Nat × List Kh450.Node)) (cur : List Kh450.Node) (r : List Nat) : goOn total ((q, prev) :: up) cur (41 :: r) = goOn total up (prev ++ [.list q cur]) r := by
  show (readList (readNode total (16 - (up.length + 1))) ((41 :: r).length + 1) (41 :: r)).bind _ = _
  have e : readList (readNode total (16 - (up.length + 1))) ((41 :: r).length + 1) (41 :: r) = .ok [] r := by
    unfold readList
    have : skipSpace false (41 :: r) = 41 :: r := rfl
    rw [this]
    rfl
  rw [e]
  show goOn _ _ _ _ = _
  rw [List.append_nil]
theorem goOn_close0 (total : Nat) (cur : List Kh450.Node) (r : List Nat) : goOn total [] cur (41 :: r) = .error 2 (41 :: r) := by
  show (readAllLoop total ((41 :: r).length + 1) (41 :: r)).bind _ = _
  have e : readAllLoop total ((41 :: r).length + 1) (41 :: r) = .error 2 (41 :: r) := by
    unfold readAllLoop
    have : skipSpace false (41 :: r) = 41 :: r := rfl
    rw [this]
    rfl
  rw [e]
  rfl
theorem goOn_open (total : Nat) (up : List (Nat × List Kh450.Node)) (cur : List Kh450.Node) (r : List Nat) : goOn total up cur (40 :: r) = if up.length < 16 then goOn total ((total - (r.length + 1), cur) :: up) [] r else .error 6 (40 :: r) := by
  rw [goOn_token total up cur 40 r rfl (by decide), node_eq, if_pos rfl]
  by_cases h : up.length < 16
  · rw [if_pos h]
    obtain ⟨k, hk⟩ : ∃ k, 16 - up.length = k + 1 := ⟨15 - up.length, by omega⟩
    rw [hk]
    show (match (readList (readNode total k) (r.length + 1) r).bind _ with | .ok n rest => goOn total up (cur ++ [n]) rest | .error k rest => .error k rest) = (readList (readNode total (16 - (up.length + 1))) (r.length + 1) r).bind _
    rw [show 16 - (up.length + 1) = k by omega]
    cases readList (readNode total k) (r.length + 1) r with
    | error k t => rfl
    | ok ns t => rfl
  · rw [if_neg h, show 16 - up.length = 0 by omega]
theorem goOn_end (total : Nat) (up : List (Nat × List Kh450.Node)) (cur : List Kh450.Node) : goOn total up cur [] = if up = [] then .ok cur [] else .error 1 [] := by
  cases up with
  | nil => show Read.ok (cur ++ []) [] = _; rw [List.append_nil]; rfl
  | cons y up => rfl
theorem readAll_goOn (d : List Nat) : Kh450.readAll d = goOn d.length [] [] d := by
  show readAllLoop d.length (d.length + 1) d = (readAllLoop d.length (d.length + 1) d).bind _
  cases readAllLoop d.length (d.length + 1) d <;> rfl
end Bt

namespace Bt
open PySem PySem.Spec PyProof.Rows L2
local macro_rules | `(tactic| walk_at "sx") => `(tactic| simp only [cxK, tTru, rLen, rListOf, rTupOf, tRet, tRetN, tChain, tRng, tCB, tCons, tNil, tC, tVar, tOp, tUn, tTest, tB, tAnd, tOr, tNot, tIfS, tSeq, tIf, tOrV, tAndV, tNotV, tCall, tSl, tPart, tNoPart, tLst, tTup, tBM, tBM0, rExtendS, iList, iTup, iSeqV, rIxL, rIxT, rSlL, rAppend, rExtend, rCat, rI0, rI, rIxS, rEq, rNe, rU, tAsg, gName, tDrop, tNext, scal, L2.start, List.map_cons, List.map_nil, List.length_cons, List.length_nil, Nat.reduceAdd, Nat.reduceSub, List.replicate_succ, List.replicate_zero, List.append_nil, List.cons_append, List.nil_append, List.getElem?_cons_zero, List.getElem?_cons_succ, Option.some.injEq, exists_eq_left', exists_eq_left, V.int.injEq, V.bl.injEq, V.str.injEq, V.ref.injEq, List.cons.injEq, and_true, true_and, exists_and_left, List.set_cons_zero, List.set_cons_succ, spN1_run, tFC, sFC, sFCAug, tMeth, tMake, sRaise, tErF, rAdd, rPop, tM1, tCallL, Option.some.injEq, HO.ins.injEq])
local macro_rules | `(tactic| walk_at "sm") => `(tactic| (repeat (first | exact Same.refl _ | assumption | (refine Same.trans ?_ (same_new (by assumption))) | (refine Same.trans ?_ (by assumption)))))
section
variable {P : Program} {w : World} {K : PySem.W.Frag} {mg : Str → Option Value} {base : Heap}
/-! ### expressions as they lie -/
def exF (k : Str) (v : V) (p : Nat) : List (Str × V) := [("kind", .str k), ("value", v), ("position", .int (p : Int))]
mutual
def ExAt (CX : Addr) (H : Hp) : Kh450.Node → V → Prop
  | .symbol p t, v => ∃ a dx, v = .ref a ∧ H a = some (.ins CX dx (exF "symbol" (.str ⟨t.toArray⟩) p))
  | .integer p n, v => ∃ a dx, v = .ref a ∧ H a = some (.ins CX dx (exF "integer" (.int (n : Int)) p))
  | .string p t, v => ∃ a dx b, v = .ref a ∧ H a = some (.ins CX dx (exF "string" (.ref b) p)) ∧ H b = some (.tup (nV (Kh450.encodeAll t)))
  | .list p items, v => ∃ a dx b vs, v = .ref a ∧ H a = some (.ins CX dx (exF "list" (.ref b) p)) ∧ H b = some (.lst vs) ∧ ExsAt CX H items vs
def ExsAt (CX : Addr) (H : Hp) : List Kh450.Node → List V → Prop
  | [], vs => vs = []
  | n :: r, vs => ∃ v t, vs = v :: t ∧ ExAt CX H n v ∧ ExsAt CX H r t
end
mutual
theorem ExAt.same {CX : Addr} {H H' : Hp} (s : Same H H') : ∀ (n : Kh450.Node) (v : V), ExAt CX H n v → ExAt CX H' n v
  | .symbol p t, v, h => by
    obtain ⟨a, dx, e, q⟩ := (by simpa only [ExAt] using h)
    simp only [ExAt]
    exact ⟨a, dx, e, s _ _ q⟩
  | .integer p t, v, h => by
    obtain ⟨a, dx, e, q⟩ := (by simpa only [ExAt] using h)
    simp only [ExAt]
    exact ⟨a, dx, e, s _ _ q⟩
  | .string p t, v, h => by
    obtain ⟨a, dx, b, e, q, q2⟩ := (by simpa only [ExAt] using h)
    simp only [ExAt]
    exact ⟨a, dx, b, e, s _ _ q, s _ _ q2⟩
  | .list p items, v, h => by
    obtain ⟨a, dx, b, vs, e, q, q2, q3⟩ := (by simpa only [ExAt] using h)
    simp only [ExAt]
    exact ⟨a, dx, b, vs, e, s _ _ q, s _ _ q2, ExsAt.same s items vs q3⟩
theorem ExsAt.same {CX : Addr} {H H' : Hp} (s : Same H H') : ∀ (ns : List Kh450.Node) (vs : List V), ExsAt CX H ns vs → ExsAt CX H' ns vs
  | [], vs, h => by simpa only [ExsAt] using h
  | n :: r, vs, h => by
    obtain ⟨v, t, e, q, q2⟩ := (by simpa only [ExsAt] using h)
    simp only [ExsAt]
    exact ⟨v, t, e, ExAt.same s n v q, ExsAt.same s r t q2⟩
end
theorem ExsAt.snoc {CX : Addr} {H : Hp} {n : Kh450.Node} {v : V} : ∀ {ns : List Kh450.Node} {vs : List V}, ExsAt CX H ns vs → ExAt CX H n v → ExsAt CX H (ns ++ [n]) (vs ++ [v])
  | [], vs, h, q => by
    have : vs = [] := by simpa only [ExsAt] using h
    subst this
    show ExsAt CX H [n] [v]
    simp only [ExsAt]
    exact ⟨v, [], rfl, q, rfl⟩
  | m :: r, vs, h, q => by
    obtain ⟨u, t, e, q1, q2⟩ := (by simpa only [ExsAt] using h)
    subst e
    show ExsAt CX H (m :: (r ++ [n])) (u :: (t ++ [v]))
    simp only [ExsAt]
    exact ⟨u, _, rfl, q1, q2.snoc q⟩
theorem ExsAt.len {CX : Addr} {H : Hp} : ∀ {ns : List Kh450.Node} {vs : List V}, ExsAt CX H ns vs → vs.length = ns.length
  | [], vs, h => by
    have : vs = [] := by simpa only [ExsAt] using h
    subst this; rfl
  | m :: r, vs, h => by
    obtain ⟨u, t, e, q1, q2⟩ := (by simpa only [ExsAt] using h)
    subst e
    simp [q2.len]
/-- the open lists outside of the innermost one at a -/
def LvOut (CX : Addr) (G H : Hp) : Addr → List Addr → List (Nat × List Kh450.Node) → Prop
  | _, [], up => up = []
  | a, b :: bs, up => ∃ q prev up' vs e dx, up = (q, prev) :: up' ∧ H b = some (.lst (vs ++ [.ref e])) ∧ ExsAt CX G prev vs ∧ G e = some (.ins CX dx (exF "list" (.ref a) q)) ∧ LvOut CX G H b bs up'
theorem LvOut.mono {CX : Addr} {G H G' H' : Hp} (s : Same G G') : ∀ (bs : List Addr) (a : Addr) (up : List (Nat × List Kh450.Node)), (∀ b ∈ bs, ∀ o, H b = some o → H' b = some o) → LvOut CX G H a bs up → LvOut CX G' H' a bs up
  | [], a, up, _, h => h
  | b :: bs, a, up, k, h => by
    obtain ⟨q, prev, up', vs, e, dx, h1, h2, h3, h4, h5⟩ := h
    exact ⟨q, prev, up', vs, e, dx, h1, k b (by simp) _ h2, ExsAt.same s _ _ h3, s _ _ h4, LvOut.mono s bs b up' (fun c hc => k c (by simp [hc])) h5⟩
theorem LvOut.len {CX : Addr} {G H : Hp} : ∀ (bs : List Addr) (a : Addr) (up : List (Nat × List Kh450.Node)), LvOut CX G H a bs up → up.length = bs.length
  | [], a, up, h => by
    have : up = [] := h
    subst this; rfl
  | b :: bs, a, up, h => by
    obtain ⟨q, prev, up', vs, e, dx, h1, h2, h3, h4, h5⟩ := h
    subst h1
    simp [LvOut.len bs b up' h5]
theorem LvOut.live {CX : Addr} {G H : Hp} : ∀ (bs : List Addr) (a : Addr) (up : List (Nat × List Kh450.Node)), LvOut CX G H a bs up → ∀ x ∈ bs, ∃ o, H x = some o
  | [], a, up, h, x, hx => by simp at hx
  | b :: bs, a, up, h, x, hx => by
    obtain ⟨q, prev, up', vs, e, dx, h1, h2, h3, h4, h5⟩ := h
    rcases List.mem_cons.mp hx with rfl | hx
    · exact ⟨_, h2⟩
    · exact LvOut.live bs b up' h5 x hx
/-- the reader's whole state: what it read lies in G -/
structure Rd (CR CX r D L dx a : Addr) (bs : List Addr) (vs : List V) (d : List Nat) (G0 H0 G H : Hp) (p : Nat) (up : List (Nat × List Kh450.Node)) (cur : List Kh450.Node) : Prop where
  ext : Ext G0 H0 G H
  rd : RdR CR r D L dx d p H
  data : G D = some (.lst (nV d))
  lev : H L = some (.lst (bs.reverse.map V.ref ++ [.ref a]))
  top : H a = some (.lst vs)
  exs : ExsAt CX G cur vs
  out : LvOut CX G H a bs up
  nd : (r :: L :: a :: bs).Nodup
  priv : ∀ x ∈ r :: L :: a :: bs, H0 x = none ∧ G x = none
  small : d.length ≤ 1000000
  count : cur.length ≤ p ∧ ∀ y ∈ up, y.2.length + 1 ≤ p
  byte : ∀ x ∈ d, x < 256
theorem Ext.but {r : Addr} {G0 H0 G H H' : Hp} (e : Ext G0 H0 G H) (h0 : H0 r = none) (g : G r = none) (b : But r H H') : Ext G0 H0 G H' :=
  ⟨fun c o z => b c o (ne_of_none z h0) (e.same c o z), fun c o z => b c o (ne_of_none z g) (e.sub c o z), e.up, e.fr⟩
section
variable {CR CX r D L dx a : Addr} {bs : List Addr} {vs : List V} {d : List Nat} {G0 H0 G H G1 H1 H' : Hp} {p p' : Nat} {up : List (Nat × List Kh450.Node)} {cur : List Kh450.Node}
/-- what of the state lies elsewhere than at r stays -/
theorem Rd.off (S : Rd CR CX r D L dx a bs vs d G0 H0 G H p up cur) : ∀ x ∈ L :: a :: bs, x ≠ r := fun x hx e => by
  have := (List.nodup_cons.mp S.nd).1
  rw [e] at hx
  exact this hx
/-- the position moved on, much new perhaps -/
theorem Rd.pos (S : Rd CR CX r D L dx a bs vs d G0 H0 G H p up cur) (b : But r H H') (k : RdR CR r D L dx d p' H') (l : p ≤ p') : Rd CR CX r D L dx a bs vs d G0 H0 G H' p' up cur := by
  have pr := S.priv r (by simp)
  refine ⟨S.ext.but pr.1 pr.2 b, k, S.data, b _ _ (S.off L (by simp)) S.lev, b _ _ (S.off a (by simp)) S.top, S.exs, ?_, S.nd, S.priv, S.small, ⟨Nat.le_trans S.count.1 l, fun y hy => Nat.le_trans (S.count.2 y hy) l⟩, S.byte⟩
  exact LvOut.mono (Same.refl _) bs a up (fun c hc o z => b c o (S.off c (by simp [hc])) z) S.out
/-- more was published -/
theorem Rd.grow (S : Rd CR CX r D L dx a bs vs d G0 H0 G H p up cur) (e : Ext G H G1 H1) : Rd CR CX r D L dx a bs vs d G0 H0 G1 H1 p up cur := by
  have live : ∀ x ∈ r :: L :: a :: bs, ∃ o, H x = some o := by
    intro x hx
    rcases List.mem_cons.mp hx with rfl | hx
    · exact ⟨_, S.rd.at_⟩
    rcases List.mem_cons.mp hx with rfl | hx
    · exact ⟨_, S.lev⟩
    rcases List.mem_cons.mp hx with rfl | hx
    · exact ⟨_, S.top⟩
    · exact LvOut.live bs a up S.out x hx
  refine ⟨S.ext.trans e, S.rd.same e.same, e.up _ _ S.data, e.same _ _ S.lev, e.same _ _ S.top, ExsAt.same e.up _ _ S.exs, LvOut.mono e.up bs a up (fun c _ o z => e.same c o z) S.out, S.nd, fun x hx => ⟨(S.priv x hx).1, ?_⟩, S.small, S.count, S.byte⟩
  obtain ⟨o, ho⟩ := live x hx
  exact e.stay (S.priv x hx).2 ho
/-- an item at the end of the innermost list -/
theorem Rd.add (S : Rd CR CX r D L dx a bs vs d G0 H0 G H p up cur) {n : Kh450.Node} {v : V} (x : ExAt CX G n v) (l : cur.length + 1 ≤ p) : Rd CR CX r D L dx a bs (vs ++ [v]) d G0 H0 G (upd H a (.lst (vs ++ [v]))) p up (cur ++ [n]) := by
  have pa := S.priv a (by simp)
  have ra : r ≠ a := (S.off a (by simp)).symm
  have nd := S.nd
  have La : L ≠ a := fun e => by
    have := (List.nodup_cons.mp (List.nodup_cons.mp nd).2).1
    rw [e] at this; exact this (by simp)
  have Da : D ≠ a := fun e => by have := S.data; rw [e, pa.2] at this; cases this
  have ba : ∀ b ∈ bs, b ≠ a := fun b hb e => by
    have := (List.nodup_cons.mp (List.nodup_cons.mp (List.nodup_cons.mp nd).2).2).1
    rw [e] at hb; exact this hb
  refine ⟨S.ext.mut pa.1 pa.2, ⟨(upd_ne ra).trans S.rd.at_, (upd_ne Da).trans S.rd.data, S.rd.le⟩, S.data, (upd_ne La).trans S.lev, upd_same, S.exs.snoc x, ?_, nd, S.priv, S.small, ⟨by simp; omega, S.count.2⟩, S.byte⟩
  exact LvOut.mono (Same.refl _) bs a up (fun c hc o z => (upd_ne (ba c hc)).trans z) S.out
/-- the addresses of the state are apart -/
theorem Rd.apart (S : Rd CR CX r D L dx a bs vs d G0 H0 G H p up cur) : r ≠ L ∧ r ≠ a ∧ L ≠ a ∧ D ≠ r ∧ D ≠ L ∧ D ≠ a ∧ (∀ b ∈ bs, b ≠ r ∧ b ≠ L ∧ b ≠ a) := by
  have nd := S.nd
  obtain ⟨n1, nd⟩ := List.nodup_cons.mp nd
  obtain ⟨n2, nd⟩ := List.nodup_cons.mp nd
  obtain ⟨n3, nd⟩ := List.nodup_cons.mp nd
  have dn : ∀ x ∈ r :: L :: a :: bs, D ≠ x := fun x hx e => by have := S.data; rw [e, (S.priv x hx).2] at this; cases this
  refine ⟨fun e => n1 (by simp [e]), fun e => n1 (by simp [e]), fun e => n2 (by simp [e]), dn r (by simp), dn L (by simp), dn a (by simp), fun b hb => ⟨fun e => n1 (by simp [← e, hb]), fun e => n2 (by simp [← e, hb]), fun e => n3 (by simp [← e, hb])⟩⟩
theorem Rd.live (S : Rd CR CX r D L dx a bs vs d G0 H0 G H p up cur) : ∀ x ∈ r :: L :: a :: bs, ∃ o, H x = some o := by
  intro x hx
  rcases List.mem_cons.mp hx with rfl | hx
  · exact ⟨_, S.rd.at_⟩
  rcases List.mem_cons.mp hx with rfl | hx
  · exact ⟨_, S.lev⟩
  rcases List.mem_cons.mp hx with rfl | hx
  · exact ⟨_, S.top⟩
  · exact LvOut.live bs a up S.out x hx
/-- a list begins -/
theorem Rd.open (S : Rd CR CX r D L dx a bs vs d G0 H0 G H p up cur) {c e dxe : Addr} (hc : H c = none) (he : upd H c (.lst []) e = none) (hd : upd H c (.lst []) dxe = none) (ne : dxe ≠ e) (hp : p < d.length) :
    Rd CR CX r D L dx c (a :: bs) [] d G0 H0 (upd (upd G dxe (.own e)) e (.ins CX dxe (exF "list" (.ref c) p)))
      (upd (upd (upd (upd (upd (upd H c (.lst [])) dxe (.own e)) e (.ins CX dxe (exF "list" (.ref c) p))) a (.lst (vs ++ [.ref e]))) L (.lst (bs.reverse.map V.ref ++ [.ref a] ++ [.ref c]))) r (.ins CR dx (rdF D (p + 1) L))) (p + 1) ((p, cur) :: up) [] := by
  obtain ⟨rL, ra, La, Dr, DL, Da, hb⟩ := S.apart
  have e0 : Ext G H G (upd H c (.lst [])) := (Ext.refl S.ext.sub).priv hc
  have e1 : Ext G H (upd G dxe (.own e)) (upd (upd H c (.lst [])) dxe (.own e)) := e0.made hd
  have he1 : upd (upd H c (.lst [])) dxe (.own e) e = none := (upd_ne ne.symm).trans he
  have e2 := e1.made (o := .ins CX dxe (exF "list" (.ref c) p)) he1
  have S1 := S.grow e2
  have cl : ∀ x ∈ r :: L :: a :: bs, c ≠ x := fun x hx z => by obtain ⟨o, ho⟩ := S.live x hx; rw [← z, hc] at ho; cases ho
  have cr := cl r (by simp)
  have cL := cl L (by simp)
  have ca := cl a (by simp)
  have pr := S1.priv
  have h0c : H0 c = none := S.ext.same.free hc
  have ce : c ≠ e := fun z => by rw [← z, upd_same] at he; cases he
  have cd : c ≠ dxe := fun z => by rw [← z, upd_same] at hd; cases hd
  have hcN : ((upd (upd (upd H c (.lst [])) dxe (.own e)) e (.ins CX dxe (exF "list" (.ref c) p)))) c = some (.lst []) := (upd_ne ce).trans ((upd_ne cd).trans upd_same)
  have gc : (upd (upd G dxe (.own e)) e (.ins CX dxe (exF "list" (.ref c) p))) c = none := (upd_ne ce).trans ((upd_ne cd).trans (S.ext.sub.free hc))
  generalize (upd (upd (upd H c (.lst [])) dxe (.own e)) e (.ins CX dxe (exF "list" (.ref c) p))) = H1 at S1 hcN ⊢
  have ge : (upd (upd G dxe (.own e)) e (.ins CX dxe (exF "list" (.ref c) p))) e = some (.ins CX dxe (exF "list" (.ref c) p)) := upd_same
  generalize (upd (upd G dxe (.own e)) e (.ins CX dxe (exF "list" (.ref c) p))) = G1 at S1 gc pr ge ⊢
  have Dc : D ≠ c := fun z => by have := S1.data; rw [z, gc] at this; cases this
  refine ⟨((S1.ext.mut (pr a (by simp)).1 (pr a (by simp)).2).mut (pr L (by simp)).1 (pr L (by simp)).2).mut (pr r (by simp)).1 (pr r (by simp)).2, ⟨upd_same, ?_, hp⟩, S1.data, ?_, ?_, by simp only [ExsAt], ?_, ?_, ?_, S.small, ⟨Nat.zero_le _, ?_⟩, S.byte⟩
  · rw [upd_ne Dr, upd_ne DL, upd_ne Da]; exact S1.rd.data
  · rw [upd_ne rL.symm, upd_same]; simp
  · rw [upd_ne cr, upd_ne cL, upd_ne ca]; exact hcN
  · refine ⟨p, cur, up, vs, e, dxe, rfl, ?_, S1.exs, ge, ?_⟩
    · rw [upd_ne ra.symm, upd_ne La.symm, upd_same]
    · exact LvOut.mono (Same.refl _) bs a up (fun b hbm o z => by obtain ⟨b1, b2, b3⟩ := hb b hbm; rw [upd_ne b1, upd_ne b2, upd_ne b3]; exact z) S1.out
  · have nd := S.nd
    simp only [List.nodup_cons, List.mem_cons, not_or] at nd ⊢
    refine ⟨⟨nd.1.1, fun z => cr z.symm, nd.1.2⟩, ⟨fun z => cL z.symm, nd.2.1⟩, ⟨ca, fun z => cl c (by simp [z]) rfl⟩, nd.2.2⟩
  · intro x hx
    simp only [List.mem_cons] at hx
    rcases hx with rfl | rfl | rfl | rfl | hx
    · exact pr _ (by simp)
    · exact pr _ (by simp)
    · exact ⟨h0c, gc⟩
    · exact pr _ (by simp)
    · exact pr _ (by simp [hx])
  · intro y hy
    rcases List.mem_cons.mp hy with rfl | hy
    · have := S.count.1; simp only; omega
    · have := S.count.2 y hy; omega
/-- a list ends -/
theorem Rd.close {b : Addr} {q : Nat} {prev : List Kh450.Node} (S : Rd CR CX r D L dx a (b :: bs) vs d G0 H0 G H p ((q, prev) :: up) cur) (hp : p < d.length) :
    ∃ vs' G', Rd CR CX r D L dx b bs vs' d G0 H0 G' (upd (upd H L (.lst (bs.reverse.map V.ref ++ [.ref b]))) r (.ins CR dx (rdF D (p + 1) L))) (p + 1) up (prev ++ [.list q cur]) := by
  obtain ⟨rL, ra, La, Dr, DL, Da, hb⟩ := S.apart
  obtain ⟨q', prev', up', vs', e, dx', e1, h2, h3, h4, h5⟩ := S.out
  injection e1 with e1 e1'
  injection e1 with e1a e1b
  subst e1a e1b e1'
  have pr := S.priv
  have x1 := S.ext.pub (pr a (by simp)).1 S.top
  have up1 : Same G (upd G a (.lst vs)) := same_new (pr a (by simp)).2
  have pr' : ∀ x ∈ r :: L :: b :: bs, H0 x = none ∧ (upd G a (.lst vs)) x = none := by
    intro x hx
    have xa : x ≠ a := by
      rcases List.mem_cons.mp hx with rfl | hx
      · exact ra
      rcases List.mem_cons.mp hx with rfl | hx
      · exact La
      · exact (hb x hx).2.2
    rw [upd_ne xa]
    refine pr x ?_
    rcases List.mem_cons.mp hx with rfl | hx
    · simp
    rcases List.mem_cons.mp hx with rfl | hx
    · simp
    · exact List.mem_cons_of_mem _ (List.mem_cons_of_mem _ (List.mem_cons_of_mem _ hx))
  have nd := S.nd
  simp only [List.nodup_cons, List.mem_cons, not_or] at nd
  refine ⟨vs' ++ [.ref e], upd G a (.lst vs), ⟨(x1.mut (pr L (by simp)).1 (pr' L (by simp)).2).mut (pr r (by simp)).1 (pr' r (by simp)).2, ⟨upd_same, ?_, hp⟩, up1 _ _ S.data, ?_, ?_, ?_, ?_, ?_, pr', S.small, ⟨?_, ?_⟩, S.byte⟩⟩
  · rw [upd_ne Dr, upd_ne DL]; exact S.rd.data
  · rw [upd_ne rL.symm, upd_same]
  · obtain ⟨b1, b2, b3⟩ := hb b (by simp)
    rw [upd_ne b1, upd_ne b2]; exact h2
  · refine (ExsAt.same up1 _ _ h3).snoc ?_
    simp only [ExAt]
    exact ⟨e, dx', a, vs, rfl, up1 _ _ h4, upd_same, ExsAt.same up1 _ _ S.exs⟩
  · exact LvOut.mono up1 bs b up (fun c hc o z => by obtain ⟨b1, b2, b3⟩ := hb c (by simp [hc]); rw [upd_ne b1, upd_ne b2]; exact z) h5
  · simp only [List.nodup_cons, List.mem_cons, not_or]
    exact ⟨⟨nd.1.1, nd.1.2.2.1, nd.1.2.2.2⟩, ⟨nd.2.1.2.1, nd.2.1.2.2⟩, nd.2.2.2⟩
  · have := S.count.2 (q, prev) (by simp); simp only at this; simp; omega
  · intro y hy
    have := S.count.2 y (by simp [hy]); omega
end

end
end Bt

namespace Bt
open PySem PySem.Spec PyProof.Rows L2
local macro_rules | `(tactic| walk_at "sx") => `(tactic| simp only [cxK, tTru, rLen, rListOf, rTupOf, tRet, tRetN, tChain, tRng, tCB, tCons, tNil, tC, tVar, tOp, tUn, tTest, tB, tAnd, tOr, tNot, tIfS, tSeq, tIf, tOrV, tAndV, tNotV, tCall, tSl, tPart, tNoPart, tLst, tTup, tBM, tBM0, rExtendS, iList, iTup, iSeqV, rIxL, rIxT, rSlL, rAppend, rExtend, rCat, rI0, rI, rIxS, rEq, rNe, rU, tAsg, gName, tDrop, tNext, scal, L2.start, List.map_cons, List.map_nil, List.length_cons, List.length_nil, Nat.reduceAdd, Nat.reduceSub, List.replicate_succ, List.replicate_zero, List.append_nil, List.cons_append, List.nil_append, List.getElem?_cons_zero, List.getElem?_cons_succ, Option.some.injEq, exists_eq_left', exists_eq_left, V.int.injEq, V.bl.injEq, V.str.injEq, V.ref.injEq, List.cons.injEq, and_true, true_and, exists_and_left, List.set_cons_zero, List.set_cons_succ, spN1_run, tFC, sFC, sFCAug, tMeth, tMake, sRaise, tErF, rAdd, rPop, tM1, tCallL, Option.some.injEq, HO.ins.injEq])
local macro_rules | `(tactic| walk_at "sm") => `(tactic| (repeat (first | exact Same.refl _ | assumption | (refine Same.trans ?_ (same_new (by assumption))) | (refine Same.trans ?_ (by assumption)))))
section
variable {P : Program} {w : World} {K : PySem.W.Frag} {mg : Str → Option Value} {base : Heap}
/-! ### the reader: what it adds -/
/-- add_expression(self, kind, value, position) -/
def spAdd (CR CX : Addr) : Sp := fun vs H Q _ => ∃ r dxr D p L ls a xs k v q, vs = [.ref r, .str k, v, .int ((q : Nat) : Int)] ∧ H r = some (.ins CR dxr (rdF D p L)) ∧ H L = some (.lst (ls ++ [.ref a])) ∧ H a = some (.lst xs) ∧ xs.length < sizeLine ∧
  ∀ e dxe, H e = none → H dxe = none → dxe ≠ e → Q .non (upd (upd (upd H dxe (.own e)) e (.ins CX dxe (exF k v q))) a (.lst (xs ++ [.ref e])))
def spExpr (CX : Addr) : Sp := fun vs H Q _ => ∃ a dx x y z, vs = [.ref a, x, y, z] ∧ H a = some (.ins CX dx []) ∧ Q .non (upd H a (.ins CX dx [("kind", x), ("value", y), ("position", z)]))
abbrev s_Reader_add_expression : Stmt := inClass (top 34) 4
theorem sc_Reader_add_expression : FnScope ["self", "kind", "value", "position"] ["self", "kind", "value", "position"] (defScope s_Reader_add_expression) := ⟨rfl, rfl, rfl, by decide +kernel, rfl, by decide +kernel, by decide +kernel⟩
theorem ok_Reader_add_expression {CR CX : Addr} (DD : DnM K CR "add_expression" "Reader.add_expression" s_Reader_add_expression ["self", "kind", "value", "position"]) (q_Reader_levels : Kf K CR "levels")
    (k_Expression : OwnI P w K mg base CX0 1 "Expression" CX ["self", "kind", "value", "position"] (spExpr CX)) : OwnM P w K mg base CX0 3 CR "add_expression" ["self", "kind", "value", "position"] (spAdd CR CX) := by
  refine mth_ok DD sc_Reader_add_expression (fun _ _ _ _ h => by obtain ⟨_, _, _, _, _, _, _, _, _, _, _, rfl, _⟩ := h; rfl) (fun f cdv A outer s H vs Q E hr h => ⟨_, (pss_one (ps_expr (kpe_bm (K := K) rfl PySem.F.plainAttrs_list PySem.F.slot_list_append PySem.F.type_list_append mt_append (pe_ix (kix_list (K := K) rfl) (pe_fc (K := K) rfl q_Reader_levels (pv 0)) (pe_un un_neg pe_int) (fun _ _ => rfl)) (pa_cons (pe_new k_Expression (hr.mono (by omega)) rfl pass0 (pa_cons (pv 1) (pa_cons (pv 2) (pa_cons (pv 3) pa_nil)))) pa_nil)))), ?_⟩)
  obtain ⟨r, dxr, D, p, L, ls, a, xs, k, v, q0, rfl, hr1, hL, ha, hz, q⟩ := h
  walk_at "sx"
  refine ⟨dxr, _, hr1, _, rd_lev, L, rfl, _, SqL.of hL, _, atI_last _ _, tyL (SqL.of ha), fun e dxe he hd ne => ⟨e, dxe, _, _, _, rfl, upd_same, rfl, a, rfl, xs, ?_, hz, ?_⟩⟩
  · have ae : a ≠ e := fun z => by rw [z, he] at ha; cases ha
    have ad : a ≠ dxe := fun z => by rw [z, hd] at ha; cases ha
    rw [upd_upd, upd_ne ae, upd_ne ad]
    exact ha
  · rw [upd_upd]
    exact q e dxe he hd ne
/-- what is to come of a step: the reading goes on alike, or the error is told -/
def Fwd (CR CX CE r D L dx : Addr) (d : List Nat) (G0 H0 : Hp) (p : Nat) (goal : Kh450.Read (List Kh450.Node)) (Q : VK) (E : XK) : Prop :=
  (∀ a bs vs G' H' p' up' cur', Rd CR CX r D L dx a bs vs d G0 H0 G' H' p' up' cur' → goOn d.length up' cur' (d.drop p') = goal → p < p' → Q .non H') ∧
  (∀ k rest H' dE, goal = .error k rest → Same H0 H' → H' dE = none → E (.ref CE) (some dE) (upd H' dE (.xd [("position", .int ((d.length - rest.length : Nat) : Int)), ("kind", .int ((k : Nat) : Int)), ("code", .int (-20))])))
theorem Fwd.err {CR CX CE r D L dx a : Addr} {bs : List Addr} {vs : List V} {d : List Nat} {G0 H0 G H : Hp} {p : Nat} {up : List (Nat × List Kh450.Node)} {cur : List Kh450.Node} {goal : Kh450.Read (List Kh450.Node)} {Q : VK} {E : XK} {k n : Nat} {rest : List Nat}
    (F : Fwd CR CX CE r D L dx d G0 H0 p goal Q E) (S : Rd CR CX r D L dx a bs vs d G0 H0 G H p up cur) (e : goal = .error k rest) (hn : d.length - rest.length = n) : ErrR CE r H E k n := fun H' dE b f => by
  have := F.2 k rest H' dE e (fun c o z => b c o (ne_of_none z (S.priv r (by simp)).1) (S.ext.same c o z)) f
  rw [hn] at this
  exact this
def spTok (CR CX CE : Addr) (pre : Nat → Prop) : Sp := fun vs H Q E => ∃ r D L dx a bs vs' d G0 H0 G p up cur b, vs = [.ref r] ∧ Rd CR CX r D L dx a bs vs' d G0 H0 G H p up cur ∧ d[p]? = some b ∧ pre b ∧ Fwd CR CX CE r D L dx d G0 H0 p (goOn d.length up cur (d.drop p)) Q E
theorem spTok_len {CR CX CE : Addr} {pre : Nat → Prop} {vs H Q E} (h : spTok CR CX CE pre vs H Q E) : vs.length = 1 := by
  obtain ⟨_, _, _, _, _, _, _, _, _, _, _, _, _, _, _, rfl, _⟩ := h
  rfl
abbrev s_Reader_begin_list : Stmt := inClass (top 34) 5
theorem sc_Reader_begin_list : FnScope ["self", "parts"] ["self"] (defScope s_Reader_begin_list) := ⟨rfl, rfl, rfl, by decide +kernel, rfl, by decide +kernel, by decide +kernel⟩
theorem ok_Reader_begin_list {CR CX CE : Addr} {ps : List Str} (DD : DnM K CR "begin_list" "Reader.begin_list" s_Reader_begin_list ["self"]) (n_len : mg "len" = none) (c_DEEPEST_NESTING : IsC mg "DEEPEST_NESTING" (.int 16))
    (q_Reader_position : Kf K CR "position") (q_Reader_levels : Kf K CR "levels") (m_Reader_add_expression : OwnM P w K mg base CX0 3 CR "add_expression" ["self", "kind", "value", "position"] (spAdd CR CX))
    (x_NotationError : OwnX P w K mg base 2 "NotationError" CE 2 neF ps) : OwnM P w K mg base (L2.CX P w) 4 CR "begin_list" ["self"] (spTok CR CX CE fun b => b = 40) := by
  refine mth_okX DD sc_Reader_begin_list (fun _ _ _ _ h => spTok_len h) (fun f cdv A outer s H vs Q E hr h => ⟨_, (pss_cons (ps_if (pt_cmpR op_gt (pe_callB (kcall_len (K := K) rfl) (by rfl) n_len PySem.boot_len (pa_cons (pe_fc (K := K) rfl q_Reader_levels (pv 0)) pa_nil)) (pe_cst (by rfl) c_DEEPEST_NESTING) (nomark _)) (pss_one (ps_raiseN x_NotationError (hr.mono (by omega)) (by rfl) rfl (L2.takes_of rfl rfl rfl rfl) (pa_cons pe_int (pa_cons (pe_fc (K := K) rfl q_Reader_position (pv 0)) pa_nil)))) pss_nil)
    (pss_cons (ps_set (i := 1) sc_Reader_begin_list.nd rfl (by first | exact Or.inl rfl | exact Or.inr rfl) (pe_lst pa_nil))
    (pss_cons (ps_expr (pe_mth m_Reader_add_expression (pv 0) (hr.mono (by omega)) pass0 (pa_cons pe_str (pa_cons (pv 1) (pa_cons (pe_fc (K := K) rfl q_Reader_position (pv 0)) pa_nil)))))
    (pss_cons (ps_expr (kpe_bm (K := K) rfl PySem.F.plainAttrs_list PySem.F.slot_list_append PySem.F.type_list_append mt_append (pe_fc (K := K) rfl q_Reader_levels (pv 0)) (pa_cons (pv 1) pa_nil)))
    (pss_one (ps_fcaug (K := K) rfl q_Reader_position (pv 0) pe_int in_add)))))), ?_⟩)
  obtain ⟨r, D, L, dx, a, bs, vs', d, G0, H0, G, p, up, cur, b, rfl, S, hb, rfl, F⟩ := h
  walk_at "sx"
  have hp : p < d.length := (List.getElem?_eq_some_iff.mp hb).1
  have ul := LvOut.len bs a up S.out
  have hd := drop_at hb
  have dl : d.length - (40 :: d.drop (p + 1)).length = p := by simp; omega
  have go := goOn_open d.length up cur (d.drop (p + 1))
  rw [← hd] at go
  refine ⟨dx, _, S.rd.at_, _, rd_lev, L, rfl, _, .inl (SqL.of S.lev), ?_⟩
  rw [List.length_append, List.length_map, List.length_reverse]
  refine ite2 (fun h17 => ?_) (fun h17 => ?_)
  · rw [decide_eq_true_eq, List.length_singleton] at h17
    rw [if_neg (by omega), hd] at go
    rw [hd] at F
    exact ⟨dx, _, S.rd.at_, _, rd_pos, _, _, ⟨rfl, rfl⟩, fun dE hdE => F.err S go dl H dE But.refl hdE⟩
  · rw [decide_eq_true_eq, List.length_singleton] at h17
    rw [if_pos (by omega)] at go
    obtain ⟨rL, ra, La, Dr, DL, Da, hbs⟩ := S.apart
    refine ⟨Nat.zero_le _, fun c hc => ?_⟩
    have sc := same_new (o := .lst []) hc
    have h1 := S.rd.same sc
    refine ⟨dx, _, h1.at_, rd_mth, dx, _, h1.at_, _, rd_pos, ?_⟩
    refine ⟨r, dx, D, p, L, bs.reverse.map V.ref, a, vs', "list", .ref c, p, rfl, h1.at_, sc _ _ S.lev, sc _ _ S.top, ?_, fun e dxe he hde ne => ?_⟩
    · rw [S.exs.len]; have := S.count.1; have := S.small; exact lt_line (by omega)
    have R := S.open hc he hde ne hp
    have nr : ∀ x o, x ≠ a → H x = some o → (upd (upd (upd (upd H c (.lst [])) dxe (.own e)) e (.ins CX dxe (exF "list" (.ref c) p))) a (.lst (vs' ++ [.ref e]))) x = some o := by
      intro x o xa hx
      have hx2 := sc _ _ hx
      rw [upd_ne xa, upd_ne (ne_of_none hx2 he), upd_ne (ne_of_none hx2 hde)]
      exact hx2
    have hr2 := nr r _ ra S.rd.at_
    have hL2 := nr L _ La S.lev
    refine ⟨dx, _, hr2, _, rd_lev, tyL (SqL.of hL2), L, rfl, _, hL2, ?_, dx, _, (upd_ne rL).trans hr2, _, rd_pos, ?_⟩
    · rw [List.length_append, List.length_map, List.length_reverse, List.length_singleton]
      exact lt_line (by omega)
    · refine ⟨_, rfl, dx, _, (upd_ne rL).trans hr2, rd_len, ?_⟩
      rw [rd_put (n := p + 1) (by omega)]
      refine F.1 _ _ _ _ _ _ _ _ R ?_ (Nat.lt_succ_self p)
      rw [go]
      congr 3
      rw [List.length_drop]; omega
abbrev s_Reader_end_list : Stmt := inClass (top 34) 6
theorem sc_Reader_end_list : FnScope ["self"] ["self"] (defScope s_Reader_end_list) := ⟨rfl, rfl, rfl, by decide +kernel, rfl, by decide +kernel, by decide +kernel⟩
theorem ok_Reader_end_list {CR CX CE : Addr} {ps : List Str} (DD : DnM K CR "end_list" "Reader.end_list" s_Reader_end_list ["self"]) (n_len : mg "len" = none)
    (q_Reader_position : Kf K CR "position") (q_Reader_levels : Kf K CR "levels")
    (x_NotationError : OwnX P w K mg base 2 "NotationError" CE 2 neF ps) : OwnM P w K mg base (L2.CX P w) 4 CR "end_list" ["self"] (spTok CR CX CE fun b => b = 41) := by
  refine mth_okX DD sc_Reader_end_list (fun _ _ _ _ h => spTok_len h) (fun f cdv A outer s H vs Q E hr h => ⟨_, (pss_cons (ps_if (pt_cmpR op_eq (pe_callB (kcall_len (K := K) rfl) (by rfl) n_len PySem.boot_len (pa_cons (pe_fc (K := K) rfl q_Reader_levels (pv 0)) pa_nil)) pe_int (nomark _)) (pss_one (ps_raiseN x_NotationError (hr.mono (by omega)) (by rfl) rfl (L2.takes_of rfl rfl rfl rfl) (pa_cons pe_int (pa_cons (pe_fc (K := K) rfl q_Reader_position (pv 0)) pa_nil)))) pss_nil)
    (pss_cons (ps_expr (kpe_bm0 (K := K) rfl PySem.F.plainAttrs_list PySem.F.slot_list_pop PySem.F.type_list_pop mt_pop (pe_fc (K := K) rfl q_Reader_levels (pv 0))))
    (pss_one (ps_fcaug (K := K) rfl q_Reader_position (pv 0) pe_int in_add)))), ?_⟩)
  obtain ⟨r, D, L, dx, a, bs, vs', d, G0, H0, G, p, up, cur, b, rfl, S, hb, rfl, F⟩ := h
  walk_at "sx"
  have hp : p < d.length := (List.getElem?_eq_some_iff.mp hb).1
  have hd := drop_at hb
  have dl : d.length - (41 :: d.drop (p + 1)).length = p := by simp; omega
  refine ⟨dx, _, S.rd.at_, _, rd_lev, L, rfl, _, .inl (SqL.of S.lev), ?_⟩
  rw [List.length_append, List.length_map, List.length_reverse, List.length_singleton]
  obtain ⟨rL, ra, La, Dr, DL, Da, hbs⟩ := S.apart
  cases bs with
  | nil =>
    have ue : up = [] := S.out
    subst ue
    rw [hd] at F
    refine iteT ?_
    exact ⟨dx, _, S.rd.at_, _, rd_pos, _, _, ⟨rfl, rfl⟩, fun dE hdE => F.err S (goOn_close0 _ _ _) dl H dE But.refl hdE⟩
  | cons b bs =>
    obtain ⟨q, prev, up', vs2, e, dx', e1, h2, h3, h4, h5⟩ := S.out
    subst e1
    refine iteF ?_
    obtain ⟨vs3, G', R⟩ := S.close hp
    refine ⟨dx, _, S.rd.at_, _, rd_lev, tyL (SqL.of S.lev), ?_⟩
    refine ⟨L, rfl, _, S.lev, V.ref a, ?_, dx, _, (upd_ne rL).trans S.rd.at_, _, rd_pos, _, rfl, dx, _, (upd_ne rL).trans S.rd.at_, rd_len, ?_⟩
    · simp
    rw [rd_put (n := p + 1) (by omega), List.dropLast_concat, show (b :: bs).reverse.map V.ref = bs.reverse.map V.ref ++ [V.ref b] by simp]
    refine F.1 _ _ _ _ _ _ _ _ R ?_ (Nat.lt_succ_self p)
    rw [hd, goOn_close]

end
end Bt

namespace Bt
open PySem PySem.Spec PyProof.Rows L2
local macro_rules | `(tactic| walk_at "sx") => `(tactic| simp only [cxK, tTru, rLen, rListOf, rTupOf, tRet, tRetN, tChain, tRng, tCB, tCons, tNil, tC, tVar, tOp, tUn, tTest, tB, tAnd, tOr, tNot, tIfS, tSeq, tIf, tOrV, tAndV, tNotV, tCall, tSl, tPart, tNoPart, tLst, tTup, tBM, tBM0, rExtendS, iList, iTup, iSeqV, rIxL, rIxT, rSlL, rAppend, rExtend, rCat, rI0, rI, rIxS, rEq, rNe, rU, tAsg, gName, tDrop, tNext, scal, L2.start, List.map_cons, List.map_nil, List.length_cons, List.length_nil, Nat.reduceAdd, Nat.reduceSub, List.replicate_succ, List.replicate_zero, List.append_nil, List.cons_append, List.nil_append, List.getElem?_cons_zero, List.getElem?_cons_succ, Option.some.injEq, exists_eq_left', exists_eq_left, V.int.injEq, V.bl.injEq, V.str.injEq, V.ref.injEq, List.cons.injEq, and_true, true_and, exists_and_left, List.set_cons_zero, List.set_cons_succ, spN1_run, tFC, sFC, sFCAug, tMeth, tMake, sRaise, tErF, rAdd, rPop, tM1, tCallL, Option.some.injEq, HO.ins.injEq])
local macro_rules | `(tactic| walk_at "sm") => `(tactic| (repeat (first | exact Same.refl _ | assumption | (refine Same.trans ?_ (same_new (by assumption))) | (refine Same.trans ?_ (by assumption)))))
section
variable {P : Program} {w : World} {K : PySem.W.Frag} {mg : Str → Option Value} {base : Heap}
theorem Rd.leaf {CR CX r D L dx a : Addr} {bs : List Addr} {vs : List V} {d : List Nat} {G0 H0 G H : Hp} {p : Nat} {up : List (Nat × List Kh450.Node)} {cur : List Kh450.Node}
    (S : Rd CR CX r D L dx a bs vs d G0 H0 G H p up cur) {e dxe : Addr} {k : Str} {v : V} {q : Nat} {n : Kh450.Node} (he : H e = none) (hd : H dxe = none) (ne : dxe ≠ e)
    (x : ExAt CX (upd (upd G dxe (.own e)) e (.ins CX dxe (exF k v q))) n (.ref e)) (l : cur.length + 1 ≤ p) :
    Rd CR CX r D L dx a bs (vs ++ [.ref e]) d G0 H0 (upd (upd G dxe (.own e)) e (.ins CX dxe (exF k v q))) (upd (upd (upd H dxe (.own e)) e (.ins CX dxe (exF k v q))) a (.lst (vs ++ [.ref e]))) p up (cur ++ [n]) :=
  (S.grow (((Ext.refl S.ext.sub).made hd).made ((upd_ne ne.symm).trans he))).add x l
theorem tw_drop (pr : Nat → Bool) (d : List Nat) (p : Nat) : (Kh450.takeWhile pr (d.drop p)).2 = d.drop (p + (tw pr d p).length) := by
  rw [(tw_take pr (d.drop p)).2, List.drop_drop]; rfl
def decNum (ds : List Nat) : Nat := ds.foldl (fun n d => 10 * n + (d - 48)) 0
abbrev s_Reader_read_integer : Stmt := inClass (top 34) 7
theorem sc_Reader_read_integer : FnScope ["self", "start", "digits", "value", "digit"] ["self"] (defScope s_Reader_read_integer) := ⟨rfl, rfl, rfl, by decide +kernel, rfl, by decide +kernel, by decide +kernel⟩
theorem ok_Reader_read_integer {CR CX CE : Addr} {ps : List Str} (DD : DnM K CR "read_integer" "Reader.read_integer" s_Reader_read_integer ["self"]) (n_len : mg "len" = none) (n_ord : mg "ord" = none) (c_MOST_DIGITS : IsC mg "MOST_DIGITS" (.int 6))
    (q_Reader_position : Kf K CR "position") (o_is_digit : OwnOk P w K mg base CX0 1 "is_digit" ["byte"] (spN1 fun n => .bl (Kh450.isDigit n)))
    (m_Reader_take_while : OwnM P w K mg base CX0 3 CR "take_while" ["self", "fits"] (spTake P w K mg base CR)) (m_Reader_add_expression : OwnM P w K mg base CX0 3 CR "add_expression" ["self", "kind", "value", "position"] (spAdd CR CX))
    (x_NotationError : OwnX P w K mg base 2 "NotationError" CE 2 neF ps) : OwnM P w K mg base (L2.CX P w) 4 CR "read_integer" ["self"] (spTok CR CX CE fun b => Kh450.isDigit b = true) := by
  obtain ⟨fx, v_is_digit, hF⟩ := o_is_digit.held (CX := CX0) (show 1 ≤ 2 by decide)
  refine mth_okX DD sc_Reader_read_integer (fun _ _ _ _ h => spTok_len h) (fun f cdv A outer s H vs Q E hr h => ⟨_, (pss_cons (ps_set (i := 1) sc_Reader_read_integer.nd rfl (by first | exact Or.inl rfl | exact Or.inr rfl) (pe_fc (K := K) rfl q_Reader_position (pv 0)))
    (pss_cons (ps_set (i := 2) sc_Reader_read_integer.nd rfl (by first | exact Or.inl rfl | exact Or.inr rfl) (pe_mth m_Reader_take_while (pv 0) (hr.mono (by omega)) pass0 (pa_cons (pe_defv (by rfl) v_is_digit) pa_nil)))
    (pss_cons (ps_if (PW.pt (pw_or (pt_cmpR op_gt (pe_callB (kcall_len (K := K) rfl) (by rfl) n_len PySem.boot_len (pa_cons (pv 2) pa_nil)) (pe_cst (by rfl) c_MOST_DIGITS) (nomark _)) (pw_or1 (PW.pt (pw_and (pt_cmpR op_gt (pe_callB (kcall_len (K := K) rfl) (by rfl) n_len PySem.boot_len (pa_cons (pv 2) pa_nil)) pe_int (nomark _)) (pw_and1 (pt_cmpR op_eq (pe_ix (kix_list (K := K) rfl) (pv 2) pe_int (fun _ _ => rfl)) (pe_ordL 48 n_ord) (nomark _)))))))) (pss_one (ps_raiseN x_NotationError (hr.mono (by omega)) (by rfl) rfl (L2.takes_of rfl rfl rfl rfl) (pa_cons pe_int (pa_cons (pv 1) pa_nil)))) pss_nil)
    (pss_cons (ps_set (i := 3) sc_Reader_read_integer.nd rfl (by first | exact Or.inl rfl | exact Or.inr rfl) pe_int)
    (pss_cons (ps_for (L2.passes_of rfl) rfl (kpi_list (K := K) rfl (pv 2)) (pg_name (i := 4) sc_Reader_read_integer.nd rfl (by first | exact Or.inl rfl | exact Or.inr rfl))
    (pss_one (ps_set (i := 3) sc_Reader_read_integer.nd rfl (by first | exact Or.inl rfl | exact Or.inr rfl) (pe_op op_sub (pe_op op_add (pe_op op_mul (pv 3) pe_int) (pv 4)) (pe_ordL 48 n_ord)))))
    (pss_one (ps_expr (pe_mth m_Reader_add_expression (pv 0) (hr.mono (by omega)) pass0 (pa_cons pe_str (pa_cons (pv 3) (pa_cons (pv 1) pa_nil))))))))))), ?_⟩)
  obtain ⟨r, D, L, dx, a, bs, vs', d, G0, H0, G, p, up, cur, b, rfl, S, hb, hdg, F⟩ := h
  walk_at "sx"
  have hp : p < d.length := (List.getElem?_eq_some_iff.mp hb).1
  have hd := drop_at hb
  have hbr : 48 ≤ b ∧ b ≤ 57 := by simpa [Kh450.isDigit] using hdg
  have hsk : Kh450.skipSpace false (b :: d.drop (p + 1)) = b :: d.drop (p + 1) := by
    have h1 : Kh450.isSpace b = false := by simp [Kh450.isSpace]; omega
    have h2 : ¬ b = 59 := by omega
    simp only [Kh450.skipSpace, h1, h2, if_false, Bool.false_eq_true]
  have go := goOn_token d.length up cur b (d.drop (p + 1)) hsk (by omega)
  rw [node_eq, if_neg (by omega), if_neg (by omega), if_pos hdg, ← hd] at go
  refine ⟨dx, _, S.rd.at_, _, rd_pos, dx, _, S.rd.at_, rd_mth, r, D, L, dx, d, p, fx, Kh450.isDigit, rfl, S.rd, S.small, hF, fun a1 H1 b1 f1 h1 l1 => ?_⟩
  have htd := tw_drop Kh450.isDigit d p
  have hle := tw_le Kh450.isDigit d p S.rd.le
  have hall := tw_all Kh450.isDigit d p
  have h0 : 1 ≤ (tw Kh450.isDigit d p).length := by have := tw_step (pr := Kh450.isDigit) hb; rw [hdg, if_pos rfl] at this; omega
  have hh0 : (tw Kh450.isDigit d p)[0]? = some b := by
    unfold tw
    rw [hd]
    simp only [Kh450.takeWhile, hdg, if_true]
    rfl
  have hds : (Kh450.takeWhile Kh450.isDigit (d.drop p)).1 = tw Kh450.isDigit d p := rfl
  dsimp only at go
  rw [hds, htd] at go
  generalize tw Kh450.isDigit d p = ds at h1 l1 hle hall h0 hh0 go ⊢
  walk_at "sx"
  refine ⟨_, .inl (SqL.of l1), ?_⟩
  rw [List.length_map]
  have errg : goOn d.length up cur (d.drop p) = .error 5 (d.drop p) → ∃ x y, (V.int 5 = x ∧ V.int (p : Int) = y) ∧ ∀ (d : Addr), H1 d = none → E (Value.ref CE) (some d) (upd H1 d (HO.xd [(Str.ofString "position", y), (Str.ofString "kind", x), (Str.ofString "code", V.int (-20))])) :=
    fun z => ⟨_, _, ⟨rfl, rfl⟩, fun dE hdE => F.err S z (by rw [List.length_drop]; omega) H1 dE b1 hdE⟩
  have ix0 : atI (nV ds) 0 = some (.int (b : Int)) := nV_at_nat (i := 0) hh0
  by_cases bad : 6 < ds.length ∨ 1 < ds.length ∧ b = 48
  · rw [if_pos bad] at go
    refine ite2 (fun _ => ?_) (fun h6 => ?_)
    · rw [if_pos trivial]
      exact errg go
    · rw [decide_eq_true_eq] at h6
      have b2 : 1 < ds.length ∧ b = 48 := bad.resolve_left (by omega)
      refine ⟨_, .inl (SqL.of l1), ?_⟩
      rw [List.length_map]
      refine ite2 (fun _ => ⟨_, SqL.of l1, _, ix0, rfl, ?_⟩) (fun z => absurd (decide_eq_true (by omega)) z)
      exact ite2 (fun _ => errg go) (fun z => absurd (decide_eq_true (by rw [b2.2])) z)
  · rw [if_neg bad] at go
    have h6 : ds.length ≤ 6 := by omega
    refine ite2 (fun z => by rw [decide_eq_true_eq] at z; omega) (fun _ => ?_)
    refine ⟨_, .inl (SqL.of l1), ?_⟩
    rw [List.length_map]
    refine ite2 (fun z => ⟨_, SqL.of l1, _, ix0, rfl, ite2 (fun z2 => ?_) (fun _ => ?_)⟩) (fun _ => iteF ?_)
    · rw [decide_eq_true_eq] at z z2
      injection z2 with z2
      exact absurd (.inr ⟨by omega, by omega⟩) bad
    all_goals
      refine ⟨_, rfl, a1, rfl, ⟨_, SqL.of l1⟩, for_list (xs := nV ds) (fun j σ' H' => Same H1 H' ∧ ∃ x, σ' = [some (.ref r), some (.int (p : Int)), some (.ref a1), some (.int (decNum (ds.take j) : Nat)), x])
        ⟨Same.refl _, _, rfl⟩ (fun j σ' H' _ ⟨s1, _⟩ => s1.seq (SqL.of l1)) ?_ ?_⟩
      · rintro j x σ' H' hxj ⟨s1, y, rfl⟩
        obtain ⟨c, hc, rfl⟩ := nV_get hxj
        walk_at "sx"
        refine ⟨.inr (by decide), s1, ?_, _, rfl⟩
        have hc' : 48 ≤ c ∧ c ≤ 57 := by simpa [Kh450.isDigit] using hall c (List.mem_of_getElem? hc)
        rw [take_at hc]
        simp only [decNum, List.foldl_append, List.foldl_cons, List.foldl_nil]
        omega
      · rintro σ' H' ⟨s1, y, rfl⟩
        rw [List.length_map, List.take_length]
        walk_at "sx"
        have h2 := h1.same s1
        have S2 := S.pos (b1.same s1) h2 (Nat.le_add_right p ds.length)
        refine ⟨dx, _, h2.at_, rd_mth, r, dx, D, _, L, bs.reverse.map V.ref, a, vs', "integer", .int (decNum ds : Nat), p, rfl, h2.at_, S2.lev, S2.top, ?_, fun e dxe he hde ne => ?_⟩
        · rw [S2.exs.len]; have := S2.count.1; have := S.small; exact lt_line (by omega)
        have R := S2.leaf (k := "integer") (v := .int (decNum ds : Nat)) (q := p) (n := .integer p (decNum ds)) he hde ne (by simp only [ExAt]; exact ⟨e, dxe, rfl, upd_same⟩) (by have := S.count.1; omega)
        refine F.1 _ _ _ _ _ _ _ _ R ?_ (by omega)
        rw [go]
        show goOn _ _ _ _ = goOn _ _ _ _
        have e1 : d.length - ((d.drop (p + 1)).length + 1) = p := by rw [List.length_drop]; omega
        rw [e1]
        rfl

end
end Bt

namespace Bt
open PySem PySem.Spec PyProof.Rows L2
local macro_rules | `(tactic| walk_at "sx") => `(tactic| simp only [cxK, tTru, rLen, rListOf, rTupOf, tRet, tRetN, tChain, tRng, tCB, tCons, tNil, tC, tVar, tOp, tUn, tTest, tB, tAnd, tOr, tNot, tIfS, tSeq, tIf, tOrV, tAndV, tNotV, tCall, tSl, tPart, tNoPart, tLst, tTup, tBM, tBM0, rExtendS, iList, iTup, iSeqV, rIxL, rIxT, rSlL, rAppend, rExtend, rCat, rI0, rI, rIxS, rEq, rNe, rU, tAsg, gName, tDrop, tNext, scal, L2.start, List.map_cons, List.map_nil, List.length_cons, List.length_nil, Nat.reduceAdd, Nat.reduceSub, List.replicate_succ, List.replicate_zero, List.append_nil, List.cons_append, List.nil_append, List.getElem?_cons_zero, List.getElem?_cons_succ, Option.some.injEq, exists_eq_left', exists_eq_left, V.int.injEq, V.bl.injEq, V.str.injEq, V.ref.injEq, List.cons.injEq, and_true, true_and, exists_and_left, List.set_cons_zero, List.set_cons_succ, spN1_run, tFC, sFC, sFCAug, tMeth, tMake, sRaise, tErF, rAdd, rPop, tM1, tCallL, Option.some.injEq, HO.ins.injEq])
local macro_rules | `(tactic| walk_at "sm") => `(tactic| (repeat (first | exact Same.refl _ | assumption | (refine Same.trans ?_ (same_new (by assumption))) | (refine Same.trans ?_ (by assumption)))))
section
variable {P : Program} {w : World} {K : PySem.W.Frag} {mg : Str → Option Value} {base : Heap}
def spTok0 (CR CX : Addr) (pre : Nat → Prop) : Sp := fun vs H Q _ => ∃ r D L dx a bs vs' d G0 H0 G p up cur b, vs = [.ref r] ∧ Rd CR CX r D L dx a bs vs' d G0 H0 G H p up cur ∧ d[p]? = some b ∧ pre b ∧
  ∀ a bs vs G' H' p' up' cur', Rd CR CX r D L dx a bs vs d G0 H0 G' H' p' up' cur' → goOn d.length up' cur' (d.drop p') = goOn d.length up cur (d.drop p) → p < p' → Q .non H'
/-- a sign as it lies -/
def Sn (n : Nat) (v : V) (_H : Hp) : Prop := v = .str ⟨#[n]⟩
theorem Sn.same (n : Nat) (v : V) (H H' : Hp) (_ : Same H H') (h : Sn n v H) : Sn n v H' := h
theorem paired_Sn {H : Hp} : ∀ {l : List Nat} {vs : List V}, Paired (fun n v => Sn n v H) l vs → vs = (l.map fun n => (⟨#[n]⟩ : Str)).map V.str
  | _, _, .nil => rfl
  | _, _, .cons e t => by rw [show _ = _ from e, paired_Sn t]; rfl
theorem joinL_one : ∀ l : List Nat, TL.joinL [] (l.map fun n => [n]) = l
  | [] => rfl
  | [a] => rfl
  | a :: b :: r => by
    show [a] ++ [] ++ TL.joinL [] ((b :: r).map fun n => [n]) = _
    rw [joinL_one (b :: r)]
    rfl
theorem join_signs (l : List Nat) : Txt.join "" (l.map fun n => (⟨#[n]⟩ : Str)) = ⟨l.toArray⟩ := by
  have e : (l.map fun n => (⟨#[n]⟩ : Str)) = (l.map fun n => [n]).map SX.S := by rw [List.map_map]; rfl
  rw [e]
  have := SX.join_S [] (l.map fun n => [n])
  rw [joinL_one] at this
  exact this
theorem sum_signs : ∀ l : List Nat, ((l.map fun n => (⟨#[n]⟩ : Str)).map (·.length)).sum = l.length
  | [] => rfl
  | a :: r => by
    show (⟨#[a]⟩ : Str).length + ((r.map fun n => (⟨#[n]⟩ : Str)).map (·.length)).sum = r.length + 1
    rw [sum_signs r]
    show 1 + r.length = _
    omega
abbrev s_Reader_read_symbol : Stmt := inClass (top 34) 8
theorem sc_Reader_read_symbol : FnScope ["self", "start", "signs", "byte"] ["self"] (defScope s_Reader_read_symbol) := ⟨rfl, rfl, rfl, by decide +kernel, rfl, by decide +kernel, by decide +kernel⟩
theorem ok_Reader_read_symbol {CR CX : Addr} (DD : DnM K CR "read_symbol" "Reader.read_symbol" s_Reader_read_symbol ["self"])
    (q_Reader_position : Kf K CR "position") (o_is_symbol_byte : OwnOk P w K mg base CX0 2 "is_symbol_byte" ["byte"] (spN1 fun n => .bl (Kh450.isSymbolPart n)))
    (o_symbol_sign : OwnOk P w K mg base CX0 2 "symbol_sign" ["byte"] (fun vs H Q _ => ∃ n : Nat, vs = [.int n] ∧ Kh450.isSymbolPart n = true ∧ ∀ H', Same H H' → Q (.str ⟨#[n]⟩) H'))
    (m_Reader_take_while : OwnM P w K mg base CX0 3 CR "take_while" ["self", "fits"] (spTake P w K mg base CR)) (m_Reader_add_expression : OwnM P w K mg base CX0 3 CR "add_expression" ["self", "kind", "value", "position"] (spAdd CR CX)) :
    OwnM P w K mg base CX0 4 CR "read_symbol" ["self"] (spTok0 CR CX fun b => Kh450.isLower b = true) := by
  obtain ⟨fx, v_is_symbol_byte, hF⟩ := o_is_symbol_byte.held (CX := CX0) (Nat.le_refl _)
  refine mth_ok DD sc_Reader_read_symbol (fun _ _ _ _ h => by obtain ⟨_, _, _, _, _, _, _, _, _, _, _, _, _, _, _, rfl, _⟩ := h; rfl) (fun f cdv A outer s H vs Q E hr h => ⟨_, (pss_cons (ps_set (i := 1) sc_Reader_read_symbol.nd rfl (by first | exact Or.inl rfl | exact Or.inr rfl) (pe_fc (K := K) rfl q_Reader_position (pv 0)))
    (pss_cons (ps_setLc (i := 2) (own := [("byte", 3)]) (g := gName 3) (tt := tYes) rfl sc_Reader_read_symbol.nd rfl rfl (sw_true rfl rfl rfl (by decide +kernel)) (kpi_list (K := K) rfl (pe_mth m_Reader_take_while (pv 0) (hr.mono (by omega)) pass0 (pa_cons (pe_defv (by rfl) v_is_symbol_byte) pa_nil))) (blkOk_by (N := ["self", "start", "signs", "byte"]) (sc := defScope s_Reader_read_symbol) (by decide +kernel)) (fun _ _ _ _ _ => pg_name (i := 3) sc_Reader_read_symbol.nd rfl (Or.inl rfl)) (fun _ _ _ _ _ => pts_nil) (fun _ _ _ _ _ => (pe_own o_symbol_sign (hr.mono (by omega)) rfl pass0 (pa_cons (pv 3) pa_nil))))
    (pss_one (ps_expr (pe_mth m_Reader_add_expression (pv 0) (hr.mono (by omega)) pass0 (pa_cons pe_str (pa_cons (pe_join pe_str (pv 2)) (pa_cons (pv 1) pa_nil)))))))), ?_⟩)
  obtain ⟨r, D, L, dx, a, bs, vs', d, G0, H0, G, p, up, cur, b, rfl, S, hb, hlo, F⟩ := h
  have hp : p < d.length := (List.getElem?_eq_some_iff.mp hb).1
  have hd := drop_at hb
  have hbr : 97 ≤ b ∧ b ≤ 122 := by simpa [Kh450.isLower] using hlo
  have hsy : Kh450.isSymbolPart b = true := by simp [Kh450.isSymbolPart, hlo]
  have hsk : Kh450.skipSpace false (b :: d.drop (p + 1)) = b :: d.drop (p + 1) := by
    have h1 : Kh450.isSpace b = false := by simp [Kh450.isSpace]; omega
    have h2 : ¬ b = 59 := by omega
    simp only [Kh450.skipSpace, h1, h2, if_false, Bool.false_eq_true]
  have go := goOn_token d.length up cur b (d.drop (p + 1)) hsk (by omega)
  rw [node_eq, if_neg (by omega), if_neg (by omega), if_neg (by simp [Kh450.isDigit]; omega), if_pos hlo, ← hd] at go
  have htd := tw_drop Kh450.isSymbolPart d p
  have hle := tw_le Kh450.isSymbolPart d p S.rd.le
  have hall := tw_all Kh450.isSymbolPart d p
  have h0 : 1 ≤ (tw Kh450.isSymbolPart d p).length := by have := tw_step (pr := Kh450.isSymbolPart) hb; rw [hsy, if_pos rfl] at this; omega
  have hds : (Kh450.takeWhile Kh450.isSymbolPart (d.drop p)).1 = tw Kh450.isSymbolPart d p := rfl
  dsimp only at go
  rw [hds, htd] at go
  walk_at "sx"
  refine ⟨dx, _, S.rd.at_, _, rd_pos, ?_⟩
  have hlen := S.small
  generalize hdsx : tw Kh450.isSymbolPart d p = ds at hle hall h0 go
  refine ⟨_, rfl, r, dx, _, rfl, S.rd.at_, rd_mth, r, D, L, dx, d, p, fx, Kh450.isSymbolPart, rfl, S.rd, hlen, hF, fun a1 H1 b1 f1 h1 l1 => ?_⟩
  rw [hdsx] at h1 l1
  refine ⟨a1, rfl, ⟨_, SqL.of l1⟩, fun F1 hF1 => lc_of (R := Nm) Sn (fun _ => true) id (SqL.of l1) (Same.refl H1) (paired_nV ds) (by rw [List.length_map]; exact lt_line (by omega)) hF1 Nm.same Sn.same (fun _ => rfl) (fun c x G' H' hm e hx Q' k => k _ (Same.refl _)) (fun c x G' H' hm e hx _ Q' k => ?_) (fun G' H' ys e hFl gF hy => ?_)⟩
  · obtain rfl : x = _ := hx
    refine ⟨_, rfl, c, rfl, hall c hm, fun H4 s4 => k _ G' H4 ((Ext.refl e.sub).heap s4) rfl⟩
  · rw [List.filter_eq_self.mpr (fun _ _ => rfl), List.map_id] at hy
    have hys := paired_Sn hy
    subst hys
    have h2 := h1.same e.same
    have S2 := S.pos (b1.same e.same) h2 (Nat.le_add_right p ds.length)
    refine ⟨dx, _, h2.at_, rd_mth, ⟨_, rfl⟩, F1, rfl, ds.map fun n => (⟨#[n]⟩ : Str), .inl (SqL.of hFl), ?_, ?_⟩
    · rw [sum_signs, List.length_map]
      show ds.length + ds.length * 0 ≤ _
      omega
    rw [join_signs]
    refine ⟨r, dx, D, _, L, bs.reverse.map V.ref, a, vs', "symbol", .str ⟨ds.toArray⟩, p, rfl, h2.at_, S2.lev, S2.top, ?_, fun e1 dxe he hde ne => ?_⟩
    · rw [S2.exs.len]; have := S2.count.1; exact lt_line (by omega)
    have R := S2.leaf (k := "symbol") (v := .str ⟨ds.toArray⟩) (q := p) (n := .symbol p ds) he hde ne (by simp only [ExAt]; exact ⟨e1, dxe, rfl, upd_same⟩) (by have := S.count.1; omega)
    refine F _ _ _ _ _ _ _ _ R ?_ (by omega)
    rw [go]
    show goOn _ _ _ _ = goOn _ _ _ _
    rw [show d.length - ((d.drop (p + 1)).length + 1) = p by rw [List.length_drop]; omega]

end
end Bt

namespace Bt
open Kh450 (readString readEscape decodeUtf8 Read)
theorem string_fuel : ∀ (f f' : Nat) (l : List Nat), l.length ≤ f → l.length ≤ f' → readString f l = readString f' l
  | f, f', [], _, _ => by unfold readString; rfl
  | 0, _, a :: l, h, _ => by simp at h
  | _, 0, a :: l, _, h => by simp at h
  | f + 1, f' + 1, b :: rest, h, h' => by
    simp only [List.length_cons] at h h'
    unfold readString
    split
    · rfl
    · split
      · split
        · rfl
        · cases e : readEscape rest with
          | none => rfl
          | some y =>
            obtain ⟨c, s⟩ := y
            have := escape_lt e
            show (readString f s).bind _ = (readString f' s).bind _
            rw [string_fuel f f' s (by omega) (by omega)]
      · split
        · rfl
        · cases e : decodeUtf8 (b :: rest) with
          | none => rfl
          | some y =>
            obtain ⟨c, s⟩ := y
            have := decode_lt e
            simp only [List.length_cons] at this
            show (readString f s).bind _ = (readString f' s).bind _
            rw [string_fuel f f' s (by omega) (by omega)]
/-- reading on in a string whose characters so far are ts -/
def strGo (ts : List Nat) (l : List Nat) : Read Kh450.Text := (readString l.length l).bind fun cs r => .ok (ts ++ cs) r
theorem strGo_nil (ts : List Nat) : strGo ts [] = .error 1 [] := rfl
theorem strGo_step (ts : List Nat) (b : Nat) (rest : List Nat) : strGo ts (b :: rest) = if b = 34 then .ok ts rest
    else if b = 92 then (match rest with
      | [] => .error 1 []
      | _ => match readEscape rest with
        | none => .error 3 (b :: rest)
        | some (c, r) => strGo (ts ++ [c]) r)
    else if b < 32 then .error 2 (b :: rest)
    else match decodeUtf8 (b :: rest) with
      | none => .error 4 (b :: rest)
      | some (c, r) => strGo (ts ++ [c]) r := by
  have step : ∀ (c : Nat) (s : List Nat), s.length ≤ rest.length → ((readString rest.length s).bind fun codes rest => Read.ok (c :: codes) rest).bind (fun cs r => Read.ok (ts ++ cs) r) = strGo (ts ++ [c]) s := by
    intro c s hs
    unfold strGo
    rw [string_fuel rest.length s.length s hs (Nat.le_refl _)]
    cases readString s.length s with
    | error k t => rfl
    | ok cs t => show Read.ok _ _ = Read.ok _ _; simp
  show (readString (rest.length + 1) (b :: rest)).bind _ = _
  conv => lhs; arg 1; unfold readString
  by_cases h1 : b = 34
  · rw [if_pos h1, if_pos h1]; show Read.ok _ _ = Read.ok _ _; rw [List.append_nil]
  rw [if_neg h1, if_neg h1]
  by_cases h2 : b = 92
  · rw [if_pos h2, if_pos h2]
    cases rest with
    | nil => rfl
    | cons x t =>
      show Read.bind (match readEscape (x :: t) with | none => _ | some (c, r) => _) _ = match readEscape (x :: t) with | none => _ | some (c, r) => _
      cases e : readEscape (x :: t) with
      | none => rfl
      | some y =>
        obtain ⟨c, s⟩ := y
        have := escape_lt e
        exact step c s (by omega)
  rw [if_neg h2, if_neg h2]
  by_cases h3 : b < 32
  · rw [if_pos h3, if_pos h3]; rfl
  rw [if_neg h3, if_neg h3]
  cases e : decodeUtf8 (b :: rest) with
  | none => rfl
  | some y =>
    obtain ⟨c, s⟩ := y
    have := decode_lt e
    simp only [List.length_cons] at this
    exact step c s (by omega)
theorem enc_len (c : Nat) : (Kh450.encodeUtf8 c).length ≤ 4 := by
  unfold Kh450.encodeUtf8
  split
  · simp
  · split
    · simp
    · split <;> simp
theorem encAll_snoc (ts : List Nat) (c : Nat) : Kh450.encodeAll (ts ++ [c]) = Kh450.encodeAll ts ++ Kh450.encodeUtf8 c := by
  simp [Kh450.encodeAll]
end Bt

namespace Bt
open PySem PySem.Spec PyProof.Rows L2
local macro_rules | `(tactic| walk_at "sx") => `(tactic| simp only [cxK, tTru, rLen, rListOf, rTupOf, tRet, tRetN, tChain, tRng, tCB, tCons, tNil, tC, tVar, tOp, tUn, tTest, tB, tAnd, tOr, tNot, tIfS, tSeq, tIf, tOrV, tAndV, tNotV, tCall, tSl, tPart, tNoPart, tLst, tTup, tBM, tBM0, rExtendS, iList, iTup, iSeqV, rIxL, rIxT, rSlL, rAppend, rExtend, rCat, rI0, rI, rIxS, rEq, rNe, rU, tAsg, gName, tDrop, tNext, scal, L2.start, List.map_cons, List.map_nil, List.length_cons, List.length_nil, Nat.reduceAdd, Nat.reduceSub, List.replicate_succ, List.replicate_zero, List.append_nil, List.cons_append, List.nil_append, List.getElem?_cons_zero, List.getElem?_cons_succ, Option.some.injEq, exists_eq_left', exists_eq_left, V.int.injEq, V.bl.injEq, V.str.injEq, V.ref.injEq, List.cons.injEq, and_true, true_and, exists_and_left, List.set_cons_zero, List.set_cons_succ, spN1_run, tFC, sFC, sFCAug, tMeth, tMake, sRaise, tErF, rAdd, rPop, tM1, tCallL, Option.some.injEq, HO.ins.injEq])
local macro_rules | `(tactic| walk_at "sm") => `(tactic| (repeat (first | exact Same.refl _ | assumption | (refine Same.trans ?_ (same_new (by assumption))) | (refine Same.trans ?_ (by assumption)))))
section
variable {P : Program} {w : World} {K : PySem.W.Frag} {mg : Str → Option Value} {base : Heap}
theorem le_line2 {n : Nat} (h : n ≤ 16000000) : n ≤ sizeLine := Nat.le_trans h (by decide)
abbrev s_Reader_read_string : Stmt := inClass (top 34) 10
theorem sc_Reader_read_string : FnScope ["self", "start", "content"] ["self"] (defScope s_Reader_read_string) := ⟨rfl, rfl, rfl, by decide +kernel, rfl, by decide +kernel, by decide +kernel⟩
theorem ok_Reader_read_string {CR CX CE : Addr} (DD : DnM K CR "read_string" "Reader.read_string" s_Reader_read_string ["self"]) (n_ord : mg "ord" = none) (n_tuple : mg "tuple" = none)
    (q_Reader_position : Kf K CR "position") (m_Reader_string_byte : OwnM P w K mg base (L2.CX P w) 4 CR "string_byte" ["self"] (spByte CR CE)) (m_Reader_read_escape : OwnM P w K mg base (L2.CX P w) 5 CR "read_escape" ["self"] (spEsc CR CE))
    (m_Reader_read_character : OwnM P w K mg base (L2.CX P w) 4 CR "read_character" ["self"] (spChar CR CE)) (m_Reader_add_expression : OwnM P w K mg base CX0 3 CR "add_expression" ["self", "kind", "value", "position"] (spAdd CR CX)) :
    OwnM P w K mg base (L2.CX P w) 6 CR "read_string" ["self"] (spTok CR CX CE fun b => b = 34) := by
  refine mth_okX DD sc_Reader_read_string (fun _ _ _ _ h => spTok_len h) (fun f cdv A outer s H vs Q E hr h => ⟨_, (pss_cons (ps_set (i := 1) sc_Reader_read_string.nd rfl (by first | exact Or.inl rfl | exact Or.inr rfl) (pe_fc (K := K) rfl q_Reader_position (pv 0)))
    (pss_cons (ps_fcaug (K := K) rfl q_Reader_position (pv 0) pe_int in_add)
    (pss_cons (ps_set (i := 2) sc_Reader_read_string.nd rfl (by first | exact Or.inl rfl | exact Or.inr rfl) (pe_lst pa_nil))
    (pss_cons (ps_while (L2.passes_of rfl) (pt_cmpR op_ne (pe_mth0 m_Reader_string_byte (pv 0) (hr.mono (by omega)) (L2.passes_call (L2.takes_of rfl rfl rfl rfl) (fun _ _ _ _ h => h))) (pe_ordL 34 n_ord) (nomark _)) (pss_one (ps_if (pt_cmpR op_eq (pe_mth0 m_Reader_string_byte (pv 0) (hr.mono (by omega)) (L2.passes_call (L2.takes_of rfl rfl rfl rfl) (fun _ _ _ _ h => h))) (pe_ordL 92 n_ord) (nomark _)) (pss_one (ps_expr (kpe_bm (K := K) rfl PySem.F.plainAttrs_list PySem.F.slot_list_extend PySem.F.type_list_extend mt_extendS (pv 2) (pa_cons (pe_mth0 m_Reader_read_escape (pv 0) (hr.mono (by omega)) (L2.passes_call (L2.takes_of rfl rfl rfl rfl) (fun _ _ _ _ h => h))) pa_nil)))) (pss_one (ps_expr (kpe_bm (K := K) rfl PySem.F.plainAttrs_list PySem.F.slot_list_extend PySem.F.type_list_extend mt_extendS (pv 2) (pa_cons (pe_mth0 m_Reader_read_character (pv 0) (hr.mono (by omega)) (L2.passes_call (L2.takes_of rfl rfl rfl rfl) (fun _ _ _ _ h => h))) pa_nil)))))))
    (pss_cons (ps_fcaug (K := K) rfl q_Reader_position (pv 0) pe_int in_add)
    (pss_one (ps_expr (pe_mth m_Reader_add_expression (pv 0) (hr.mono (by omega)) pass0 (pa_cons pe_str (pa_cons (pe_callTy (kcall_tuple (K := K) rfl) (by rfl) n_tuple (by decide +kernel) (pa_cons (pv 2) pa_nil)) (pa_cons (pv 1) pa_nil))))))))))), ?_⟩)
  obtain ⟨r, D, L, dx, a, bs, vs', d, G0, H0, G, p, up, cur, b, rfl, S, hb, rfl, F⟩ := h
  have hp : p < d.length := (List.getElem?_eq_some_iff.mp hb).1
  have hd := drop_at hb
  have hsm := S.small
  have go := goOn_token d.length up cur 34 (d.drop (p + 1)) rfl (by decide)
  rw [node_eq, if_neg (by decide), if_pos rfl, ← hd] at go
  have e1 : d.length - ((d.drop (p + 1)).length + 1) = p := by rw [List.length_drop]; omega
  have go' : goOn d.length up cur (d.drop p) = match strGo [] (d.drop (p + 1)) with | .ok t rest => goOn d.length up (cur ++ [.string p t]) rest | .error k rest => .error k rest := by
    rw [go, e1]
    unfold strGo
    cases Kh450.readString (d.drop (p + 1)).length (d.drop (p + 1)) <;> rfl
  walk_at "sx"
  refine ⟨dx, _, S.rd.at_, _, rd_pos, dx, _, S.rd.at_, _, rd_pos, _, rfl, dx, _, S.rd.at_, rd_len, ?_⟩
  have h1 := S.rd.inc (i := (p : Int) + 1) (n := p + 1) (by omega) hp
  generalize hH1 : upd H r (HO.ins CR dx (putF (Str.ofString "position") (V.int ((p : Int) + 1)) (rdF D p L))) = H1 at h1 ⊢
  have b1 : But r H H1 := hH1 ▸ But.refl.upd
  refine ⟨Nat.zero_le _, fun c hc => ?_⟩
  have sc := same_new (o := .lst []) hc
  refine ⟨fun m σ' H' => ∃ (p1 : Nat) (ts : List Nat), m = d.length - p1 ∧ σ' = [some (.ref r), some (.int (p : Int)), some (.ref c)] ∧ But r H H' ∧ RdR CR r D L dx d p1 H' ∧ H' c = some (.lst (nV (Kh450.encodeAll ts))) ∧ p < p1 ∧ (Kh450.encodeAll ts).length ≤ 4 * p1 ∧ strGo ts (d.drop p1) = strGo [] (d.drop (p + 1)),
    ⟨_, p + 1, [], rfl, rfl, b1.same sc, h1.same sc, upd_same, by omega, by simp [Kh450.encodeAll], rfl⟩, ?_⟩
  rintro m σ' H' ⟨p1, ts, rfl, rfl, hB, h2, hcl, hlt, hsz, hst⟩
  walk_at "sx"
  have err : ∀ k rest n, strGo [] (d.drop (p + 1)) = .error k rest → d.length - rest.length = n → ErrR CE r H E k n := fun k rest n e hn => F.err S (by rw [go', e]) hn
  have hHc : H c = none := b1.free h1.at_ hc
  have rc : r ≠ c := fun z => by rw [← z, h1.at_] at hc; cases hc
  have Dc : D ≠ c := fun z => by rw [← z, h1.data] at hc; cases hc
  refine ⟨dx, _, h2.at_, rd_mth, r, D, L, dx, d, p1, rfl, h2, ?_⟩
  cases e : d[p1]? with
  | none =>
    rw [List.getElem?_eq_none_iff] at e
    rw [List.drop_eq_nil_iff.mpr e, strGo_nil] at hst
    exact (err 1 [] d.length hst.symm (by simp)).go hB
  | some b =>
    have hp1 : p1 < d.length := (List.getElem?_eq_some_iff.mp e).1
    have hd1 := drop_at e
    rw [hd1, strGo_step] at hst
    intro H2 s2
    have h3 := h2.same s2
    have b3 := hB.same s2
    have hc3 := s2 _ _ hcl
    refine ⟨rfl, ?_⟩
    by_cases hb34 : b = 34
    · rw [if_pos hb34] at hst
      rw [show (!decide (V.int (b : Int) = V.int ((34 : Nat) : Int))) = false by rw [hb34]; simp]
      refine iteF ?_
      have h5 := h3.inc (i := (p1 : Int) + 1) (n := p1 + 1) (by omega) hp1
      have hc5 : upd H2 r (HO.ins CR dx (putF (Str.ofString "position") (V.int ((p1 : Int) + 1)) (rdF D p1 L))) c = some (.lst (nV (Kh450.encodeAll ts))) := (upd_ne rc.symm).trans hc3
      refine ⟨dx, _, h3.at_, _, rd_pos, _, rfl, dx, _, h3.at_, rd_len, ?_⟩
      generalize hH5 : upd H2 r (HO.ins CR dx (putF (Str.ofString "position") (V.int ((p1 : Int) + 1)) (rdF D p1 L))) = H5 at h5 hc5 ⊢
      have b5 : But r H H5 := b3.trans (hH5 ▸ But.refl.upd)
      refine ⟨dx, _, h5.at_, rd_mth, _, .inl ⟨SqL.of hc5, fun t ht => ?_⟩⟩
      have S5 := S.pos b5 h5 (by omega)
      have S6 := S5.grow ((Ext.refl S5.ext.sub).made (o := .tup (nV (Kh450.encodeAll ts))) ht)
      have ht6 : (upd H5 t (.tup (nV (Kh450.encodeAll ts)))) t = some (.tup (nV (Kh450.encodeAll ts))) := upd_same
      have gt6 : (upd G t (.tup (nV (Kh450.encodeAll ts)))) t = some (.tup (nV (Kh450.encodeAll ts))) := upd_same
      generalize upd H5 t (.tup (nV (Kh450.encodeAll ts))) = H6 at S6 ht6 ⊢
      generalize upd G t (.tup (nV (Kh450.encodeAll ts))) = G6 at S6 gt6
      refine ⟨r, dx, D, p1 + 1, L, bs.reverse.map V.ref, a, vs', "string", .ref t, p, rfl, S6.rd.at_, S6.lev, S6.top, ?_, fun e0 dxe he hde ne => ?_⟩
      · rw [S6.exs.len]; have := S.count.1; exact lt_line (by omega)
      have te : t ≠ e0 := fun z => by rw [← z, ht6] at he; cases he
      have td : t ≠ dxe := fun z => by rw [← z, ht6] at hde; cases hde
      have R := S6.leaf (k := "string") (v := .ref t) (q := p) (n := .string p ts) he hde ne (by simp only [ExAt]; exact ⟨e0, dxe, t, rfl, upd_same, (upd_ne te).trans ((upd_ne td).trans gt6)⟩) (by have := S.count.1; omega)
      refine F.1 _ _ _ _ _ _ _ _ R ?_ (by omega)
      rw [go', ← hst]
    · rw [if_neg hb34] at hst
      rw [show (!decide (V.int (b : Int) = V.int ((34 : Nat) : Int))) = true by simp; omega]
      refine iteT ?_
      refine ⟨fun σ2 Hn => ∃ (p2 : Nat) (ts2 : List Nat), p1 < p2 ∧ σ2 = [some (.ref r), some (.int (p : Int)), some (.ref c)] ∧ But r H Hn ∧ RdR CR r D L dx d p2 Hn ∧ Hn c = some (.lst (nV (Kh450.encodeAll ts2))) ∧ (Kh450.encodeAll ts2).length ≤ 4 * p2 ∧ strGo ts2 (d.drop p2) = strGo [] (d.drop (p + 1)), ?_, ?_⟩
      · rintro σ2 Hn ⟨p2, ts2, hlt2, rfl, hBn, hn, hcn, hszn, hstn⟩
        exact ⟨d.length - p2, by omega, p2, rfl, rfl, hBn, hn, ts2, hcn, by omega, hszn, hstn⟩
      refine ⟨dx, _, h3.at_, rd_mth, r, D, L, dx, d, p1, rfl, h3, ?_⟩
      rw [e]
      intro H3 s3
      have h4 := h3.same s3
      have b4 := b3.same s3
      have hc4 := s3 _ _ hc3
      refine ⟨rfl, ?_⟩
      have fin : ∀ (c0 : Nat) (rest : List Nat), strGo (ts ++ [c0]) rest = strGo [] (d.drop (p + 1)) → ∀ (Qx : VK), (∀ a2 H4, H4 c = some (.lst (nV (Kh450.encodeAll ts))) → H4 a2 = some (.lst (nV (Kh450.encodeUtf8 c0))) → (∃ p2, p1 < p2 ∧ But r H (upd H4 c (.lst (nV (Kh450.encodeAll ts) ++ nV (Kh450.encodeUtf8 c0)))) ∧ RdR CR r D L dx d p2 (upd H4 c (.lst (nV (Kh450.encodeAll ts) ++ nV (Kh450.encodeUtf8 c0)))) ∧ rest = d.drop p2) → Qx (.ref a2) H4) → CharR CR r D L dx d p1 H3 Qx c0 rest := by
        intro c0 rest hgo Qx k a2 H4 b5 f5 h5 hr5 hl5 hl2
        have ac : c ≠ a2 := fun z => by rw [← z, hc4] at f5; cases f5
        have hc5 := b5 c _ rc.symm hc4
        rw [List.length_drop] at hl5
        refine k a2 H4 hc5 hl2 ⟨d.length - rest.length, by omega, fun x o n z => (upd_ne (ne_of_none z hHc)).trans ((b4.trans b5) x o n z), ⟨(upd_ne rc).trans h5.at_, (upd_ne Dc).trans h5.data, h5.le⟩, hr5⟩
      have post : ∀ (c0 : Nat) (rest : List Nat), strGo (ts ++ [c0]) rest = strGo [] (d.drop (p + 1)) → CharR CR r D L dx d p1 H3 (fun x H1 => ∃ x_2, x = V.ref x_2 ∧ ∃ x, H1 c = some (HO.lst x) ∧ ∃ x_3, (H1 x_2 = some (HO.lst x_3) ∨ H1 x_2 = some (HO.tup x_3)) ∧ x.length + x_3.length ≤ sizeLine ∧
          (fun (σ2 : L2.St) (Hn : Hp) => ∃ (p2 : Nat) (ts2 : List Nat), p1 < p2 ∧ σ2 = [some (.ref r), some (.int (p : Int)), some (.ref c)] ∧ But r H Hn ∧ RdR CR r D L dx d p2 Hn ∧ Hn c = some (.lst (nV (Kh450.encodeAll ts2))) ∧ (Kh450.encodeAll ts2).length ≤ 4 * p2 ∧ strGo ts2 (d.drop p2) = strGo [] (d.drop (p + 1))) [some (V.ref r), some (V.int (p : Int)), some (V.ref c)] (upd H1 c (HO.lst (x ++ x_3)))) c0 rest := by
        intro c0 rest hgo
        refine fin c0 rest hgo _ (fun a2 H4 hc5 hl2 ⟨p2, hlt2, hb2, hr2, hrest⟩ => ⟨a2, rfl, _, hc5, _, .inl hl2, ?_, p2, ts ++ [c0], hlt2, rfl, hb2, hr2, ?_, ?_, ?_⟩)
        · rw [List.length_map, List.length_map]; have := enc_len c0; exact le_line2 (by omega)
        · rw [upd_same, encAll_snoc, nV_app]
        · rw [encAll_snoc, List.length_append]; have := enc_len c0; omega
        · rw [← hrest]; exact hgo
      have hc4' := truL (K := K) (SqL.of hc4)
      by_cases h92 : b = 92
      · rw [if_pos h92] at hst
        refine ite2 (fun _ => ?_) (fun z => absurd (decide_eq_true (by rw [h92])) z)
        refine ⟨tyL (SqL.of hc4), dx, _, h4.at_, rd_mth, r, D, L, dx, d, p1, rfl, h4, hsm, hp1, ?_⟩
        by_cases hend : d.length ≤ p1 + 1
        · rw [if_pos hend]
          rw [List.drop_eq_nil_iff.mpr hend] at hst
          exact (err 1 [] d.length hst.symm (by simp)).go b4
        · rw [if_neg hend]
          obtain ⟨x, t, hx⟩ : ∃ x t, d.drop (p1 + 1) = x :: t := by
            cases hx : d.drop (p1 + 1) with
            | nil => rw [List.drop_eq_nil_iff] at hx; omega
            | cons x t => exact ⟨x, t, rfl⟩
          have hxl := congrArg List.length hx
          rw [List.length_drop, List.length_cons] at hxl
          rw [hx] at hst ⊢
          simp only at hst
          cases eE : Kh450.readEscape (x :: t) with
          | none =>
            rw [eE] at hst
            exact (err 3 _ p1 hst.symm (by simp only [List.length_cons]; omega)).go b4
          | some y =>
            obtain ⟨c0, rest⟩ := y
            rw [eE] at hst
            exact post c0 rest hst
      · rw [if_neg h92] at hst
        refine ite2 (fun z => by rw [decide_eq_true_eq] at z; injection z with z; omega) (fun _ => ?_)
        refine ⟨tyL (SqL.of hc4), dx, _, h4.at_, rd_mth, r, D, L, dx, d, p1, b, rfl, h4, e, hsm, S.byte, ?_⟩
        have hxl : (d.drop (p1 + 1)).length = d.length - (p1 + 1) := List.length_drop
        by_cases h32 : b < 32
        · rw [if_pos h32] at hst ⊢
          exact (err 2 _ p1 hst.symm (by rw [List.length_cons, hxl]; omega)).go b4
        · rw [if_neg h32] at hst ⊢
          rw [← hd1] at hst
          cases eD : Kh450.decodeUtf8 (d.drop p1) with
          | none =>
            rw [eD] at hst
            exact (err 4 _ p1 hst.symm (by rw [List.length_drop]; omega)).go b4
          | some y =>
            obtain ⟨c0, rest⟩ := y
            rw [eD] at hst
            exact post c0 rest hst

end
end Bt

namespace Bt
open PySem PySem.Spec PyProof.Rows L2
local macro_rules | `(tactic| walk_at "sx") => `(tactic| simp only [cxK, tTru, rLen, rListOf, rTupOf, tRet, tRetN, tChain, tRng, tCB, tCons, tNil, tC, tVar, tOp, tUn, tTest, tB, tAnd, tOr, tNot, tIfS, tSeq, tIf, tOrV, tAndV, tNotV, tCall, tSl, tPart, tNoPart, tLst, tTup, tBM, tBM0, rExtendS, iList, iTup, iSeqV, rIxL, rIxT, rSlL, rAppend, rExtend, rCat, rI0, rI, rIxS, rEq, rNe, rU, tAsg, gName, tDrop, tNext, scal, L2.start, List.map_cons, List.map_nil, List.length_cons, List.length_nil, Nat.reduceAdd, Nat.reduceSub, List.replicate_succ, List.replicate_zero, List.append_nil, List.cons_append, List.nil_append, List.getElem?_cons_zero, List.getElem?_cons_succ, Option.some.injEq, exists_eq_left', exists_eq_left, V.int.injEq, V.bl.injEq, V.str.injEq, V.ref.injEq, List.cons.injEq, and_true, true_and, exists_and_left, List.set_cons_zero, List.set_cons_succ, spN1_run, tFC, sFC, sFCAug, tMeth, tMake, sRaise, tErF, rAdd, rPop, tM1, tCallL, Option.some.injEq, HO.ins.injEq])
local macro_rules | `(tactic| walk_at "sm") => `(tactic| (repeat (first | exact Same.refl _ | assumption | (refine Same.trans ?_ (same_new (by assumption))) | (refine Same.trans ?_ (by assumption)))))
section
variable {P : Program} {w : World} {K : PySem.W.Frag} {mg : Str → Option Value} {base : Heap}
abbrev s_Reader_read_next : Stmt := inClass (top 34) 3
theorem sc_Reader_read_next : FnScope ["self", "byte"] ["self"] (defScope s_Reader_read_next) := ⟨rfl, rfl, rfl, by decide +kernel, rfl, by decide +kernel, by decide +kernel⟩
theorem ok_Reader_read_next {CR CX CE : Addr} {ps : List Str} (DD : DnM K CR "read_next" "Reader.read_next" s_Reader_read_next ["self"]) (n_ord : mg "ord" = none)
    (q_Reader_position : Kf K CR "position") (q_Reader_data : Kf K CR "data") (o_is_digit : OwnOk P w K mg base CX0 1 "is_digit" ["byte"] (spN1 fun n => .bl (Kh450.isDigit n))) (o_is_lowercase : OwnOk P w K mg base CX0 1 "is_lowercase" ["byte"] (spN1 fun n => .bl (Kh450.isLower n)))
    (m_Reader_begin_list : OwnM P w K mg base (L2.CX P w) 4 CR "begin_list" ["self"] (spTok CR CX CE fun b => b = 40)) (m_Reader_end_list : OwnM P w K mg base (L2.CX P w) 4 CR "end_list" ["self"] (spTok CR CX CE fun b => b = 41))
    (m_Reader_read_string : OwnM P w K mg base (L2.CX P w) 6 CR "read_string" ["self"] (spTok CR CX CE fun b => b = 34)) (m_Reader_read_integer : OwnM P w K mg base (L2.CX P w) 4 CR "read_integer" ["self"] (spTok CR CX CE fun b => Kh450.isDigit b = true))
    (m_Reader_read_symbol : OwnM P w K mg base CX0 4 CR "read_symbol" ["self"] (spTok0 CR CX fun b => Kh450.isLower b = true)) (x_NotationError : OwnX P w K mg base 2 "NotationError" CE 2 neF ps) :
    OwnM P w K mg base (L2.CX P w) 7 CR "read_next" ["self"] (spTok CR CX CE fun b => Kh450.isSpace b = false ∧ b ≠ 59) := by
  refine mth_okX DD sc_Reader_read_next (fun _ _ _ _ h => spTok_len h) (fun f cdv A outer s H vs Q E hr h => ⟨_, (pss_cons (ps_set (i := 1) sc_Reader_read_next.nd rfl (by first | exact Or.inl rfl | exact Or.inr rfl) (pe_ix (kix_list (K := K) rfl) (pe_fc (K := K) rfl q_Reader_data (pv 0)) (pe_fc (K := K) rfl q_Reader_position (pv 0)) (fun _ _ => rfl)))
    (pss_one (ps_if (pt_cmpR op_eq (pv 1) (pe_ordL 40 n_ord) (nomark _)) (pss_one (ps_expr (pe_mth0 m_Reader_begin_list (pv 0) (hr.mono (by omega)) (L2.passes_call (L2.takes_of rfl rfl rfl rfl) (fun _ _ _ _ h => h))))) (pss_one (ps_if (pt_cmpR op_eq (pv 1) (pe_ordL 41 n_ord) (nomark _)) (pss_one (ps_expr (pe_mth0 m_Reader_end_list (pv 0) (hr.mono (by omega)) (L2.passes_call (L2.takes_of rfl rfl rfl rfl) (fun _ _ _ _ h => h))))) (pss_one (ps_if (pt_cmpR op_eq (pv 1) (pe_ordL 34 n_ord) (nomark _)) (pss_one (ps_expr (pe_mth0 m_Reader_read_string (pv 0) (hr.mono (by omega)) (L2.passes_call (L2.takes_of rfl rfl rfl rfl) (fun _ _ _ _ h => h))))) (pss_one (ps_if (pt_val (pe_own o_is_digit (hr.mono (by omega)) rfl pass0 (pa_cons (pv 1) pa_nil))) (pss_one (ps_expr (pe_mth0 m_Reader_read_integer (pv 0) (hr.mono (by omega)) (L2.passes_call (L2.takes_of rfl rfl rfl rfl) (fun _ _ _ _ h => h))))) (pss_one (ps_if (pt_val (pe_own o_is_lowercase (hr.mono (by omega)) rfl pass0 (pa_cons (pv 1) pa_nil))) (pss_one (ps_expr (pe_mth0 m_Reader_read_symbol (pv 0) (hr.mono (by omega)) pass0))) (pss_one (ps_raiseN x_NotationError (hr.mono (by omega)) (by rfl) rfl (L2.takes_of rfl rfl rfl rfl) (pa_cons pe_int (pa_cons (pe_fc (K := K) rfl q_Reader_position (pv 0)) pa_nil))))))))))))))), ?_⟩)
  obtain ⟨r, D, L, dx, a, bs, vs', d, G0, H0, G, p, up, cur, b, rfl, S, hb, ⟨hns, h59⟩, F⟩ := h
  have hp : p < d.length := (List.getElem?_eq_some_iff.mp hb).1
  have hd := drop_at hb
  walk_at "sx"
  refine ⟨dx, _, S.rd.at_, _, rd_dat, dx, _, S.rd.at_, _, rd_pos, D, rfl, _, _, rfl, S.rd.sq, _, nV_at_nat hb, rfl, ?_⟩
  refine ite2 (fun h => ?_) (fun h40 => ?_)
  · have h40 : b = 40 := by rw [decide_eq_true_eq] at h; injection h with h; omega
    exact ⟨dx, _, S.rd.at_, rd_mth, r, D, L, dx, a, bs, vs', d, G0, H0, G, p, up, cur, b, rfl, S, hb, h40, F⟩
  refine ⟨rfl, ite2 (fun h => ?_) (fun h41 => ?_)⟩
  · have h41 : b = 41 := by rw [decide_eq_true_eq] at h; injection h with h; omega
    exact ⟨dx, _, S.rd.at_, rd_mth, r, D, L, dx, a, bs, vs', d, G0, H0, G, p, up, cur, b, rfl, S, hb, h41, F⟩
  refine ⟨rfl, ite2 (fun h => ?_) (fun h34 => ?_)⟩
  · have h34 : b = 34 := by rw [decide_eq_true_eq] at h; injection h with h; omega
    exact ⟨dx, _, S.rd.at_, rd_mth, r, D, L, dx, a, bs, vs', d, G0, H0, G, p, up, cur, b, rfl, S, hb, h34, F⟩
  rw [spN1_run]
  intro H1 s1
  have S1 := S.pos (But.refl.same s1) (S.rd.same s1) (Nat.le_refl p)
  refine ⟨_, rfl, ?_⟩
  cases hdg : Kh450.isDigit b with
  | true => exact iteT ⟨dx, _, S1.rd.at_, rd_mth, r, D, L, dx, a, bs, vs', d, G0, H0, G, p, up, cur, b, rfl, S1, hb, hdg, F⟩
  | false =>
    refine iteF ?_
    rw [spN1_run]
    intro H2 s2
    have S2 := S1.pos (But.refl.same s2) (S1.rd.same s2) (Nat.le_refl p)
    refine ⟨_, rfl, ?_⟩
    cases hlo : Kh450.isLower b with
    | true => exact iteT ⟨dx, _, S2.rd.at_, rd_mth, r, D, L, dx, a, bs, vs', d, G0, H0, G, p, up, cur, b, rfl, S2, hb, hlo, F.1⟩
    | false =>
      refine iteF ⟨dx, _, S2.rd.at_, _, rd_pos, _, _, ⟨rfl, rfl⟩, fun dE hdE => ?_⟩
      have e34 : ¬ b = 34 := fun z => h34 (by rw [z]; simp)
      have e40 : ¬ b = 40 := fun z => h40 (by rw [z]; simp)
      have e41 : ¬ b = 41 := fun z => h41 (by rw [z]; simp)
      have go := goOn_token d.length up cur b (d.drop (p + 1)) (by simp only [Kh450.skipSpace, hns, h59, if_false, Bool.false_eq_true]) e41
      rw [node_eq, if_neg e40, if_neg e34, if_neg (by rw [hdg]; decide), if_neg (by rw [hlo]; decide), ← hd] at go
      exact F.err S2 go (by rw [List.length_drop]; omega) H2 dE But.refl hdE
theorem skip_suffix : ∀ (c : Bool) (l : List Nat), Kh450.skipSpace c l = l.drop (l.length - (Kh450.skipSpace c l).length)
  | c, [] => by simp [Kh450.skipSpace]
  | c, b :: r => by
    have go : ∀ c', Kh450.skipSpace c' r = (b :: r).drop ((b :: r).length - (Kh450.skipSpace c' r).length) := fun c' => by
      have ih := skip_suffix c' r
      have hl := skip_len c' r
      have e : (b :: r).length - (Kh450.skipSpace c' r).length = (r.length - (Kh450.skipSpace c' r).length) + 1 := by simp only [List.length_cons]; omega
      rw [e, List.drop_succ_cons]
      exact ih
    simp only [Kh450.skipSpace]
    split
    · exact go _
    · split
      · exact go _
      · split
        · exact go _
        · simp
theorem skip_drop (c : Bool) (d : List Nat) (p : Nat) (h : p ≤ d.length) : d.drop (skipTo c d p) = Kh450.skipSpace c (d.drop p) := by
  have hs := skip_suffix c (d.drop p)
  have hl := skip_len c (d.drop p)
  rw [List.length_drop] at hs hl
  rw [hs, List.drop_drop]
  unfold skipTo
  congr 1
  omega
theorem skip_ge (c : Bool) (d : List Nat) (p : Nat) (h : p ≤ d.length) : p ≤ skipTo c d p ∧ skipTo c d p ≤ d.length := by
  have hl := skip_len c (d.drop p)
  rw [List.length_drop] at hl
  unfold skipTo
  omega
theorem skip_first {b : Nat} {r : List Nat} (h : Kh450.skipSpace false (b :: r) = b :: r) : Kh450.isSpace b = false ∧ b ≠ 59 := by
  have h1 := skip_len false r
  have h2 := skip_len true r
  constructor
  · cases hs : Kh450.isSpace b with
    | false => rfl
    | true =>
      simp only [Kh450.skipSpace, hs, if_true, Bool.false_eq_true, if_false] at h
      rw [h] at h1; simp at h1; omega
  · rintro rfl
    have : Kh450.skipSpace false (59 :: r) = Kh450.skipSpace true r := rfl
    rw [this] at h
    rw [h] at h2; simp at h2; omega
/-- read_all(self): the expressions, or the error -/
def spAll (CR CX CE : Addr) : Sp := fun vs H Q E => ∃ r D L dx a d G0 H0 G, vs = [.ref r] ∧ Rd CR CX r D L dx a [] [] d G0 H0 G H 0 [] [] ∧
  match Kh450.readAll d with
  | .ok ns _ => ∀ v G' H', Ext G0 H0 G' H' → (∃ b vs, v = .ref b ∧ G' b = some (.lst vs) ∧ ExsAt CX G' ns vs ∧ ns.length ≤ d.length) → Q v H'
  | .error k rest => ∀ H' dE, Same H0 H' → H' dE = none → E (.ref CE) (some dE) (upd H' dE (.xd [("position", .int ((d.length - rest.length : Nat) : Int)), ("kind", .int ((k : Nat) : Int)), ("code", .int (-20))]))
abbrev s_Reader_read_all : Stmt := inClass (top 34) 1
theorem sc_Reader_read_all : FnScope ["self"] ["self"] (defScope s_Reader_read_all) := ⟨rfl, rfl, rfl, by decide +kernel, rfl, by decide +kernel, by decide +kernel⟩
theorem ok_Reader_read_all {CR CX CE : Addr} {ps : List Str} (DD : DnM K CR "read_all" "Reader.read_all" s_Reader_read_all ["self"]) (n_len : mg "len" = none)
    (q_Reader_position : Kf K CR "position") (q_Reader_data : Kf K CR "data") (q_Reader_levels : Kf K CR "levels") (m_Reader_skip_blanks : OwnM P w K mg base CX0 2 CR "skip_blanks" ["self"] (spSkip CR))
    (m_Reader_read_next : OwnM P w K mg base (L2.CX P w) 7 CR "read_next" ["self"] (spTok CR CX CE fun b => Kh450.isSpace b = false ∧ b ≠ 59)) (x_NotationError : OwnX P w K mg base 2 "NotationError" CE 2 neF ps) :
    OwnM P w K mg base (L2.CX P w) 8 CR "read_all" ["self"] (spAll CR CX CE) := by
  refine mth_okX DD sc_Reader_read_all (fun _ _ _ _ h => by obtain ⟨_, _, _, _, _, _, _, _, _, rfl, _⟩ := h; rfl) (fun f cdv A outer s H vs Q E hr h => ⟨_, (pss_cons (ps_expr (pe_mth0 m_Reader_skip_blanks (pv 0) (hr.mono (by omega)) pass0))
    (pss_cons (ps_while (L2.passes_of rfl) (pt_cmpR op_lt (pe_fc (K := K) rfl q_Reader_position (pv 0)) (pe_callB (kcall_len (K := K) rfl) (by rfl) n_len PySem.boot_len (pa_cons (pe_fc (K := K) rfl q_Reader_data (pv 0)) pa_nil)) (nomark _)) (pss_cons (ps_expr (pe_mth0 m_Reader_read_next (pv 0) (hr.mono (by omega)) (L2.passes_call (L2.takes_of rfl rfl rfl rfl) (fun _ _ _ _ h => h))))
    (pss_one (ps_expr (pe_mth0 m_Reader_skip_blanks (pv 0) (hr.mono (by omega)) pass0)))))
    (pss_cons (ps_if (pt_cmpR op_gt (pe_callB (kcall_len (K := K) rfl) (by rfl) n_len PySem.boot_len (pa_cons (pe_fc (K := K) rfl q_Reader_levels (pv 0)) pa_nil)) pe_int (nomark _)) (pss_one (ps_raiseN x_NotationError (hr.mono (by omega)) (by rfl) rfl (L2.takes_of rfl rfl rfl rfl) (pa_cons pe_int (pa_cons (pe_callB (kcall_len (K := K) rfl) (by rfl) n_len PySem.boot_len (pa_cons (pe_fc (K := K) rfl q_Reader_data (pv 0)) pa_nil)) pa_nil)))) pss_nil)
    (pss_one (ps_ret (pe_ix (kix_list (K := K) rfl) (pe_fc (K := K) rfl q_Reader_levels (pv 0)) pe_int (fun _ _ => rfl))))))), ?_⟩)
  obtain ⟨r, D, L, dx, a, d, G0, H0, G, rfl, S, q⟩ := h
  rw [readAll_goOn] at q
  walk_at "sx"
  refine ⟨dx, _, S.rd.at_, rd_mth, r, D, L, dx, d, 0, rfl, S.rd, fun H1 b1 h1 => ?_⟩
  have S1 := S.pos b1 h1 (Nat.zero_le _)
  have sk0 := skip_ge false d 0 (Nat.zero_le _)
  have sd0 := skip_drop false d 0 (Nat.zero_le _)
  refine ⟨fun m σ' H' => ∃ (a' : Addr) (bs : List Addr) (vs : List V) (G' : Hp) (p : Nat) (up : List (Nat × List Kh450.Node)) (cur : List Kh450.Node), m = d.length - p ∧ σ' = [some (.ref r)] ∧ Rd CR CX r D L dx a' bs vs d G0 H0 G' H' p up cur ∧ Kh450.skipSpace false (d.drop p) = d.drop p ∧ goOn d.length up cur (d.drop p) = goOn d.length [] [] d,
    ⟨_, a, [], [], G, _, [], [], rfl, rfl, S1, by rw [sd0, skip_idem], by rw [sd0, goOn_skip]; rfl⟩, ?_⟩
  rintro m σ' H' ⟨a', bs, vs, G', p, up, cur, rfl, rfl, S', hsk, hgo⟩
  walk_at "sx"
  refine ⟨dx, _, S'.rd.at_, _, rd_pos, dx, _, S'.rd.at_, _, rd_dat, D, rfl, _, .inl S'.rd.sq, _, rfl, ?_⟩
  rw [List.length_map]
  refine ite2 (fun hlt => ?_) (fun hlt => ?_)
  · rw [decide_eq_true_eq] at hlt
    have hp : p < d.length := by omega
    obtain ⟨b, hb⟩ : ∃ b, d[p]? = some b := ⟨_, List.getElem?_eq_getElem hp⟩
    have hf := skip_first (by rw [← drop_at hb]; exact hsk)
    refine ⟨fun σ2 H2 => ∃ (a' : Addr) (bs : List Addr) (vs : List V) (G' : Hp) (p2 : Nat) (up : List (Nat × List Kh450.Node)) (cur : List Kh450.Node), p < p2 ∧ σ2 = [some (.ref r)] ∧ Rd CR CX r D L dx a' bs vs d G0 H0 G' H2 p2 up cur ∧ Kh450.skipSpace false (d.drop p2) = d.drop p2 ∧ goOn d.length up cur (d.drop p2) = goOn d.length [] [] d, ?_, ?_⟩
    · rintro σ2 H2 ⟨a2, bs2, vs2, G2, p2, up2, cur2, hlt2, rfl, S2, hsk2, hgo2⟩
      exact ⟨d.length - p2, by omega, a2, bs2, vs2, G2, p2, rfl, rfl, up2, cur2, S2, hsk2, hgo2⟩
    refine ⟨dx, _, S'.rd.at_, rd_mth, r, D, L, dx, a', bs, vs, d, G0, H0, G', p, up, cur, b, rfl, S', hb, hf, ?_, ?_⟩
    · intro a2 bs2 vs2 G2 H2 p2 up2 cur2 S2 hgo2 hlt2
      refine ⟨dx, _, S2.rd.at_, rd_mth, r, D, L, dx, d, p2, rfl, S2.rd, fun H3 b3 h3 => ?_⟩
      have sk2 := skip_ge false d p2 S2.rd.le
      have sd2 := skip_drop false d p2 S2.rd.le
      exact ⟨a2, bs2, vs2, G2, _, up2, cur2, by omega, rfl, S2.pos b3 h3 sk2.1, by rw [sd2, skip_idem], by rw [sd2, goOn_skip, hgo2, hgo]⟩
    · intro k rest H2 dE e s2 hdE
      rw [hgo] at e
      rw [e] at q
      exact q H2 dE s2 hdE
  · rw [decide_eq_true_eq] at hlt
    have hle := S'.rd.le
    have hpe : p = d.length := by omega
    rw [List.drop_eq_nil_iff.mpr (by omega), goOn_end] at hgo
    rw [← hgo] at q
    refine ⟨dx, _, S'.rd.at_, _, rd_lev, L, rfl, _, .inl (SqL.of S'.lev), ?_⟩
    rw [List.length_append, List.length_map, List.length_reverse, List.length_singleton]
    have ul := LvOut.len bs a' up S'.out
    refine ite2 (fun h1 => ?_) (fun h1 => ?_)
    · rw [decide_eq_true_eq] at h1
      have une : up ≠ [] := fun z => by rw [z] at ul; simp at ul; omega
      rw [if_neg une] at q
      refine ⟨dx, _, S'.rd.at_, _, rd_dat, D, rfl, _, .inl S'.rd.sq, _, _, ⟨rfl, rfl⟩, fun dE hdE => ?_⟩
      rw [List.length_map]
      exact q H' dE S'.ext.same hdE
    · rw [decide_eq_true_eq] at h1
      have bse : bs = [] := List.eq_nil_of_length_eq_zero (by omega)
      subst bse
      have ue : up = [] := S'.out
      subst ue
      rw [if_pos rfl] at q
      refine ⟨dx, _, S'.rd.at_, _, rd_lev, ?_⟩
      have pa := S'.priv a' (by simp)
      refine ⟨L, rfl, _, SqL.of S'.lev, V.ref a', rfl, q _ (upd G' a' (.lst vs)) H' (S'.ext.pub pa.1 S'.top) ⟨a', vs, rfl, upd_same, ExsAt.same (same_new pa.2) _ _ S'.exs, ?_⟩⟩
      exact Nat.le_trans S'.count.1 hle

end
end Bt

namespace Bt
open PySem PySem.Spec PyProof.Rows L2
local macro_rules | `(tactic| walk_at "sx") => `(tactic| simp only [cxK, tTru, rLen, rListOf, rTupOf, tRet, tRetN, tChain, tRng, tCB, tCons, tNil, tC, tVar, tOp, tUn, tTest, tB, tAnd, tOr, tNot, tIfS, tSeq, tIf, tOrV, tAndV, tNotV, tCall, tSl, tPart, tNoPart, tLst, tTup, tBM, tBM0, rExtendS, iList, iTup, iSeqV, rIxL, rIxT, rSlL, rAppend, rExtend, rCat, rI0, rI, rIxS, rEq, rNe, rU, tAsg, gName, tDrop, tNext, scal, L2.start, List.map_cons, List.map_nil, List.length_cons, List.length_nil, Nat.reduceAdd, Nat.reduceSub, List.replicate_succ, List.replicate_zero, List.append_nil, List.cons_append, List.nil_append, List.getElem?_cons_zero, List.getElem?_cons_succ, Option.some.injEq, exists_eq_left', exists_eq_left, V.int.injEq, V.bl.injEq, V.str.injEq, V.ref.injEq, List.cons.injEq, and_true, true_and, exists_and_left, List.set_cons_zero, List.set_cons_succ, spN1_run, tFC, sFC, sFCAug, tMeth, tMake, sRaise, tErF, rAdd, rPop, tM1, tCallL, Option.some.injEq, HO.ins.injEq])
local macro_rules | `(tactic| walk_at "sm") => `(tactic| (repeat (first | exact Same.refl _ | assumption | (refine Same.trans ?_ (same_new (by assumption))) | (refine Same.trans ?_ (by assumption)))))
section
variable {P : Program} {w : World} {K : PySem.W.Frag} {mg : Str → Option Value} {base : Heap}
/-- Reader.__init__(self, data) -/
def spIniR (K : PySem.W.Frag) (CR : Addr) : Sp := fun vs H Q _ => ∃ r dx v d, vs = [.ref r, v] ∧ H r = some (.ins CR dx []) ∧ Lr K d v H ∧
  ∀ D a L H', But r H H' → H D = none → H a = none → H L = none → a ≠ L → D ≠ a → D ≠ L → H' r = some (.ins CR dx (rdF D 0 L)) → H' D = some (.lst (nV d)) → H' a = some (.lst []) → H' L = some (.lst [.ref a]) → Q .non H'
abbrev s_Reader_init : Stmt := inClass (top 34) 0
theorem sc_Reader_init : FnScope ["self", "data"] ["self", "data"] (defScope s_Reader_init) := ⟨rfl, rfl, rfl, by decide +kernel, rfl, by decide +kernel, by decide +kernel⟩
theorem ok_Reader_init {CR : Addr} (D : DnI K mg "Reader" "Reader.__init__" CR s_Reader_init ["self", "data"]) (n_list : mg "list" = none) (q_Reader_data : Kf K CR "data") (q_Reader_position : Kf K CR "position") (q_Reader_levels : Kf K CR "levels") :
    OwnI P w K mg base CX0 1 "Reader" CR ["self", "data"] (spIniR K CR) := by
  refine ini_ok D sc_Reader_init (fun _ _ _ _ h => by obtain ⟨_, _, _, _, rfl, _⟩ := h; rfl) (fun f cdv A outer s H vs Q E hr h => ⟨_, (pss_cons (ps_fc (K := K) rfl q_Reader_data (pv 0) (pe_callTy (kcall_list (K := K) rfl) (by rfl) n_list (by decide +kernel) (pa_cons (pv 1) pa_nil)))
    (pss_cons (ps_fc (K := K) rfl q_Reader_position (pv 0) pe_int)
    (pss_one (ps_fc (K := K) rfl q_Reader_levels (pv 0) (pe_lst (pa_cons (pe_lst pa_nil) pa_nil)))))), ?_⟩)
  obtain ⟨r, dx, v, d, rfl, hr0, ⟨b, rfl, hS⟩, q⟩ := h
  walk_at "sx"
  refine ⟨_, .inl hS, fun D0 hD => ?_⟩
  have rD : r ≠ D0 := fun z => by rw [z, hD] at hr0; cases hr0
  refine ⟨dx, [], (upd_ne rD).trans hr0, by simp, dx, _, upd_same, (put_len (n := 0) (Nat.le_refl _) (by decide)).2, Nat.zero_le _, ?_⟩
  rw [upd_upd]
  have hr2 : (upd (upd H D0 (.lst (nV d))) r (.ins CR dx (putF "position" (.int 0) (putF "data" (.ref D0) [])))) r = some (.ins CR dx (putF "position" (.int 0) (putF "data" (.ref D0) []))) := upd_same
  have hd2 : (upd (upd H D0 (.lst (nV d))) r (.ins CR dx (putF "position" (.int 0) (putF "data" (.ref D0) [])))) D0 = some (.lst (nV d)) := (upd_ne rD.symm).trans upd_same
  have b2 : But r H (upd (upd H D0 (.lst (nV d))) r (.ins CR dx (putF "position" (.int 0) (putF "data" (.ref D0) [])))) := (But.refl.same (same_new hD)).upd
  generalize upd (upd H D0 (.lst (nV d))) r (.ins CR dx (putF "position" (.int 0) (putF "data" (.ref D0) []))) = H2 at hr2 hd2 b2 ⊢
  intro a ha
  refine ⟨le_line (by omega), fun L hL => ?_⟩
  have ra : r ≠ a := fun z => by rw [z, ha] at hr2; cases hr2
  have aL : a ≠ L := fun z => by rw [← z, upd_same] at hL; cases hL
  have hL2 : H2 L = none := (upd_ne aL.symm).symm.trans hL
  have rL : r ≠ L := fun z => by rw [z, hL2] at hr2; cases hr2
  have Da : D0 ≠ a := fun z => by rw [z, ha] at hd2; cases hd2
  have DL : D0 ≠ L := fun z => by rw [z, hL2] at hd2; cases hd2
  refine ⟨dx, _, (upd_ne rL).trans ((upd_ne ra).trans hr2), (put_len (n := 1) (put_len (n := 0) (Nat.le_refl _) (by decide)).1 (by decide)).2, ?_⟩
  refine q D0 a L _ ((b2.same (same_new ha)).same (same_new hL)).upd hD (b2.free hr2 ha) (b2.free hr2 hL2) aL Da DL upd_same ?_ ?_ ?_
  · rw [upd_ne rD.symm, upd_ne DL, upd_ne Da]; exact hd2
  · rw [upd_ne ra.symm, upd_ne aL, upd_same]
  · rw [upd_ne rL.symm, upd_same]
/-- read_expressions(data) -/
def spExprs (K : PySem.W.Frag) (CX CE : Addr) : Sp := fun vs H Q E => ∃ G v d, vs = [v] ∧ Same G H ∧ Lr K d v H ∧ d.length ≤ 1000000 ∧ (∀ x ∈ d, x < 256) ∧
  match Kh450.readAll d with
  | .ok ns _ => ∀ v G' H', Ext G H G' H' → (∃ b vs, v = .ref b ∧ G' b = some (.lst vs) ∧ ExsAt CX G' ns vs ∧ ns.length ≤ d.length) → Q v H'
  | .error k rest => ∀ H' dE, Same H H' → H' dE = none → E (.ref CE) (some dE) (upd H' dE (.xd [("position", .int ((d.length - rest.length : Nat) : Int)), ("kind", .int ((k : Nat) : Int)), ("code", .int (-20))]))
abbrev s_read_expressions : Stmt := top 35
theorem sc_read_expressions : FnScope ["data"] ["data"] (defScope s_read_expressions) := ⟨rfl, rfl, rfl, by decide +kernel, rfl, by decide +kernel, by decide +kernel⟩
theorem ok_read_expressions {CR CX CE : Addr} (DD : Dn K mg "read_expressions" s_read_expressions ["data"]) (k_Reader : OwnI P w K mg base CX0 1 "Reader" CR ["self", "data"] (spIniR K CR)) (m_Reader_read_all : OwnM P w K mg base (L2.CX P w) 8 CR "read_all" ["self"] (spAll CR CX CE)) :
    OwnOk P w K mg base (L2.CX P w) 9 "read_expressions" ["data"] (spExprs K CX CE) := by
  refine own_okX DD sc_read_expressions (fun _ _ _ _ h => by obtain ⟨_, _, _, rfl, _⟩ := h; rfl) (fun f cdv A outer s H vs Q E hr h => ⟨_, (pss_one (ps_ret (pe_mth0 m_Reader_read_all (pe_new k_Reader (hr.mono (by omega)) rfl pass0 (pa_cons (pv 0) pa_nil)) (hr.mono (by omega)) (L2.passes_call (L2.takes_of rfl rfl rfl rfl) (fun _ _ _ _ h => h))))), ?_⟩)
  obtain ⟨G, v, d, rfl, sG, ⟨b, rfl, hS⟩, hlen, hby, q⟩ := h
  walk_at "sx"
  intro r dx hr0 hdx0 ne
  have sc : Same H (upd (upd H dx (HO.own r)) r (HO.ins CR dx [])) := (same_new hdx0).trans (same_new ((upd_ne ne.symm).trans hr0))
  have hcr : upd (upd H dx (HO.own r)) r (HO.ins CR dx []) r = some (.ins CR dx []) := upd_same
  generalize upd (upd H dx (HO.own r)) r (HO.ins CR dx []) = Hc at sc hcr ⊢
  refine ⟨r, dx, .ref b, d, rfl, hcr, ⟨b, rfl, sc.seq hS⟩, fun D a L H' bt hD ha hL aL Da DL e1 e2 e3 e4 => ⟨rfl, dx, _, e1, rd_mth, r, D, L, dx, a, d, G, H, upd G D (.lst (nV d)), rfl, ?_, q⟩⟩
  have hD0 := sc.free hD
  have ha0 := sc.free ha
  have hL0 := sc.free hL
  have Dr : D ≠ r := fun z => by rw [z, hcr] at hD; cases hD
  have ar : a ≠ r := fun z => by rw [z, hcr] at ha; cases ha
  have Lr' : L ≠ r := fun z => by rw [z, hcr] at hL; cases hL
  have sH : Same H H' := fun c o z => bt c o (ne_of_none z hr0) (sc c o z)
  have sG1 : Same G (upd G D (.lst (nV d))) := same_new (sG.free hD0)
  refine ⟨⟨sH, fun c o z => ?_, sG1, fun c o z => ?_⟩, ⟨e1, e2, Nat.zero_le _⟩, upd_same, e4, e3, by simp only [ExsAt], rfl, ?_, ?_, hlen, ⟨Nat.zero_le _, fun y hy => by simp at hy⟩, hby⟩
  · by_cases hc : c = D
    · subst hc; rw [upd_same] at z; cases z; exact e2
    · rw [upd_ne hc] at z; exact sH _ _ (sG _ _ z)
  · by_cases hc : c = D
    · subst hc; exact .inr hD0
    · rw [upd_ne hc] at z; exact .inl z
  · simp only [List.nodup_cons, List.mem_cons, List.not_mem_nil, or_false, not_or, not_false_eq_true, List.nodup_nil, and_true]
    exact ⟨⟨Lr'.symm, ar.symm⟩, aL.symm⟩
  · intro x hx
    simp only [List.mem_cons, List.not_mem_nil, or_false] at hx
    rcases hx with rfl | rfl | rfl
    · exact ⟨hr0, (upd_ne Dr.symm).trans (sG.free hr0)⟩
    · exact ⟨hL0, (upd_ne DL.symm).trans (sG.free hL0)⟩
    · exact ⟨ha0, (upd_ne Da.symm).trans (sG.free ha0)⟩

end
end Bt

namespace Bt
open PySem PySem.Spec PyProof.Rows L2
local macro_rules | `(tactic| walk_at "sx") => `(tactic| simp only [cxK, tTru, rLen, rListOf, rTupOf, tRet, tRetN, tChain, tRng, tCB, tCons, tNil, tC, tVar, tOp, tUn, tTest, tB, tAnd, tOr, tNot, tIfS, tSeq, tIf, tOrV, tAndV, tNotV, tCall, tSl, tPart, tNoPart, tLst, tTup, tBM, tBM0, rExtendS, iList, iTup, iSeqV, rIxL, rIxT, rSlL, rAppend, rExtend, rCat, rI0, rI, rIxS, rEq, rNe, rU, tAsg, gName, tDrop, tNext, scal, L2.start, List.map_cons, List.map_nil, List.length_cons, List.length_nil, Nat.reduceAdd, Nat.reduceSub, List.replicate_succ, List.replicate_zero, List.append_nil, List.cons_append, List.nil_append, List.getElem?_cons_zero, List.getElem?_cons_succ, Option.some.injEq, exists_eq_left', exists_eq_left, V.int.injEq, V.bl.injEq, V.str.injEq, V.ref.injEq, List.cons.injEq, and_true, true_and, exists_and_left, List.set_cons_zero, List.set_cons_succ, spN1_run, tFC, sFC, sFCAug, tMeth, tMake, sRaise, tErF, rAdd, rPop, tM1, tCallL, Option.some.injEq, HO.ins.injEq])
local macro_rules | `(tactic| walk_at "sm") => `(tactic| (repeat (first | exact Same.refl _ | assumption | (refine Same.trans ?_ (same_new (by assumption))) | (refine Same.trans ?_ (by assumption)))))
section
variable {P : Program} {w : World} {K : PySem.W.Frag} {mg : Str → Option Value} {base : Heap}
/-! ### labels, symbols -/
abbrev s_is_label_byte : Stmt := top 53
theorem sc_is_label_byte : FnScope ["byte"] ["byte"] (defScope s_is_label_byte) := ⟨rfl, rfl, rfl, by decide +kernel, rfl, by decide +kernel, by decide +kernel⟩
theorem ok_is_label_byte (D : Dn K mg "is_label_byte" s_is_label_byte ["byte"]) (n_ord : mg "ord" = none) (o_is_letter_or_digit : OwnOk P w K mg base CX0 2 "is_letter_or_digit" ["byte"] (spN1 fun n => .bl (isLD n))) :
    OwnOk P w K mg base CX0 3 "is_label_byte" ["byte"] (spN1 fun n => .bl (Kh450.isLabelPart n)) := by
  refine own_ok D sc_is_label_byte (fun _ _ _ _ h => spN1_len h) (fun f cdv A outer s H vs Q E hr h => ⟨_, (pss_one (ps_ret (pe_or (pe_own o_is_letter_or_digit (hr.mono (by omega)) rfl pass0 (pa_cons (pv 0) pa_nil)) (pe_one (pe_cmpR (kop_in (K := K) rfl) (pv 0) (pe_tup (pa_cons (pe_ordL 45 n_ord) (pa_cons (pe_ordL 95 n_ord) (pa_cons (pe_ordL 46 n_ord) (pa_cons (pe_ordL 58 n_ord) pa_nil))))) (by rfl)))))), ?_⟩)
  obtain ⟨n, rfl, q⟩ := h
  walk_at "sx"
  intro H1 s1
  have e : Kh450.isLabelPart n = (isLD n || decide (n = 45 ∨ n = 95 ∨ n = 46 ∨ n = 58)) := by
    rw [Bool.eq_iff_iff]
    simp only [Kh450.isLabelPart, isLD, Bool.or_eq_true, beq_iff_eq, decide_eq_true_eq, or_assoc]
  cases hl : isLD n with
  | true =>
    rw [if_pos rfl]
    refine fin_bl ?_ (q H1 s1)
    rw [e, hl]; rfl
  | false =>
    rw [if_neg (by decide)]
    refine ⟨le_line (by omega), fun t ht => ⟨t, _, rfl, .inr (SqT.of upd_same), rfl, rfl, fin_bl ?_ (q _ (s1.trans (same_new ht)))⟩⟩
    simp only [e, hl, Bool.false_or, inV, List.any_cons, List.any_nil, eqV, Bool.or_false]
    rw [Bool.eq_iff_iff]; simp; omega
/-- a text's bytes, as a tuple -/
def Tp (l : List Nat) (v : V) (H : Hp) : Prop := ∃ a, v = .ref a ∧ H a = some (.tup (nV l))
def Bv (b : Bool) (v : V) (_H : Hp) : Prop := v = .bl b
theorem Bv.same (n : Bool) (v : V) (H H' : Hp) (_ : Same H H') (h : Bv n v H) : Bv n v H' := h
theorem paired_Bv {H : Hp} : ∀ {l : List Bool} {vs : List V}, Paired (fun n v => Bv n v H) l vs → vs = l.map V.bl
  | _, _, .nil => rfl
  | _, _, .cons e t => by rw [show _ = _ from e, paired_Bv t]; rfl
abbrev s_is_label : Stmt := top 52
theorem sc_is_label : FnScope ["text", "byte"] ["text"] (defScope s_is_label) := ⟨rfl, rfl, rfl, by decide +kernel, rfl, by decide +kernel, by decide +kernel⟩
theorem ok_is_label (D : Dn K mg "is_label" s_is_label ["text"]) (n_len : mg "len" = none) (n_all : mg "all" = none) (c_LONGEST_LABEL : IsC mg "LONGEST_LABEL" (.int 40)) (o_is_label_byte : OwnOk P w K mg base CX0 3 "is_label_byte" ["byte"] (spN1 fun n => .bl (Kh450.isLabelPart n))) :
    OwnOk P w K mg base CX0 4 "is_label" ["text"] (fun vs H Q _ => ∃ (v : V) (l : List Nat), vs = [v] ∧ Tp l v H ∧ ∀ H', Same H H' → Q (.bl (Kh450.isLabel l)) H') := by
  refine own_ok D sc_is_label (fun _ _ _ _ h => by obtain ⟨_, _, rfl, _⟩ := h; rfl) (fun f cdv A outer s H vs Q E hr h => ⟨_, (pss_cons (ps_if (pt_not (pt_chain op_le op_le pe_int (pe_callB (kcall_len (K := K) rfl) (by rfl) n_len PySem.boot_len (pa_cons (pv 0) pa_nil)) (pe_cst (by rfl) c_LONGEST_LABEL))) (pss_one (ps_ret pe_bl)) pss_nil)
    (pss_one (ps_ret (pe_callB (kcr_all (K := K) rfl rfl) (by rfl) n_all (by decide +kernel) (pa_cons (pe_lc (own := [("byte", 1)]) (g := gName 1) (tt := tYes) rfl sc_is_label.nd (kpi_tup (K := K) rfl (pv 0)) (blkOk_by (N := ["text", "byte"]) (sc := defScope s_is_label) (by decide +kernel)) (fun _ _ _ _ _ => pg_name (i := 1) sc_is_label.nd rfl (Or.inl rfl)) (fun _ _ _ _ _ => pts_nil) (fun _ _ _ _ _ => (pe_own o_is_label_byte (hr.mono (by omega)) rfl pass0 (pa_cons (pv 1) pa_nil)))) pa_nil))))), ?_⟩)
  obtain ⟨v, l, rfl, ⟨a, rfl, ha⟩, q⟩ := h
  walk_at "sx"
  refine ⟨_, .inr (SqT.of ha), ?_⟩
  rw [List.length_map]
  by_cases h1 : 1 ≤ l.length
  · refine ite2 (fun _ => ?_) (fun z => absurd (decide_eq_true (by omega)) z)
    by_cases h2 : l.length ≤ 40
    · refine ite2 (fun z => by simp at z; omega) (fun _ => ?_)
      refine ⟨_, rfl, a, rfl, ⟨_, SqT.of ha⟩, fun F hF => lc_ofT (R := Nm) Bv (fun _ => true) Kh450.isLabelPart (fun H' s => SqT.of (s _ _ ha)) (Same.refl H) (paired_nV l) (by rw [List.length_map]; exact lt_line (by omega)) hF Nm.same Bv.same (fun _ => rfl) (fun c x G' H' hm e hx Q' k => k _ (Same.refl _)) (fun c x G' H' hm e hx _ Q' k => ?_) (fun G' H' ys e hFl gF hy => ?_)⟩
      · obtain rfl : x = _ := hx
        exact ⟨_, rfl, c, rfl, fun H4 s4 => k _ G' H4 ((Ext.refl e.sub).heap s4) rfl⟩
      · have hys := paired_Bv hy
        subst hys
        rw [List.filter_eq_self.mpr (fun _ _ => rfl)] at hFl
        refine ⟨F, _, rfl, SqL.of hFl, fin_bl ?_ (q H' e.same)⟩
        rw [List.all_map]
        cases l with
        | nil => simp at h1
        | cons x t =>
          simp [Kh450.isLabel]
          intro _ _
          simp only [List.length_cons] at h2
          omega
    · refine ite2 (fun _ => fin_bl ?_ (q H (Same.refl _))) (fun z => by simp at z; omega)
      simp [Kh450.isLabel, h2]
  · refine ite2 (fun z => by rw [decide_eq_true_eq] at z; omega) (fun _ => iteT (fin_bl ?_ (q H (Same.refl _))))
    cases l with
    | nil => rfl
    | cons x t => simp at h1

end
end Bt

namespace Bt
open PySem PySem.Spec PyProof.Rows L2
local macro_rules | `(tactic| walk_at "sx") => `(tactic| simp only [cxK, tTru, rLen, rListOf, rTupOf, tRet, tRetN, tChain, tRng, tCB, tCons, tNil, tC, tVar, tOp, tUn, tTest, tB, tAnd, tOr, tNot, tIfS, tSeq, tIf, tOrV, tAndV, tNotV, tCall, tSl, tPart, tNoPart, tLst, tTup, tBM, tBM0, rExtendS, iList, iTup, iSeqV, rIxL, rIxT, rSlL, rAppend, rExtend, rCat, rI0, rI, rIxS, rEq, rNe, rU, tAsg, gName, tDrop, tNext, scal, L2.start, List.map_cons, List.map_nil, List.length_cons, List.length_nil, Nat.reduceAdd, Nat.reduceSub, List.replicate_succ, List.replicate_zero, List.append_nil, List.cons_append, List.nil_append, List.getElem?_cons_zero, List.getElem?_cons_succ, Option.some.injEq, exists_eq_left', exists_eq_left, V.int.injEq, V.bl.injEq, V.str.injEq, V.ref.injEq, List.cons.injEq, and_true, true_and, exists_and_left, List.set_cons_zero, List.set_cons_succ, spN1_run, tFC, sFC, sFCAug, tMeth, tMake, sRaise, tErF, rAdd, rPop, tM1, tCallL, Option.some.injEq, HO.ins.injEq])
local macro_rules | `(tactic| walk_at "sm") => `(tactic| (repeat (first | exact Same.refl _ | assumption | (refine Same.trans ?_ (same_new (by assumption))) | (refine Same.trans ?_ (by assumption)))))
section
variable {P : Program} {w : World} {K : PySem.W.Frag} {mg : Str → Option Value} {base : Heap}
/-! ### expressions, asked -/
theorem at_zero {α : Type} (x : α) (l : List α) : atI (x :: l) 0 = some x := atI_nat (j := 0) rfl
theorem ex_kind {k : Str} {v : V} {p : Nat} : (exF k v p).lookup ("kind" : Str) = some (V.str k) := rfl
theorem ex_value {k : Str} {v : V} {p : Nat} : (exF k v p).lookup ("value" : Str) = some v := rfl
theorem ex_pos {k : Str} {v : V} {p : Nat} : (exF k v p).lookup ("position" : Str) = some (V.int (p : Int)) := rfl
/-- the symbol at a list's beginning, "" for none -/
def symName : Kh450.Node → List Nat
  | .list _ (.symbol _ t :: _) => t
  | _ => []
def spExp (CX : Addr) (n : Kh450.Node) (v : V) (H : Hp) : Prop := ExAt CX H n v
abbrev s_list_symbol : Stmt := top 54
theorem sc_list_symbol : FnScope ["expression", "first"] ["expression"] (defScope s_list_symbol) := ⟨rfl, rfl, rfl, by decide +kernel, rfl, by decide +kernel, by decide +kernel⟩
theorem ok_list_symbol {CX : Addr} (D : Dn K mg "list_symbol" s_list_symbol ["expression"]) (q_Expression_kind : Kf K CX "kind") (q_Expression_value : Kf K CX "value") :
    OwnOk P w K mg base CX0 1 "list_symbol" ["expression"] (fun vs H Q _ => ∃ (v : V) (n : Kh450.Node), vs = [v] ∧ ExAt CX H n v ∧ ∀ H', Same H H' → Q (.str ⟨(symName n).toArray⟩) H') := by
  refine own_ok D sc_list_symbol (fun _ _ _ _ h => by obtain ⟨_, _, rfl, _⟩ := h; rfl) (fun f cdv A outer s H vs Q E hr h => ⟨_, (pss_cons (ps_if (PW.pt (pw_or (pt_cmpR op_ne (pe_fc (K := K) rfl q_Expression_kind (pv 0)) pe_str (nomark _)) (pw_or1 (pt_not (kpt_truth (K := K) rfl (pe_fc (K := K) rfl q_Expression_value (pv 0))))))) (pss_one (ps_ret pe_str)) pss_nil)
    (pss_cons (ps_set (i := 1) sc_list_symbol.nd rfl (by first | exact Or.inl rfl | exact Or.inr rfl) (pe_ix (kix_list (K := K) rfl) (pe_fc (K := K) rfl q_Expression_value (pv 0)) pe_int (fun _ _ => rfl)))
    (pss_one (ps_ret (pe_ifExp (pt_cmpR op_eq (pe_fc (K := K) rfl q_Expression_kind (pv 1)) pe_str (nomark _)) (pe_fc (K := K) rfl q_Expression_value (pv 1)) pe_str))))), ?_⟩)
  obtain ⟨v, n, rfl, hx, q⟩ := h
  have q := q H (Same.refl H)
  walk_at "sx"
  cases n with
  | symbol p t =>
    obtain ⟨a, dx, rfl, h1⟩ := (by simpa only [ExAt] using hx)
    exact ⟨a, rfl, dx, _, h1, _, ex_kind, rfl, iteT q⟩
  | integer p t =>
    obtain ⟨a, dx, rfl, h1⟩ := (by simpa only [ExAt] using hx)
    exact ⟨a, rfl, dx, _, h1, _, ex_kind, rfl, iteT q⟩
  | string p t =>
    obtain ⟨a, dx, b, rfl, h1, h2⟩ := (by simpa only [ExAt] using hx)
    exact ⟨a, rfl, dx, _, h1, _, ex_kind, rfl, iteT q⟩
  | list p items =>
    obtain ⟨a, dx, b, vs, rfl, h1, h2, h3⟩ := (by simpa only [ExAt] using hx)
    refine ⟨a, rfl, dx, _, h1, _, ex_kind, rfl, ?_⟩
    refine iteF ⟨a, rfl, dx, _, h1, _, ex_value, _, truL (SqL.of h2), ?_⟩
    cases items with
    | nil =>
      have : vs = [] := by simpa only [ExsAt] using h3
      subst this
      exact iteT q
    | cons m r =>
      obtain ⟨v0, t, rfl, hm, h4⟩ := (by simpa only [ExsAt] using h3)
      refine iteF ⟨a, rfl, dx, _, h1, _, ex_value, b, rfl, _, SqL.of h2, v0, at_zero v0 t, ?_⟩
      cases m with
      | symbol p2 t2 =>
        obtain ⟨a1, dx1, rfl, hm1⟩ := (by simpa only [ExAt] using hm)
        exact ⟨a1, rfl, dx1, _, hm1, _, ex_kind, rfl, iteT ⟨a1, rfl, dx1, _, hm1, _, ex_value, q⟩⟩
      | integer p2 t2 =>
        obtain ⟨a1, dx1, rfl, hm1⟩ := (by simpa only [ExAt] using hm)
        exact ⟨a1, rfl, dx1, _, hm1, _, ex_kind, rfl, iteF q⟩
      | string p2 t2 =>
        obtain ⟨a1, dx1, b1, rfl, hm1, _⟩ := (by simpa only [ExAt] using hm)
        exact ⟨a1, rfl, dx1, _, hm1, _, ex_kind, rfl, iteF q⟩
      | list p2 t2 =>
        obtain ⟨a1, dx1, b1, vs1, rfl, hm1, _⟩ := (by simpa only [ExAt] using hm)
        exact ⟨a1, rfl, dx1, _, hm1, _, ex_kind, rfl, iteF q⟩
/-- begins_with_list(arguments) -/
def isListN : Kh450.Node → Bool
  | .list _ _ => true
  | _ => false
def headList : List Kh450.Node → Bool
  | [] => false
  | n :: _ => isListN n
abbrev s_begins_with_list : Stmt := top 66
theorem sc_begins_with_list : FnScope ["arguments"] ["arguments"] (defScope s_begins_with_list) := ⟨rfl, rfl, rfl, by decide +kernel, rfl, by decide +kernel, by decide +kernel⟩
theorem ok_begins_with_list {CX : Addr} (D : Dn K mg "begins_with_list" s_begins_with_list ["arguments"]) (n_len : mg "len" = none) (q_Expression_kind : Kf K CX "kind") :
    OwnOk P w K mg base CX0 1 "begins_with_list" ["arguments"] (fun vs H Q _ => ∃ (b : Addr) (xs : List V) (ns : List Kh450.Node), vs = [.ref b] ∧ H b = some (.lst xs) ∧ ExsAt CX H ns xs ∧ ∀ H', Same H H' → Q (.bl (headList ns)) H') := by
  refine own_ok D sc_begins_with_list (fun _ _ _ _ h => by obtain ⟨_, _, _, rfl, _⟩ := h; rfl) (fun f cdv A outer s H vs Q E hr h => ⟨_, (pss_one (ps_ret (pe_and (pe_cmpR op_gt (pe_callB (kcall_len (K := K) rfl) (by rfl) n_len PySem.boot_len (pa_cons (pv 0) pa_nil)) pe_int (nomark _)) (pe_one (pe_cmpR op_eq (pe_fc (K := K) rfl q_Expression_kind (pe_ix (kix_list (K := K) rfl) (pv 0) pe_int (fun _ _ => rfl))) pe_str (nomark _)))))), ?_⟩)
  obtain ⟨b, xs, ns, rfl, hb, hx, q⟩ := h
  have q := q H (Same.refl H)
  walk_at "sx"
  refine ⟨_, .inl (SqL.of hb), ?_⟩
  cases ns with
  | nil =>
    have : xs = [] := by simpa only [ExsAt] using hx
    subst this
    exact iteF q
  | cons m r =>
    obtain ⟨v0, t, rfl, hm, h4⟩ := (by simpa only [ExsAt] using hx)
    refine ite2 (fun _ => ?_) (fun z => absurd (decide_eq_true (by simp only [List.length_cons]; omega)) z)
    refine ⟨_, SqL.of hb, v0, at_zero v0 t, ?_⟩
    cases m with
    | symbol p2 t2 =>
      obtain ⟨a1, dx1, rfl, hm1⟩ := (by simpa only [ExAt] using hm)
      exact ⟨a1, rfl, dx1, _, hm1, _, ex_kind, rfl, q⟩
    | integer p2 t2 =>
      obtain ⟨a1, dx1, rfl, hm1⟩ := (by simpa only [ExAt] using hm)
      exact ⟨a1, rfl, dx1, _, hm1, _, ex_kind, rfl, q⟩
    | string p2 t2 =>
      obtain ⟨a1, dx1, b1, rfl, hm1, _⟩ := (by simpa only [ExAt] using hm)
      exact ⟨a1, rfl, dx1, _, hm1, _, ex_kind, rfl, q⟩
    | list p2 t2 =>
      obtain ⟨a1, dx1, b1, vs1, rfl, hm1, _⟩ := (by simpa only [ExAt] using hm)
      exact ⟨a1, rfl, dx1, _, hm1, _, ex_kind, rfl, q⟩

end
end Bt

namespace Bt
open PySem PySem.Spec PyProof.Rows L2
/-! written dicts with text keys, K by name -/
theorem kop_in_kd {X : Cx} {K : PySem.W.Frag} {w : World} {d : Addr} {es : Array DictEntry} {n : Nat} (h : X.K = K) (hw : X.w = w) (D : KDict K w d es n) : OpR X (compareOp .In) (fun x y H Q => ∃ (z : Str) (r : Option Value), x = .str z ∧ y = .ref d ∧ PySem.W.nsIn K d z = some r ∧ Q (.bl r.isSome) H) := by subst h hw; exact op_in_kd D
theorem kix_kd {X : Cx} {K : PySem.W.Frag} {w : World} (h : X.K = K) (hw : X.w = w) : IxR X (rIxD K w) := by subst h hw; exact ix_kdict
end Bt

namespace Bt
open PySem PySem.Spec PyProof.Rows L2
local macro_rules | `(tactic| walk_at "sx") => `(tactic| simp only [cxK, tTru, rLen, rListOf, rTupOf, tRet, tRetN, tChain, tRng, tCB, tCons, tNil, tC, tVar, tOp, tUn, tTest, tB, tAnd, tOr, tNot, tIfS, tSeq, tIf, tOrV, tAndV, tNotV, tCall, tSl, tPart, tNoPart, tLst, tTup, tBM, tBM0, rExtendS, iList, iTup, iSeqV, rIxL, rIxT, rSlL, rAppend, rExtend, rCat, rI0, rI, rIxS, rEq, rNe, rU, tAsg, gName, tDrop, tNext, scal, L2.start, List.map_cons, List.map_nil, List.length_cons, List.length_nil, Nat.reduceAdd, Nat.reduceSub, List.replicate_succ, List.replicate_zero, List.append_nil, List.cons_append, List.nil_append, List.getElem?_cons_zero, List.getElem?_cons_succ, Option.some.injEq, exists_eq_left', exists_eq_left, V.int.injEq, V.bl.injEq, V.str.injEq, V.ref.injEq, List.cons.injEq, and_true, true_and, exists_and_left, List.set_cons_zero, List.set_cons_succ, spN1_run, tFC, sFC, sFCAug, tMeth, tMake, sRaise, tErF, rAdd, rPop, tM1, tCallL, Option.some.injEq, HO.ins.injEq])
local macro_rules | `(tactic| walk_at "sm") => `(tactic| (repeat (first | exact Same.refl _ | assumption | (refine Same.trans ?_ (same_new (by assumption))) | (refine Same.trans ?_ (by assumption)))))
section
variable {P : Program} {w : World} {K : PySem.W.Frag} {mg : Str → Option Value} {base : Heap}
/-! ### shapes -/
def shF (Ld : Addr) (fo : Str) (le : Nat) : List (Str × V) := [("leading", .ref Ld), ("following", .str fo), ("least", .int (le : Int))]
theorem sh_lead {Ld : Addr} {fo : Str} {le : Nat} : (shF Ld fo le).lookup ("leading" : Str) = some (V.ref Ld) := rfl
theorem sh_foll {Ld : Addr} {fo : Str} {le : Nat} : (shF Ld fo le).lookup ("following" : Str) = some (V.str fo) := rfl
theorem sh_least {Ld : Addr} {fo : Str} {le : Nat} : (shF Ld fo le).lookup ("least" : Str) = some (V.int (le : Int)) := rfl
theorem sh_len {Ld : Addr} {fo : Str} {le : Nat} : (shF Ld fo le).length < 1000 := by simp [shF]
theorem sh_putF {Ld : Addr} {fo fo' : Str} {le : Nat} : putF "following" (.str fo') (shF Ld fo le) = shF Ld fo' le := rfl
theorem sh_putL {Ld : Addr} {fo : Str} {le : Nat} : putF "least" (.int ((le : Int) + 1)) (shF Ld fo le) = shF Ld fo (le + 1) := rfl
def lastOf (z : Str) : Nat := (z.cps.toList.getLast?).getD 0
def shStep (s : List Str × Str × Nat) (z : Str) : List Str × Str × Nat :=
  (if lastOf z = 42 ∨ lastOf z = 43 then s.1 else s.1 ++ [z], if lastOf z = 42 ∨ lastOf z = 43 then cutS z none (some (-1)) else s.2.1, if lastOf z = 42 then s.2.2 else s.2.2 + 1)
def shOf (ws : List Str) : List Str × Str × Nat := ws.foldl shStep ([], "", 0)
theorem shOf_snoc (ws : List Str) (z : Str) : shOf (ws ++ [z]) = shStep (shOf ws) z := by unfold shOf; rw [List.foldl_append]; rfl
theorem shOf_len (ws : List Str) : (shOf ws).1.length ≤ ws.length := by
  have : ∀ (ws : List Str) (s : List Str × Str × Nat), (ws.foldl shStep s).1.length ≤ s.1.length + ws.length := by
    intro ws
    induction ws with
    | nil => intro s; simp
    | cons z r ih =>
      intro s
      have h := ih (shStep s z)
      have h2 : (shStep s z).1.length ≤ s.1.length + 1 := by unfold shStep; simp only; split <;> simp
      simp only [List.foldl_cons, List.length_cons]; omega
  simpa [shOf] using this ws ([], "", 0)
theorem mem_star (c : Nat) : decide (c ∈ (Str.ofString "*+").cps.toList) = decide (c = 42 ∨ c = 43) := by
  have : (Str.ofString "*+").cps.toList = [42, 43] := by decide +kernel
  rw [this]
  exact dec_eq (by simp)
theorem star_eq (c : Nat) : decide ((⟨#[c]⟩ : Str) = Str.ofString "*") = decide (c = 42) := by
  have : Str.ofString "*" = ⟨#[42]⟩ := by decide +kernel
  rw [this]
  exact dec_eq (by simp)
/-- the object of a shape -/
structure ShAt (CS r dx Ld : Addr) (s : List Str × Str × Nat) (H : Hp) : Prop where
  at_ : H r = some (.ins CS dx (shF Ld s.2.1 s.2.2))
  lead : H Ld = some (.lst (s.1.map V.str))
def spIniSh (K : PySem.W.Frag) (CS : Addr) : Sp := fun vs H Q _ => ∃ r dx b ws, vs = [.ref r, .ref b] ∧ H r = some (.ins CS dx []) ∧ (∀ H', SqT K H' b (ws.map V.str)) ∧ ws.length ≤ 100 ∧ (∀ z ∈ ws, z.cps.toList ≠ [] ∧ z.length ≤ 100) ∧
  ∀ Ld H', But r H H' → H Ld = none → Ld ≠ r → ShAt CS r dx Ld (shOf ws) H' → Q .non H'
abbrev s_Shape_init : Stmt := inClass (top 43) 0
theorem sc_Shape_init : FnScope ["self", "words", "word"] ["self", "words"] (defScope s_Shape_init) := ⟨rfl, rfl, rfl, by decide +kernel, rfl, by decide +kernel, by decide +kernel⟩
theorem ok_Shape_init {CS : Addr} (D : DnI K mg "Shape" "Shape.__init__" CS s_Shape_init ["self", "words"]) (q_Shape_leading : Kf K CS "leading") (q_Shape_following : Kf K CS "following") (q_Shape_least : Kf K CS "least") :
    OwnI P w K mg base CX0 1 "Shape" CS ["self", "words"] (spIniSh K CS) := by
  refine ini_ok D sc_Shape_init (fun _ _ _ _ h => by obtain ⟨_, _, _, _, rfl, _⟩ := h; rfl) (fun f cdv A outer s H vs Q E hr h => ⟨_, (pss_cons (ps_fc (K := K) rfl q_Shape_leading (pv 0) (pe_lst pa_nil))
    (pss_cons (ps_fc (K := K) rfl q_Shape_following (pv 0) pe_str)
    (pss_cons (ps_fc (K := K) rfl q_Shape_least (pv 0) pe_int)
    (pss_one (ps_for PassesOwn.never rfl (kpi_tup (K := K) rfl (pv 1)) (pg_name (i := 2) sc_Shape_init.nd rfl (by first | exact Or.inl rfl | exact Or.inr rfl))
    (pss_cons (ps_if (pt_cmpR op_notInS (pe_ix ix_str (pv 2) (pe_un un_neg pe_int) (fun _ _ => rfl)) pe_str (by rfl)) (pss_one (ps_expr (kpe_bm (K := K) rfl PySem.F.plainAttrs_list PySem.F.slot_list_append PySem.F.type_list_append mt_append (pe_fc (K := K) rfl q_Shape_leading (pv 0)) (pa_cons (pv 2) pa_nil)))) (pss_one (ps_fc (K := K) rfl q_Shape_following (pv 0) (pe_slice sl_str (pv 2) po_none (po_some (pe_un un_neg pe_int))))))
    (pss_one (ps_if (pt_cmpR op_ne (pe_ix ix_str (pv 2) (pe_un un_neg pe_int) (fun _ _ => rfl)) pe_str (nomark _)) (pss_one (ps_fcaug (K := K) rfl q_Shape_least (pv 0) pe_int in_add)) pss_nil)))))))), ?_⟩)
  obtain ⟨r, dx, b, ws, rfl, hr0, hS, hlen, hz, q⟩ := h
  walk_at "sx"
  refine ⟨Nat.zero_le _, fun Ld hLd => ?_⟩
  have rL : r ≠ Ld := fun z => by rw [z, hLd] at hr0; cases hr0
  refine ⟨dx, [], (upd_ne rL).trans hr0, by simp, dx, _, upd_same, (put_len (n := 0) (Nat.le_refl _) (by decide)).2, dx, _, upd_same, (put_len (n := 1) (put_len (n := 0) (Nat.le_refl _) (by decide)).1 (by decide)).2, ?_⟩
  rw [upd_upd, upd_upd]
  have S0 : ShAt CS r dx Ld ([], "", 0) (upd (upd H Ld (.lst [])) r (.ins CS dx (putF "least" (.int 0) (putF "following" (.str "") (putF "leading" (.ref Ld) []))))) := ⟨upd_same, (upd_ne rL.symm).trans upd_same⟩
  have b0 : But r H (upd (upd H Ld (.lst [])) r (.ins CS dx (putF "least" (.int 0) (putF "following" (.str "") (putF "leading" (.ref Ld) []))))) := (But.refl.same (same_new hLd)).upd
  generalize upd (upd H Ld (.lst [])) r (.ins CS dx (putF "least" (.int 0) (putF "following" (.str "") (putF "leading" (.ref Ld) [])))) = H1 at S0 b0 ⊢
  refine ⟨_, rfl, b, rfl, ⟨_, hS _⟩, for_tup (xs := ws.map V.str) (fun j σ' H' => But r H H' ∧ ShAt CS r dx Ld (shOf (ws.take j)) H' ∧ ∃ x, σ' = [some (.ref r), some (.ref b), x]) ⟨b0, S0, _, rfl⟩ (fun j σ' H' _ _ => hS H') ?_ ?_⟩
  · rintro j x σ' H' hx ⟨bt, S, y, rfl⟩
    obtain ⟨z, hzj, rfl⟩ : ∃ z, ws[j]? = some z ∧ x = V.str z := by
      rw [List.getElem?_map] at hx
      cases e : ws[j]? with
      | none => rw [e] at hx; cases hx
      | some z => rw [e] at hx; cases hx; exact ⟨z, rfl, rfl⟩
    obtain ⟨zn, zl⟩ := hz z (List.mem_of_getElem? hzj)
    have hl : atI z.cps.toList (-1) = some (lastOf z) := by
      unfold lastOf
      rw [← List.dropLast_concat_getLast zn, atI_last]
      simp
    have hln := shOf_len (ws.take j)
    rw [List.length_take] at hln
    rw [take_at hzj, shOf_snoc]
    walk_at "sx"
    have zl' : z.length ≤ sizeLine := le_line (by omega)
    generalize hs0 : shOf (ws.take j) = s0 at S hln ⊢
    have hln' : (s0.1.map V.str).length < sizeLine := by rw [List.length_map]; exact lt_line (by omega)
    refine ⟨zl', _, hl, _, _, rfl, rfl, _, rfl, ?_⟩
    rw [mem_star]
    by_cases h1 : lastOf z = 42 ∨ lastOf z = 43
    · rw [decide_eq_true h1]
      refine iteF ⟨z, rfl, zl', dx, _, S.at_, sh_len, zl', _, hl, ?_⟩
      rw [star_eq]
      have S2 : ShAt CS r dx Ld (s0.1, cutS z none (some (-1)), s0.2.2) (upd H' r (.ins CS dx (putF "following" (.str (cutS z none (some (-1)))) (shF Ld s0.2.1 s0.2.2)))) := ⟨upd_same, (upd_ne rL.symm).trans S.lead⟩
      by_cases h2 : lastOf z = 42
      · rw [decide_eq_true h2]
        refine iteF ⟨bt.upd, ?_, _, rfl⟩
        unfold shStep
        rw [if_pos h1, if_pos h1, if_pos h2]
        exact S2
      · rw [decide_eq_false h2]
        refine iteT ⟨dx, _, upd_same, _, sh_least, _, rfl, dx, _, upd_same, sh_len, ?_⟩
        refine ⟨bt.upd.upd, ?_, _, rfl⟩
        unfold shStep
        rw [if_pos h1, if_pos h1, if_neg h2]
        exact ⟨upd_same, (upd_ne rL.symm).trans S2.lead⟩
    · rw [decide_eq_false h1]
      have h2 : ¬ lastOf z = 42 := fun e => h1 (.inl e)
      refine iteT ⟨dx, _, S.at_, _, sh_lead, tyL (SqL.of S.lead), Ld, rfl, _, S.lead, hln', zl', _, hl, ?_⟩
      rw [star_eq, decide_eq_false h2]
      have bt2 : But r H (upd H' Ld (.lst (s0.1.map V.str ++ [V.str z]))) := fun c o n hc => (upd_ne (ne_of_none hc hLd)).trans (bt c o n hc)
      have hr2 : upd H' Ld (.lst (s0.1.map V.str ++ [V.str z])) r = some (.ins CS dx (shF Ld s0.2.1 s0.2.2)) := (upd_ne rL).trans S.at_
      refine iteT ⟨dx, _, hr2, _, sh_least, _, rfl, dx, _, hr2, sh_len, bt2.upd, ?_, _, rfl⟩
      unfold shStep
      rw [if_neg h1, if_neg h1, if_neg h2]
      refine ⟨upd_same, (upd_ne rL.symm).trans ?_⟩
      rw [upd_same, List.map_append]
      rfl
  · rintro σ' H' ⟨bt, S, y, rfl⟩
    rw [List.length_map, List.take_length] at S
    exact q Ld H' bt hLd rL.symm S
/-- what a shape says of a number of arguments -/
def shFits (s : List Str × Str × Nat) (m : Nat) : Bool := decide (m = s.2.2) || (decide (s.2.2 < m) && !decide (s.2.1 = ""))
abbrev s_Shape_allows_number : Stmt := inClass (top 43) 1
theorem sc_Shape_allows_number : FnScope ["self", "number"] ["self", "number"] (defScope s_Shape_allows_number) := ⟨rfl, rfl, rfl, by decide +kernel, rfl, by decide +kernel, by decide +kernel⟩
theorem ok_Shape_allows_number {CS : Addr} (DD : DnM K CS "allows_number" "Shape.allows_number" s_Shape_allows_number ["self", "number"]) (q_Shape_following : Kf K CS "following") (q_Shape_least : Kf K CS "least") :
    OwnM P w K mg base CX0 1 CS "allows_number" ["self", "number"] (fun vs H Q _ => ∃ r dx Ld s m, vs = [.ref r, .int ((m : Nat) : Int)] ∧ ShAt CS r dx Ld s H ∧ ∀ H', Same H H' → Q (.bl (shFits s m)) H') := by
  refine mth_ok DD sc_Shape_allows_number (fun _ _ _ _ h => by obtain ⟨_, _, _, _, _, rfl, _⟩ := h; rfl) (fun f cdv A outer s H vs Q E hr h => ⟨_, (pss_one (ps_ret (pe_or (pe_cmpR op_eq (pv 1) (pe_fc (K := K) rfl q_Shape_least (pv 0)) (nomark _)) (pe_one (pe_and (pe_cmpR op_gt (pv 1) (pe_fc (K := K) rfl q_Shape_least (pv 0)) (nomark _)) (pe_one (pe_cmpR op_ne (pe_fc (K := K) rfl q_Shape_following (pv 0)) pe_str (nomark _)))))))), ?_⟩)
  obtain ⟨r, dx, Ld, s, m, rfl, S, q⟩ := h
  have q := q H (Same.refl H)
  unfold shFits at q
  walk_at "sx"
  refine ⟨dx, _, S.at_, _, sh_least, rfl, ?_⟩
  by_cases h1 : m = s.2.2
  · rw [decide_eq_true h1] at q
    exact ite2 (fun _ => q) (fun z => absurd (decide_eq_true (by rw [h1])) z)
  · rw [decide_eq_false h1] at q
    refine ite2 (fun z => by rw [decide_eq_true_eq] at z; injection z with z; omega) (fun _ => ?_)
    refine ⟨dx, _, S.at_, _, sh_least, _, rfl, ?_⟩
    by_cases h2 : s.2.2 < m
    · rw [decide_eq_true h2] at q
      refine ite2 (fun _ => ⟨dx, _, S.at_, _, sh_foll, rfl, fin_bl ?_ q⟩) (fun z => absurd (decide_eq_true (by omega)) z)
      simp
    · rw [decide_eq_false h2] at q
      exact ite2 (fun z => by rw [decide_eq_true_eq] at z; omega) (fun _ => q)
/-- a written table of words by text -/
structure Tb (K : PySem.W.Frag) (w : World) (d : Addr) (es : Array DictEntry) (n : Nat) (tb : List (Str × List Str)) : Prop where
  kd : KDict K w d es n
  get : ∀ z, match tb.lookup z with
    | some ws => (∃ a, PySem.W.nsIn K d z = some (some (.ref a)) ∧ ∀ H, SqT K H a (ws.map V.str)) ∧ ws.length ≤ 100 ∧ ∀ y ∈ ws, y.cps.toList ≠ [] ∧ y.length ≤ 100
    | none => PySem.W.nsIn K d z = some none
/-- a shape by a symbol -/
def spShape (CS : Addr) (tb : List (Str × List Str)) : Sp := fun vs H Q _ => ∃ z, vs = [.str z] ∧ match tb.lookup z with
  | none => ∀ H', Same H H' → Q .non H'
  | some ws => ∀ r dx Ld H', Same H H' → H r = none → H Ld = none → ShAt CS r dx Ld (shOf ws) H' → Q (.ref r) H'
theorem shape_made {w : World} {CS d : Addr} {es : Array DictEntry} {n : Nat} {tb : List (Str × List Str)} {z : Str} {H : Hp} {Q : VK} (T : Tb K w d es n tb) (q : match tb.lookup z with
    | none => ∀ H', Same H H' → Q .non H'
    | some ws => ∀ r dx Ld H', Same H H' → H r = none → H Ld = none → ShAt CS r dx Ld (shOf ws) H' → Q (.ref r) H') (ws : List Str) (e : tb.lookup z = some ws) :
    rIxD K w (V.ref d) (V.str z) H fun x H1 => ∀ (x_1 dx : Addr), H1 x_1 = none → H1 dx = none → dx ≠ x_1 → spIniSh K CS [V.ref x_1, x] (upd (upd H1 dx (HO.own x_1)) x_1 (HO.ins CS dx [])) (fun v H2 => v = V.non ∧ Q (V.ref x_1) H2) E0 := by
  have g := T.get z
  rw [e] at g q
  obtain ⟨⟨a, hn, hS⟩, hlen, hw⟩ := g
  refine ⟨d, z, .ref a, rfl, rfl, ⟨es, n, .ref a, T.kd.at_, T.kd.lit, hn, rfl⟩, fun r dx hr hd ne => ⟨r, dx, a, ws, rfl, upd_same, hS, hlen, hw, fun Ld H' b hL nr S => ⟨rfl, ?_⟩⟩⟩
  have s0 : Same H (upd (upd H dx (HO.own r)) r (HO.ins CS dx [])) := (same_new hd).trans (same_new ((upd_ne ne.symm).trans hr))
  exact q r dx Ld H' (fun c o h => b c o (ne_of_none h hr) (s0 c o h)) hr (s0.free hL) S
abbrev s_block_shape : Stmt := top 44
theorem sc_block_shape : FnScope ["symbol"] ["symbol"] (defScope s_block_shape) := ⟨rfl, rfl, rfl, by decide +kernel, rfl, by decide +kernel, by decide +kernel⟩
theorem ok_block_shape {CS d : Addr} {es : Array DictEntry} {n : Nat} {tb : List (Str × List Str)} (D : Dn K mg "block_shape" s_block_shape ["symbol"]) (T : Tb K w d es n tb) (c_BLOCKS : IsC mg "BLOCKS" (.ref d)) (k_Shape : OwnI P w K mg base CX0 1 "Shape" CS ["self", "words"] (spIniSh K CS)) :
    OwnOk P w K mg base CX0 3 "block_shape" ["symbol"] (spShape CS tb) := by
  have kd_BLOCKS := T.kd
  refine own_ok D sc_block_shape (fun _ _ _ _ h => by obtain ⟨_, rfl, _⟩ := h; rfl) (fun f cdv A outer s H vs Q E hr h => ⟨_, (pss_one (ps_ret (pe_ifExp (pt_cmpR (kop_in_kd (K := K) (w := w) rfl rfl kd_BLOCKS) (pv 0) (pe_cst (by rfl) c_BLOCKS) (by rfl)) (pe_new k_Shape (hr.mono (by omega)) rfl pass0 (pa_cons (pe_ix (kix_kd (K := K) (w := w) rfl rfl) (pe_cst (by rfl) c_BLOCKS) (pv 0) (fun _ _ => rfl)) pa_nil)) pe_non))), ?_⟩)
  obtain ⟨z, rfl, q⟩ := h
  have g := T.get z
  walk_at "sx"
  have mk := shape_made (K := K) (w := w) (d := d) (Q := Q) T q
  cases e : tb.lookup z with
  | none =>
    rw [e] at g q
    exact ⟨none, g, iteF (q H (Same.refl H))⟩
  | some ws =>
    have g' := g
    rw [e] at g'
    obtain ⟨⟨a, hn, _⟩, _⟩ := g'
    exact ⟨some (.ref a), hn, iteT (mk ws e)⟩
abbrev s_inline_shape : Stmt := top 45
theorem sc_inline_shape : FnScope ["symbol"] ["symbol"] (defScope s_inline_shape) := ⟨rfl, rfl, rfl, by decide +kernel, rfl, by decide +kernel, by decide +kernel⟩
theorem ok_inline_shape {CS d : Addr} {es : Array DictEntry} {n : Nat} {tb : List (Str × List Str)} (D : Dn K mg "inline_shape" s_inline_shape ["symbol"]) (T : Tb K w d es n tb) (c_INLINES : IsC mg "INLINES" (.ref d)) (k_Shape : OwnI P w K mg base CX0 1 "Shape" CS ["self", "words"] (spIniSh K CS)) :
    OwnOk P w K mg base CX0 3 "inline_shape" ["symbol"] (spShape CS tb) := by
  have kd_INLINES := T.kd
  refine own_ok D sc_inline_shape (fun _ _ _ _ h => by obtain ⟨_, rfl, _⟩ := h; rfl) (fun f cdv A outer s H vs Q E hr h => ⟨_, (pss_one (ps_ret (pe_ifExp (pt_cmpR (kop_in_kd (K := K) (w := w) rfl rfl kd_INLINES) (pv 0) (pe_cst (by rfl) c_INLINES) (by rfl)) (pe_new k_Shape (hr.mono (by omega)) rfl pass0 (pa_cons (pe_ix (kix_kd (K := K) (w := w) rfl rfl) (pe_cst (by rfl) c_INLINES) (pv 0) (fun _ _ => rfl)) pa_nil)) pe_non))), ?_⟩)
  obtain ⟨z, rfl, q⟩ := h
  have g := T.get z
  walk_at "sx"
  have mk := shape_made (K := K) (w := w) (d := d) (Q := Q) T q
  cases e : tb.lookup z with
  | none =>
    rw [e] at g q
    exact ⟨none, g, iteF (q H (Same.refl H))⟩
  | some ws =>
    have g' := g
    rw [e] at g'
    obtain ⟨⟨a, hn, _⟩, _⟩ := g'
    exact ⟨some (.ref a), hn, iteT (mk ws e)⟩
abbrev s_part_shape : Stmt := top 46
theorem sc_part_shape : FnScope ["symbol"] ["symbol"] (defScope s_part_shape) := ⟨rfl, rfl, rfl, by decide +kernel, rfl, by decide +kernel, by decide +kernel⟩
theorem ok_part_shape {CS d : Addr} {es : Array DictEntry} {n : Nat} {tb : List (Str × List Str)} (D : Dn K mg "part_shape" s_part_shape ["symbol"]) (T : Tb K w d es n tb) (c_PARTS : IsC mg "PARTS" (.ref d)) (k_Shape : OwnI P w K mg base CX0 1 "Shape" CS ["self", "words"] (spIniSh K CS)) :
    OwnOk P w K mg base CX0 3 "part_shape" ["symbol"] (fun vs H Q E => (∃ z ws, vs = [.str z] ∧ tb.lookup z = some ws) ∧ spShape CS tb vs H Q E) := by
  refine own_ok D sc_part_shape (fun _ _ _ _ h => by obtain ⟨⟨_, _, rfl, _⟩, _⟩ := h; rfl) (fun f cdv A outer s H vs Q E hr h => ⟨_, (pss_one (ps_ret (pe_new k_Shape (hr.mono (by omega)) rfl pass0 (pa_cons (pe_ix (kix_kd (K := K) (w := w) rfl rfl) (pe_cst (by rfl) c_PARTS) (pv 0) (fun _ _ => rfl)) pa_nil)))), ?_⟩)
  obtain ⟨⟨z, ws, rfl, e⟩, z', e0, q⟩ := h
  injection e0 with e0 _
  injection e0 with e0
  subst e0
  have mk := shape_made (K := K) (w := w) (d := d) (Q := Q) T q
  walk_at "sx"
  exact mk ws e

end
end Bt

namespace Bt
open PySem PySem.Spec PyProof.Rows L2
local macro_rules | `(tactic| walk_at "sx") => `(tactic| simp only [cxK, tTru, rLen, rListOf, rTupOf, tRet, tRetN, tChain, tRng, tCB, tCons, tNil, tC, tVar, tOp, tUn, tTest, tB, tAnd, tOr, tNot, tIfS, tSeq, tIf, tOrV, tAndV, tNotV, tCall, tSl, tPart, tNoPart, tLst, tTup, tBM, tBM0, rExtendS, iList, iTup, iSeqV, rIxL, rIxT, rSlL, rAppend, rExtend, rCat, rI0, rI, rIxS, rEq, rNe, rU, tAsg, gName, tDrop, tNext, scal, L2.start, List.map_cons, List.map_nil, List.length_cons, List.length_nil, Nat.reduceAdd, Nat.reduceSub, List.replicate_succ, List.replicate_zero, List.append_nil, List.cons_append, List.nil_append, List.getElem?_cons_zero, List.getElem?_cons_succ, Option.some.injEq, exists_eq_left', exists_eq_left, V.int.injEq, V.bl.injEq, V.str.injEq, V.ref.injEq, List.cons.injEq, and_true, true_and, exists_and_left, List.set_cons_zero, List.set_cons_succ, spN1_run, tFC, sFC, sFCAug, tMeth, tMake, sRaise, tErF, rAdd, rPop, tM1, tCallL, Option.some.injEq, HO.ins.injEq])
local macro_rules | `(tactic| walk_at "sm") => `(tactic| (repeat (first | exact Same.refl _ | assumption | (refine Same.trans ?_ (same_new (by assumption))) | (refine Same.trans ?_ (by assumption)))))
section
variable {P : Program} {w : World} {K : PySem.W.Frag} {mg : Str → Option Value} {base : Heap}
/-! ### arguments that are no lists -/
def ErrG (CE : Addr) (H : Hp) (E : XK) (y : Nat × Nat) : Prop := ∀ H' d, Same H H' → H' d = none → E (.ref CE) (some d) (upd H' d (.xd [("position", .int ((y.2 : Nat) : Int)), ("kind", .int ((y.1 : Nat) : Int)), ("code", .int (-20))]))
/-- the record of an expression: its kind, its value, its place -/
def kindOf : Kh450.Node → Str
  | .symbol _ _ => "symbol"
  | .integer _ _ => "integer"
  | .string _ _ => "string"
  | .list _ _ => "list"
theorem ExAt.rec' {CX : Addr} {H : Hp} {n : Kh450.Node} {v : V} (h : ExAt CX H n v) : ∃ a dx x, v = .ref a ∧ H a = some (.ins CX dx (exF (kindOf n) x n.position)) := by
  cases n with
  | symbol p t => obtain ⟨a, dx, e, h⟩ := (by simpa only [ExAt] using h); exact ⟨a, dx, _, e, h⟩
  | integer p t => obtain ⟨a, dx, e, h⟩ := (by simpa only [ExAt] using h); exact ⟨a, dx, _, e, h⟩
  | string p t => obtain ⟨a, dx, b, e, h, _⟩ := (by simpa only [ExAt] using h); exact ⟨a, dx, _, e, h⟩
  | list p t => obtain ⟨a, dx, b, vs, e, h, _⟩ := (by simpa only [ExAt] using h); exact ⟨a, dx, _, e, h⟩
abbrev s_is_level : Stmt := top 61
theorem sc_is_level : FnScope ["number"] ["number"] (defScope s_is_level) := ⟨rfl, rfl, rfl, by decide +kernel, rfl, by decide +kernel, by decide +kernel⟩
theorem ok_is_level (D : Dn K mg "is_level" s_is_level ["number"]) (c_HIGHEST_LEVEL : IsC mg "HIGHEST_LEVEL" (.int 6)) : OwnOk P w K mg base CX0 1 "is_level" ["number"] (sp1B fun i => decide (1 ≤ i ∧ i ≤ 6)) := by
  refine own_ok D sc_is_level (fun _ _ _ _ h => len1B h) (fun f cdv A outer s H vs Q E hr h => ⟨_, (pss_one (ps_ret (pe_rng pe_int (pv 0) (pe_cst (by rfl) c_HIGHEST_LEVEL) (mono := mono_var)))), ?_⟩)
  obtain ⟨i, rfl, q⟩ := h
  have q := q H (Same.refl H)
  walk_at "sx"
  first
    | exact ⟨_, rfl, fin_bl (by rw [Bool.eq_iff_iff]; simp) q⟩
    | (refine fin_bl ?_ q; rw [Bool.eq_iff_iff]; simp)
    | (refine ite2 (fun h => ?_) (fun h => ?_)
       · rw [decide_eq_true_eq] at h
         refine fin_bl ?_ q
         rw [Bool.eq_iff_iff]; simp; omega
       · refine fin_bl ?_ q
         rw [Bool.eq_iff_iff]; simp at h ⊢; omega)
abbrev s_read_level : Stmt := top 62
theorem sc_read_level : FnScope ["expression"] ["expression"] (defScope s_read_level) := ⟨rfl, rfl, rfl, by decide +kernel, rfl, by decide +kernel, by decide +kernel⟩
theorem ok_read_level {CX CE : Addr} {ps : List Str} (D : Dn K mg "read_level" s_read_level ["expression"]) (o_is_level : OwnOk P w K mg base CX0 1 "is_level" ["number"] (sp1B fun i => decide (1 ≤ i ∧ i ≤ 6))) (q_Expression_value : Kf K CX "value") (q_Expression_position : Kf K CX "position") (x_NotationError : OwnX P w K mg base 2 "NotationError" CE 2 neF ps) :
    OwnOk P w K mg base (L2.CX P w) 4 "read_level" ["expression"] (fun vs H Q E => ∃ v p n, vs = [v] ∧ ExAt CX H (.integer p n) v ∧ if n < 1 ∨ 6 < n then ErrG CE H E (9, p) else ∀ H', Same H H' → Q (.int ((n : Nat) : Int)) H') := by
  refine own_okX D sc_read_level (fun _ _ _ _ h => by obtain ⟨_, _, _, rfl, _⟩ := h; rfl) (fun f cdv A outer s H vs Q E hr h => ⟨_, (pss_cons (ps_if (pt_not (pt_val (pe_own o_is_level (hr.mono (by omega)) rfl pass0 (pa_cons (pe_fc (K := K) rfl q_Expression_value (pv 0)) pa_nil)))) (pss_one (ps_raiseN x_NotationError (hr.mono (by omega)) (by rfl) rfl (L2.takes_of rfl rfl rfl rfl) (pa_cons pe_int (pa_cons (pe_fc (K := K) rfl q_Expression_position (pv 0)) pa_nil)))) pss_nil)
    (pss_one (ps_ret (pe_fc (K := K) rfl q_Expression_value (pv 0))))), ?_⟩)
  obtain ⟨v, p, n, rfl, hx, q⟩ := h
  obtain ⟨a, dx, rfl, h1⟩ := (by simpa only [ExAt] using hx)
  walk_at "sx"
  refine ⟨dx, _, h1, _, ex_value, _, rfl, fun H1 s1 => ?_⟩
  by_cases hc : n < 1 ∨ 6 < n
  · rw [if_pos hc] at q
    exact ⟨_, rfl, ite2 (fun _ => ⟨dx, _, s1 _ _ h1, _, ex_pos, _, _, ⟨rfl, rfl⟩, fun dE hd => q H1 dE s1 hd⟩) (fun z => by simp at z; omega)⟩
  · rw [if_neg hc] at q
    exact ⟨_, rfl, ite2 (fun z => by simp at z; omega) (fun _ => ⟨dx, _, s1 _ _ h1, _, ex_value, q H1 s1⟩)⟩
theorem str_codes1 : Str.ofString "none" = ⟨(Kh450.codesOf "none").toArray⟩ ∧ Str.ofString "left" = ⟨(Kh450.codesOf "left").toArray⟩ ∧ Str.ofString "center" = ⟨(Kh450.codesOf "center").toArray⟩ ∧ Str.ofString "right" = ⟨(Kh450.codesOf "right").toArray⟩ := by decide +kernel
theorem str_eq_list (a b : List Nat) : ((⟨a.toArray⟩ : Str) = ⟨b.toArray⟩) ↔ a = b := ⟨fun h => congrArg (fun x : Str => x.cps.toList) h, fun h => by rw [h]⟩
theorem al_in (t : List Nat) : inV (V.str ⟨t.toArray⟩) [V.str (Str.ofString "none"), V.str (Str.ofString "left"), V.str (Str.ofString "center"), V.str (Str.ofString "right")] = decide (t = Kh450.codesOf "none" ∨ t = Kh450.codesOf "left" ∨ t = Kh450.codesOf "center" ∨ t = Kh450.codesOf "right") := by
  obtain ⟨e1, e2, e3, e4⟩ := str_codes1
  rw [e1, e2, e3, e4]
  have eqS : ∀ a b : List Nat, ((⟨a.toArray⟩ : Str) == ⟨b.toArray⟩) = decide (a = b) := fun a b => SX.S_beq_eq
  simp only [inV, List.any_cons, List.any_nil, eqV, Bool.or_false, eqS]
  rw [Bool.eq_iff_iff]
  simp only [Bool.or_eq_true, decide_eq_true_eq]
  exact ⟨fun h => h.imp Eq.symm fun h => h.imp Eq.symm fun h => h.imp Eq.symm Eq.symm, fun h => h.imp Eq.symm fun h => h.imp Eq.symm fun h => h.imp Eq.symm Eq.symm⟩
abbrev s_read_alignment : Stmt := top 63
theorem sc_read_alignment : FnScope ["expression"] ["expression"] (defScope s_read_alignment) := ⟨rfl, rfl, rfl, by decide +kernel, rfl, by decide +kernel, by decide +kernel⟩
theorem ok_read_alignment {CX CE al : Addr} {ps : List Str} (D : Dn K mg "read_alignment" s_read_alignment ["expression"]) (c_ALIGNMENTS : IsC mg "ALIGNMENTS" (.ref al)) (hal : ∀ H, SqT K H al [.str "none", .str "left", .str "center", .str "right"]) (q_Expression_kind : Kf K CX "kind") (q_Expression_value : Kf K CX "value") (q_Expression_position : Kf K CX "position") (x_NotationError : OwnX P w K mg base 2 "NotationError" CE 2 neF ps) :
    OwnOk P w K mg base (L2.CX P w) 4 "read_alignment" ["expression"] (fun vs H Q E => ∃ v n, vs = [v] ∧ ExAt CX H n v ∧ match n with
      | .symbol p t => if t = Kh450.codesOf "none" ∨ t = Kh450.codesOf "left" ∨ t = Kh450.codesOf "center" ∨ t = Kh450.codesOf "right" then Q (.str ⟨t.toArray⟩) H else ErrG CE H E (9, p)
      | n => ErrG CE H E (8, n.position)) := by
  refine own_okX D sc_read_alignment (fun _ _ _ _ h => by obtain ⟨_, _, rfl, _⟩ := h; rfl) (fun f cdv A outer s H vs Q E hr h => ⟨_, (pss_cons (ps_if (pt_cmpR op_ne (pe_fc (K := K) rfl q_Expression_kind (pv 0)) pe_str (nomark _)) (pss_one (ps_raiseN x_NotationError (hr.mono (by omega)) (by rfl) rfl (L2.takes_of rfl rfl rfl rfl) (pa_cons pe_int (pa_cons (pe_fc (K := K) rfl q_Expression_position (pv 0)) pa_nil)))) pss_nil)
    (pss_cons (ps_if (pt_cmpR (kop_notIn (K := K) rfl) (pe_fc (K := K) rfl q_Expression_value (pv 0)) (pe_cst (by rfl) c_ALIGNMENTS) (by rfl)) (pss_one (ps_raiseN x_NotationError (hr.mono (by omega)) (by rfl) rfl (L2.takes_of rfl rfl rfl rfl) (pa_cons pe_int (pa_cons (pe_fc (K := K) rfl q_Expression_position (pv 0)) pa_nil)))) pss_nil)
    (pss_one (ps_ret (pe_fc (K := K) rfl q_Expression_value (pv 0)))))), ?_⟩)
  obtain ⟨v, n, rfl, hx, q⟩ := h
  obtain ⟨a, dx, x, rfl, h1⟩ := hx.rec'
  walk_at "sx"
  refine ⟨dx, _, h1, _, ex_kind, rfl, ?_⟩
  have err : (∀ p t, n ≠ .symbol p t) → ∃ x x_1, H a = some (HO.ins CX x x_1) ∧ ∃ x, List.lookup (Str.ofString "position") x_1 = some x ∧ ∃ x_2 y, (V.int 8 = x_2 ∧ x = y) ∧ ∀ (d : Addr), H d = none → E (Value.ref CE) (some d) (upd H d (HO.xd [(Str.ofString "position", y), (Str.ofString "kind", x_2), (Str.ofString "code", V.int (-20))])) := fun z => by
    refine ⟨dx, _, h1, _, ex_pos, _, _, ⟨rfl, rfl⟩, fun dE hd => ?_⟩
    cases n with
    | symbol p t => exact absurd rfl (z p t)
    | integer p t => exact q H dE (Same.refl H) hd
    | string p t => exact q H dE (Same.refl H) hd
    | list p t => exact q H dE (Same.refl H) hd
  cases n with
  | integer p t => exact iteT (err fun _ _ z => by cases z)
  | string p t => exact iteT (err fun _ _ z => by cases z)
  | list p t => exact iteT (err fun _ _ z => by cases z)
  | symbol p t =>
    obtain ⟨a', dx', e', h1'⟩ := (by simpa only [ExAt] using hx)
    cases e'
    refine iteF ⟨dx', _, h1', _, ex_value, ?_⟩
    refine ⟨al, _, rfl, .inr (hal H), rfl, rfl, _, rfl, ?_⟩
    rw [if_pos rfl, al_in]
    by_cases hz : t = Kh450.codesOf "none" ∨ t = Kh450.codesOf "left" ∨ t = Kh450.codesOf "center" ∨ t = Kh450.codesOf "right"
    · simp only [if_pos hz] at q
      rw [decide_eq_true hz]
      exact iteF ⟨dx', _, h1', _, ex_value, q⟩
    · simp only [if_neg hz] at q
      rw [decide_eq_false hz]
      exact iteT ⟨dx', _, h1', _, ex_pos, _, _, ⟨rfl, rfl⟩, fun dE hd => q H dE (Same.refl H) hd⟩
abbrev s_read_string : Stmt := top 60
theorem sc_read_string : FnScope ["kind", "expression", "text"] ["kind", "expression"] (defScope s_read_string) := ⟨rfl, rfl, rfl, by decide +kernel, rfl, by decide +kernel, by decide +kernel⟩
theorem ok_read_string {CX CE : Addr} {ps : List Str} (D : Dn K mg "read_string" s_read_string ["kind", "expression"]) (n_len : mg "len" = none) (o_is_label : OwnOk P w K mg base CX0 4 "is_label" ["text"] (fun vs H Q _ => ∃ (v : V) (l : List Nat), vs = [v] ∧ Tp l v H ∧ ∀ H', Same H H' → Q (.bl (Kh450.isLabel l)) H'))
    (q_Expression_kind : Kf K CX "kind") (q_Expression_value : Kf K CX "value") (q_Expression_position : Kf K CX "position") (x_NotationError : OwnX P w K mg base 2 "NotationError" CE 2 neF ps) :
    OwnOk P w K mg base (L2.CX P w) 5 "read_string" ["kind", "expression"] (fun vs H Q E => ∃ G k v n, vs = [.str k, v] ∧ Same G H ∧ ExAt CX G n v ∧ match n with
      | .string p t => if k = "text" ∨ Kh450.isLabel (Kh450.encodeAll t) = true ∨ (k = "identifier" ∧ Kh450.encodeAll t = []) then ∀ b H', Same H H' → G b = some (.tup (nV (Kh450.encodeAll t))) → Q (.ref b) H' else ErrG CE H E (9, p)
      | n => ErrG CE H E (8, n.position)) := by
  refine own_okX D sc_read_string (fun _ _ _ _ h => by obtain ⟨_, _, _, _, rfl, _⟩ := h; rfl) (fun f cdv A outer s H vs Q E hr h => ⟨_, (pss_cons (ps_if (pt_cmpR op_ne (pe_fc (K := K) rfl q_Expression_kind (pv 1)) pe_str (nomark _)) (pss_one (ps_raiseN x_NotationError (hr.mono (by omega)) (by rfl) rfl (L2.takes_of rfl rfl rfl rfl) (pa_cons pe_int (pa_cons (pe_fc (K := K) rfl q_Expression_position (pv 1)) pa_nil)))) pss_nil)
    (pss_cons (ps_set (i := 2) sc_read_string.nd rfl (by first | exact Or.inl rfl | exact Or.inr rfl) (pe_fc (K := K) rfl q_Expression_value (pv 1)))
    (pss_cons (ps_if (PW.pt (pw_or (pt_cmpR op_eq (pv 0) pe_str (nomark _)) (pw_or (pt_val (pe_own o_is_label (hr.mono (by omega)) rfl pass0 (pa_cons (pv 2) pa_nil))) (pw_or1 (PW.pt (pw_and (pt_cmpR op_eq (pv 0) pe_str (nomark _)) (pw_and1 (pt_cmpR op_eq (pe_callB (kcall_len (K := K) rfl) (by rfl) n_len PySem.boot_len (pa_cons (pv 2) pa_nil)) pe_int (nomark _))))))))) (pss_one (ps_ret (pv 2))) pss_nil)
    (pss_one (ps_raiseN x_NotationError (hr.mono (by omega)) (by rfl) rfl (L2.takes_of rfl rfl rfl rfl) (pa_cons pe_int (pa_cons (pe_fc (K := K) rfl q_Expression_position (pv 1)) pa_nil))))))), ?_⟩)
  obtain ⟨G, k, v, n, rfl, sG, hxG, q⟩ := h
  have hx := ExAt.same sG _ _ hxG
  obtain ⟨a, dx, x, rfl, h1⟩ := hx.rec'
  walk_at "sx"
  refine ⟨dx, _, h1, _, ex_kind, rfl, ?_⟩
  have err : (∀ p t, n ≠ .string p t) → ∃ x x_1, H a = some (HO.ins CX x x_1) ∧ ∃ x, List.lookup (Str.ofString "position") x_1 = some x ∧ ∃ x_2 y, (V.int 8 = x_2 ∧ x = y) ∧ ∀ (d : Addr), H d = none → E (Value.ref CE) (some d) (upd H d (HO.xd [(Str.ofString "position", y), (Str.ofString "kind", x_2), (Str.ofString "code", V.int (-20))])) := fun z => by
    refine ⟨dx, _, h1, _, ex_pos, _, _, ⟨rfl, rfl⟩, fun dE hd => ?_⟩
    cases n with
    | string p t => exact absurd rfl (z p t)
    | integer p t => exact q H dE (Same.refl H) hd
    | symbol p t => exact q H dE (Same.refl H) hd
    | list p t => exact q H dE (Same.refl H) hd
  cases n with
  | integer p t => exact iteT (err fun _ _ z => by cases z)
  | symbol p t => exact iteT (err fun _ _ z => by cases z)
  | list p t => exact iteT (err fun _ _ z => by cases z)
  | string p t =>
    obtain ⟨a', dx', b, e', h1G, hbG⟩ := (by simpa only [ExAt] using hxG)
    cases e'
    have h1' := sG _ _ h1G
    have hb := sG _ _ hbG
    refine iteF ⟨dx', _, h1', _, ex_value, ?_⟩
    have bad : ∀ H', Same H H' → ¬ (k = "text" ∨ Kh450.isLabel (Kh450.encodeAll t) = true ∨ (k = "identifier" ∧ Kh450.encodeAll t = [])) → ∃ x x_1, H' a = some (HO.ins CX x x_1) ∧ ∃ x, List.lookup (Str.ofString "position") x_1 = some x ∧ ∃ x_2 y, (V.int 9 = x_2 ∧ x = y) ∧ ∀ (d : Addr), H' d = none → E (Value.ref CE) (some d) (upd H' d (HO.xd [(Str.ofString "position", y), (Str.ofString "kind", x_2), (Str.ofString "code", V.int (-20))])) := fun H' s' z => by
      simp only [if_neg z] at q
      exact ⟨dx', _, s' _ _ h1', _, ex_pos, _, _, ⟨rfl, rfl⟩, fun dE hd => q H' dE s' hd⟩
    have good : ∀ H', Same H H' → (k = "text" ∨ Kh450.isLabel (Kh450.encodeAll t) = true ∨ (k = "identifier" ∧ Kh450.encodeAll t = [])) → Q (.ref b) H' := fun H' s' z => by
      simp only [if_pos z] at q
      exact q b H' s' hbG
    refine ite2 (fun h => ?_) (fun h => ⟨Kh450.encodeAll t, ⟨b, rfl, hb⟩, fun H' s' => ite2 (fun hl => ?_) (fun hl => ite2 (fun hi => ?_) (fun hi => ?_))⟩)
    · rw [decide_eq_true_eq] at h
      rw [if_pos trivial]
      exact good H (Same.refl H) (.inl h)
    · rw [if_pos trivial]
      exact good H' s' (.inr (.inl hl))
    · rw [decide_eq_true_eq] at hi
      refine ⟨b, rfl, _, .inr (SqT.of (s' _ _ hb)), ?_⟩
      rw [List.length_map]
      refine ite2 (fun h0 => ?_) (fun h0 => ?_)
      · rw [decide_eq_true_eq] at h0
        exact good H' s' (.inr (.inr ⟨hi, List.eq_nil_of_length_eq_zero (by omega)⟩))
      · rw [decide_eq_true_eq] at h0 h
        exact bad H' s' (fun z => z.elim h fun z => z.elim hl fun z => h0 (by rw [z.2]; rfl))
    · rw [decide_eq_true_eq] at hi h
      refine iteF ?_
      exact bad H' s' (fun z => z.elim h fun z => z.elim hl fun z => hi z.1)
theorem cut_tail (v : V) (t : List V) : cutV (v :: t) (some 1) none = t := by
  unfold cutV
  rw [show (some (1 : Int)) = some ((1 : Nat) : Int) from rfl, HT.sIx_nat]
  show ((v :: t).drop (min 1 (t.length + 1))).take ((t.length + 1) - min 1 (t.length + 1)) = t
  rw [show min 1 (t.length + 1) = 1 by omega]
  simp
abbrev s_require_part : Stmt := top 65
theorem sc_require_part : FnScope ["symbol", "expression"] ["symbol", "expression"] (defScope s_require_part) := ⟨rfl, rfl, rfl, by decide +kernel, rfl, by decide +kernel, by decide +kernel⟩
theorem ok_require_part {CX CE : Addr} {ps : List Str} (D : Dn K mg "require_part" s_require_part ["symbol", "expression"]) (o_list_symbol : OwnOk P w K mg base CX0 1 "list_symbol" ["expression"] (fun vs H Q _ => ∃ (v : V) (n : Kh450.Node), vs = [v] ∧ ExAt CX H n v ∧ ∀ H', Same H H' → Q (.str ⟨(symName n).toArray⟩) H'))
    (o_begins_with_list : OwnOk P w K mg base CX0 1 "begins_with_list" ["arguments"] (fun vs H Q _ => ∃ (b : Addr) (xs : List V) (ns : List Kh450.Node), vs = [.ref b] ∧ H b = some (.lst xs) ∧ ExsAt CX H ns xs ∧ ∀ H', Same H H' → Q (.bl (headList ns)) H'))
    (q_Expression_value : Kf K CX "value") (q_Expression_position : Kf K CX "position") (x_NotationError : OwnX P w K mg base 2 "NotationError" CE 2 neF ps) :
    OwnOk P w K mg base (L2.CX P w) 4 "require_part" ["symbol", "expression"] (fun vs H Q E => ∃ z v n, vs = [.str ⟨(z : List Nat).toArray⟩, v] ∧ z ≠ [] ∧ ExAt CX H n v ∧ match n with
      | .list p (.symbol _ t :: args) => if t = z ∧ (z = Kh450.codesOf "term" → headList args = true) then ∀ H', Same H H' → Q .non H' else ErrG CE H E (8, p)
      | n => ErrG CE H E (8, n.position)) := by
  refine own_okX D sc_require_part (fun _ _ _ _ h => by obtain ⟨_, _, _, rfl, _⟩ := h; rfl) (fun f cdv A outer s H vs Q E hr h => ⟨_, (pss_cons (ps_if (pt_cmpR op_ne (pe_own o_list_symbol (hr.mono (by omega)) rfl pass0 (pa_cons (pv 1) pa_nil)) (pv 0) (nomark _)) (pss_one (ps_raiseN x_NotationError (hr.mono (by omega)) (by rfl) rfl (L2.takes_of rfl rfl rfl rfl) (pa_cons pe_int (pa_cons (pe_fc (K := K) rfl q_Expression_position (pv 1)) pa_nil)))) pss_nil)
    (pss_one (ps_if (PW.pt (pw_and (pt_cmpR op_eq (pv 0) pe_str (nomark _)) (pw_and1 (pt_not (pt_val (pe_own o_begins_with_list (hr.mono (by omega)) rfl pass0 (pa_cons (pe_slice (ksl_list (K := K) rfl) (pe_fc (K := K) rfl q_Expression_value (pv 1)) (po_some pe_int) po_none) pa_nil))))))) (pss_one (ps_raiseN x_NotationError (hr.mono (by omega)) (by rfl) rfl (L2.takes_of rfl rfl rfl rfl) (pa_cons pe_int (pa_cons (pe_fc (K := K) rfl q_Expression_position (pv 1)) pa_nil)))) pss_nil))), ?_⟩)
  obtain ⟨z, v, n, rfl, hz, hx, q⟩ := h
  walk_at "sx"
  obtain ⟨a, dx, x, rfl, h1⟩ := hx.rec'
  have err : ErrG CE H E (8, n.position) → ∀ H', Same H H' → ∃ a', V.ref a = V.ref a' ∧ ∃ x x_1, H' a' = some (HO.ins CX x x_1) ∧ ∃ x, List.lookup (Str.ofString "position") x_1 = some x ∧ ∃ x_2 y, (V.int 8 = x_2 ∧ x = y) ∧ ∀ (d : Addr), H' d = none → E (Value.ref CE) (some d) (upd H' d (HO.xd [(Str.ofString "position", y), (Str.ofString "kind", x_2), (Str.ofString "code", V.int (-20))])) :=
    fun z H' s' => ⟨a, rfl, dx, _, s' _ _ h1, _, ex_pos, _, _, ⟨rfl, rfl⟩, fun dE hd => z H' dE s' hd⟩
  refine ⟨n, hx, fun H1 s1 => ?_⟩
  have eqS : decide ((⟨(symName n).toArray⟩ : Str) = ⟨z.toArray⟩) = decide (symName n = z) := dec_eq (str_eq_list _ _)
  have term_is : Str.ofString "term" = ⟨(Kh450.codesOf "term").toArray⟩ := by decide +kernel
  have eqT : decide ((⟨z.toArray⟩ : Str) = Str.ofString "term") = decide (z = Kh450.codesOf "term") := by rw [term_is]; exact dec_eq (str_eq_list _ _)
  rw [eqS, eqT]
  by_cases e : symName n = z
  · rw [decide_eq_true e]
    refine iteF ?_
    obtain ⟨p, p0, args, hn⟩ : ∃ p p0 args, n = .list p (.symbol p0 z :: args) := by
      cases n with
      | symbol p t => exact absurd e.symm hz
      | integer p t => exact absurd e.symm hz
      | string p t => exact absurd e.symm hz
      | list p items =>
        cases items with
        | nil => exact absurd e.symm hz
        | cons m r =>
          cases m with
          | symbol p0 t => exact ⟨p, p0, r, by rw [← e]; rfl⟩
          | integer p t => exact absurd e.symm hz
          | string p t => exact absurd e.symm hz
          | list p t => exact absurd e.symm hz
    subst hn
    obtain ⟨a2, dx2, b, vs, e2, h2, h3, h4⟩ := (by simpa only [ExAt] using hx)
    cases e2
    obtain ⟨v0, t, rfl, hm, h5⟩ := (by simpa only [ExsAt] using h4)
    refine ite2 (fun ht => ?_) (fun ht => ?_)
    · rw [decide_eq_true_eq] at ht
      refine ⟨a, rfl, dx2, _, s1 _ _ h2, _, ex_value, b, rfl, _, SqL.of (s1 _ _ h3), fun c hc => ?_⟩
      have s2 := s1.trans (same_new (o := .lst t) hc)
      rw [cut_tail]
      refine ⟨_, upd_same, args, ExsAt.same s2 _ _ h5, fun H2 s3 => ?_⟩
      cases hl : headList args with
      | true =>
        have : z = z ∧ (z = Kh450.codesOf "term" → headList args = true) := ⟨rfl, fun _ => hl⟩
        dsimp only at q; rw [if_pos this] at q
        exact iteF (q H2 (s2.trans s3))
      | false =>
        have : ¬ (z = z ∧ (z = Kh450.codesOf "term" → headList args = true)) := fun w => by have := w.2 ht; rw [hl] at this; cases this
        dsimp only at q; rw [if_neg this] at q
        exact iteT (err q H2 (s2.trans s3))
    · rw [decide_eq_true_eq] at ht
      have : z = z ∧ (z = Kh450.codesOf "term" → headList args = true) := ⟨rfl, fun w => absurd w ht⟩
      dsimp only at q; rw [if_pos this] at q
      exact iteF (q H1 s1)
  · rw [decide_eq_false e]
    refine iteT (err ?_ H1 s1)
    cases n with
    | symbol p t => exact q
    | integer p t => exact q
    | string p t => exact q
    | list p items =>
      cases items with
      | nil => exact q
      | cons m r =>
        cases m with
        | symbol p0 t =>
          have : ¬ (t = z ∧ (z = Kh450.codesOf "term" → headList r = true)) := fun w => e w.1
          dsimp only at q; rw [if_neg this] at q
          exact q
        | integer p t => exact q
        | string p t => exact q
        | list p t => exact q

end
end Bt

namespace Bt
open PySem PySem.Spec PyProof.Rows L2
local macro_rules | `(tactic| walk_at "sx") => `(tactic| simp only [cxK, tTru, rLen, rListOf, rTupOf, tRet, tRetN, tChain, tRng, tCB, tCons, tNil, tC, tVar, tOp, tUn, tTest, tB, tAnd, tOr, tNot, tIfS, tSeq, tIf, tOrV, tAndV, tNotV, tCall, tSl, tPart, tNoPart, tLst, tTup, tBM, tBM0, rExtendS, iList, iTup, iSeqV, rIxL, rIxT, rSlL, rAppend, rExtend, rCat, rI0, rI, rIxS, rEq, rNe, rU, tAsg, gName, tDrop, tNext, scal, L2.start, List.map_cons, List.map_nil, List.length_cons, List.length_nil, Nat.reduceAdd, Nat.reduceSub, List.replicate_succ, List.replicate_zero, List.append_nil, List.cons_append, List.nil_append, List.getElem?_cons_zero, List.getElem?_cons_succ, Option.some.injEq, exists_eq_left', exists_eq_left, V.int.injEq, V.bl.injEq, V.str.injEq, V.ref.injEq, List.cons.injEq, and_true, true_and, exists_and_left, List.set_cons_zero, List.set_cons_succ, spN1_run, tFC, sFC, sFCAug, tMeth, tMake, sRaise, tErF, rAdd, rPop, tM1, tCallL, Option.some.injEq, HO.ins.injEq])
local macro_rules | `(tactic| walk_at "sm") => `(tactic| (repeat (first | exact Same.refl _ | assumption | (refine Same.trans ?_ (same_new (by assumption))) | (refine Same.trans ?_ (by assumption)))))
section
variable {P : Program} {w : World} {K : PySem.W.Frag} {mg : Str → Option Value} {base : Heap}
/-! ### the program's nodes as they lie -/
inductive Arg where
  | text (l : List Nat)
  | int (n : Nat)
  | sym (t : List Nat)
  | node (symbol : List Nat) (head children : List Arg) (holds : Str)
def ndF (s : Str) (h c : V) (ho : Str) : List (Str × V) := [("symbol", .str s), ("head", h), ("children", c), ("holds", .str ho)]
mutual
def ArgAt (CN : Addr) (H : Hp) : Arg → V → Prop
  | .text l, v => ∃ b, v = .ref b ∧ H b = some (.tup (nV l))
  | .int n, v => v = .int (n : Int)
  | .sym t, v => v = .str ⟨t.toArray⟩
  | .node s h c ho, v => ∃ a dx hb cb hv cv, v = .ref a ∧ H a = some (.ins CN dx (ndF ⟨s.toArray⟩ (.ref hb) (.ref cb) ho)) ∧ H hb = some (.lst hv) ∧ H cb = some (.lst cv) ∧ ArgsAt CN H h hv ∧ ArgsAt CN H c cv
def ArgsAt (CN : Addr) (H : Hp) : List Arg → List V → Prop
  | [], vs => vs = []
  | n :: r, vs => ∃ v t, vs = v :: t ∧ ArgAt CN H n v ∧ ArgsAt CN H r t
end
mutual
theorem ArgAt.same {CN : Addr} {H H' : Hp} (s : Same H H') : ∀ (n : Arg) (v : V), ArgAt CN H n v → ArgAt CN H' n v
  | .text l, v, h => by
    obtain ⟨b, e, q⟩ := (by simpa only [ArgAt] using h)
    simp only [ArgAt]
    exact ⟨b, e, s _ _ q⟩
  | .int n, v, h => by simpa only [ArgAt] using h
  | .sym n, v, h => by simpa only [ArgAt] using h
  | .node z h' c ho, v, h => by
    obtain ⟨a, dx, hb, cb, hv, cv, e, q1, q2, q3, q4, q5⟩ := (by simpa only [ArgAt] using h)
    simp only [ArgAt]
    exact ⟨a, dx, hb, cb, hv, cv, e, s _ _ q1, s _ _ q2, s _ _ q3, ArgsAt.same s h' hv q4, ArgsAt.same s c cv q5⟩
theorem ArgsAt.same {CN : Addr} {H H' : Hp} (s : Same H H') : ∀ (ns : List Arg) (vs : List V), ArgsAt CN H ns vs → ArgsAt CN H' ns vs
  | [], vs, h => by simpa only [ArgsAt] using h
  | n :: r, vs, h => by
    obtain ⟨v, t, e, q, q2⟩ := (by simpa only [ArgsAt] using h)
    simp only [ArgsAt]
    exact ⟨v, t, e, ArgAt.same s n v q, ArgsAt.same s r t q2⟩
end
theorem ArgsAt.paired {CN : Addr} {H : Hp} : ∀ {ns : List Arg} {vs : List V}, Paired (fun n v => ArgAt CN H n v) ns vs → ArgsAt CN H ns vs
  | _, _, .nil => by simp only [ArgsAt]
  | _, _, .cons e t => by simp only [ArgsAt]; exact ⟨_, _, rfl, e, ArgsAt.paired t⟩
abbrev s_Node_init : Stmt := inClass (top 37) 0
theorem sc_Node_init : FnScope ["self", "symbol", "head", "children", "holds"] ["self", "symbol", "head", "children", "holds"] (defScope s_Node_init) := ⟨rfl, rfl, rfl, by decide +kernel, rfl, by decide +kernel, by decide +kernel⟩
theorem ok_Node_init {CN : Addr} (D : DnI K mg "Node" "Node.__init__" CN s_Node_init ["self", "symbol", "head", "children", "holds"]) (q_Node_symbol : Kf K CN "symbol") (q_Node_head : Kf K CN "head") (q_Node_children : Kf K CN "children") (q_Node_holds : Kf K CN "holds") :
    OwnI P w K mg base CX0 1 "Node" CN ["self", "symbol", "head", "children", "holds"] (fun vs H Q _ => ∃ a dx s h c ho, vs = [.ref a, .str s, h, c, .str ho] ∧ H a = some (.ins CN dx []) ∧ Q .non (upd H a (.ins CN dx (ndF s h c ho)))) := by
  refine ini_ok D sc_Node_init (fun _ _ _ _ h => by obtain ⟨_, _, _, _, _, _, rfl, _⟩ := h; rfl) (fun f cdv A outer s H vs Q E hr h => ⟨_, (pss_cons (ps_fc (K := K) rfl q_Node_symbol (pv 0) (pv 1))
    (pss_cons (ps_fc (K := K) rfl q_Node_head (pv 0) (pv 2))
    (pss_cons (ps_fc (K := K) rfl q_Node_children (pv 0) (pv 3))
    (pss_one (ps_fc (K := K) rfl q_Node_holds (pv 0) (pv 4)))))), ?_⟩)
  obtain ⟨a, dx, z, h, c, ho, rfl, ha, q⟩ := h
  walk_at "sx"
  have l1 := (put_len (f := "symbol") (v := .str z) (fs := []) (n := 0) (Nat.le_refl _) (by decide))
  have l2 := put_len (f := "head") (v := h) (n := 1) l1.1 (by decide)
  have l3 := put_len (f := "children") (v := c) (n := 2) l2.1 (by decide)
  refine ⟨dx, [], ha, by simp, dx, _, upd_same, l1.2, dx, _, upd_same, l2.2, dx, _, upd_same, l3.2, ?_⟩
  rw [upd_upd, upd_upd, upd_upd]
  exact q

end
end Bt

namespace Bt
open PySem PySem.Spec PyProof.Rows L2
local macro_rules | `(tactic| walk_at "sx") => `(tactic| simp only [cxK, tTru, rLen, rListOf, rTupOf, tRet, tRetN, tChain, tRng, tCB, tCons, tNil, tC, tVar, tOp, tUn, tTest, tB, tAnd, tOr, tNot, tIfS, tSeq, tIf, tOrV, tAndV, tNotV, tCall, tSl, tPart, tNoPart, tLst, tTup, tBM, tBM0, rExtendS, iList, iTup, iSeqV, rIxL, rIxT, rSlL, rAppend, rExtend, rCat, rI0, rI, rIxS, rEq, rNe, rU, tAsg, gName, tDrop, tNext, scal, L2.start, List.map_cons, List.map_nil, List.length_cons, List.length_nil, Nat.reduceAdd, Nat.reduceSub, List.replicate_succ, List.replicate_zero, List.append_nil, List.cons_append, List.nil_append, List.getElem?_cons_zero, List.getElem?_cons_succ, Option.some.injEq, exists_eq_left', exists_eq_left, V.int.injEq, V.bl.injEq, V.str.injEq, V.ref.injEq, List.cons.injEq, and_true, true_and, exists_and_left, List.set_cons_zero, List.set_cons_succ, spN1_run, tFC, sFC, sFCAug, tMeth, tMake, sRaise, tErF, rAdd, rPop, tM1, tCallL, Option.some.injEq, HO.ins.injEq])
local macro_rules | `(tactic| walk_at "sm") => `(tactic| (repeat (first | exact Same.refl _ | assumption | (refine Same.trans ?_ (same_new (by assumption))) | (refine Same.trans ?_ (by assumption)))))
section
variable {P : Program} {w : World} {K : PySem.W.Frag} {mg : Str → Option Value} {base : Heap}
/-! ### the reading of documents, as the program does it (to be held against the specification's) -/
abbrev RA := Except (Nat × Nat) Arg
def BLt : List (Str × List Str) := [("para", ["inline*"]), ("heading", ["level", "identifier", "inline*"]), ("code", ["identifier", "text"]), ("formula", ["identifier", "text"]), ("rule", []), ("quote", ["block*"]), ("bullets", ["item+"]), ("numbers", ["number", "item+"]), ("terms", ["term+"]),
  ("table", ["identifier", "caption", "align", "row+"]), ("figure", ["identifier", "text", "inline*"]), ("group", ["class", "block*"]), ("note", ["label", "block*"])]
def ILt : List (Str × List Str) := [("code", ["text"]), ("math", ["text"]), ("break", []), ("noteref", ["label"]), ("ref", ["label"]), ("cite", ["label+"]), ("emph", ["inline*"]), ("strong", ["inline*"]), ("strike", ["inline*"]), ("super", ["inline*"]), ("sub", ["inline*"]), ("caps", ["inline*"]),
  ("link", ["text", "inline*"]), ("image", ["text", "inline*"]), ("span", ["class", "inline*"])]
def PTt : List (Str × List Str) := [("item", ["block*"]), ("term", ["inlines", "block*"]), ("caption", ["inline*"]), ("align", ["alignment*"]), ("row", ["cell*"]), ("cell", ["inline*"]), ("class", ["label*"])]
abbrev Shp := List Str × Str × Nat
/-- a list's arguments: what stands behind its symbol -/
def argsOf : Kh450.Node → List Kh450.Node
  | .list _ items => items.drop 1
  | _ => []
def itemsOf : Kh450.Node → List Kh450.Node
  | .list _ items => items
  | _ => []
def isInt : Kh450.Node → Bool
  | .integer _ _ => true
  | _ => false
def needsInt (s : Shp) : Bool := match s.1 with
  | k :: _ => decide (k = "level" ∨ k = "number")
  | [] => false
def rdStr (k : Str) : Kh450.Node → RA
  | .string p t => if k = "text" ∨ Kh450.isLabel (Kh450.encodeAll t) = true ∨ (k = "identifier" ∧ Kh450.encodeAll t = []) then .ok (.text (Kh450.encodeAll t)) else .error (9, p)
  | n => .error (8, n.position)
def rdLevel : Kh450.Node → RA
  | .integer p n => if n < 1 ∨ 6 < n then .error (9, p) else .ok (.int n)
  | n => .error (8, n.position)
def rdStart : Kh450.Node → RA
  | .integer _ n => .ok (.int n)
  | n => .error (8, n.position)
def rdAlign : Kh450.Node → RA
  | .symbol p t => if t = Kh450.codesOf "none" ∨ t = Kh450.codesOf "left" ∨ t = Kh450.codesOf "center" ∨ t = Kh450.codesOf "right" then .ok (.sym t) else .error (9, p)
  | n => .error (8, n.position)
def childrenOf : Arg → List Arg
  | .node _ _ c _ => c
  | _ => []
section
variable (rl : Shp → Kh450.Node → RA)
def rdShaped (sh : Option (List Str)) (n : Kh450.Node) : RA := match sh with
  | none => .error (7, n.position)
  | some ws => if shFits (shOf ws) (argsOf n).length = false then .error (8, n.position)
    else if needsInt (shOf ws) = true ∧ (argsOf n).head?.all isInt = false then .error (8, n.position) else rl (shOf ws) n
def rdBlock (n : Kh450.Node) : RA := rdShaped rl (BLt.lookup ⟨(symName n).toArray⟩) n
def rdInline (n : Kh450.Node) : RA := match n with
  | .string _ t => .ok (.text (Kh450.encodeAll t))
  | n => rdShaped rl (ILt.lookup ⟨(symName n).toArray⟩) n
def partOk (z : List Nat) (n : Kh450.Node) : Bool := match n with
  | .list _ (.symbol _ t :: args) => decide (t = z) && (!decide (z = Kh450.codesOf "term") || headList args)
  | _ => false
def rdPart (z : List Nat) (n : Kh450.Node) : RA := if partOk z n = true then (rl (shOf ((PTt.lookup ⟨z.toArray⟩).getD [])) n).bind fun part =>
    if z = Kh450.codesOf "align" ∧ childrenOf part = [] then .error (8, n.position) else .ok part
  else .error (8, n.position)
def rdRow (cols : Nat) (n : Kh450.Node) : RA := if partOk (Kh450.codesOf "row") n = true then (if (argsOf n).length = cols then rdPart rl (Kh450.codesOf "row") n else .error (9, n.position)) else .error (8, n.position)
def rdArgument (k : Str) (n : Kh450.Node) : RA :=
  if k = "block" then rdBlock rl n else if k = "inline" then rdInline rl n
  else if k = "inlines" then (Kh450.collect (rdInline rl) (itemsOf n)).map fun c => .node [] [] c "inline"
  else if k = "text" ∨ k = "identifier" ∨ k = "label" then rdStr k n
  else if k = "level" then rdLevel n else if k = "number" then rdStart n else if k = "alignment" then rdAlign n
  else rdPart rl k.cps.toList n
end
def rdList : Nat → Shp → Kh450.Node → RA
  | 0, _, n => .error (7, n.position)
  | j + 1, s, n => (Kh450.collect (fun y : Str × Kh450.Node => rdArgument (rdList j) y.1 y.2) (s.1.zip (argsOf n))).bind fun head =>
    (if s.2.1 = "row" then Kh450.collect (rdRow (rdList j) ((head.getLast?.map childrenOf).getD []).length) ((argsOf n).drop head.length)
     else Kh450.collect (rdArgument (rdList j) s.2.1) ((argsOf n).drop head.length)).map fun c => .node (symName n) head c s.2.1
/-- the whole -/
def rdDoc (d : List Nat) : Except (Nat × Nat) (List Arg) := match Kh450.readAll d with
  | .error k rest => .error (k, d.length - rest.length)
  | .ok ns _ => Kh450.collect (rdBlock (rdList 16)) ns

end
end Bt

namespace Bt
open PySem PySem.Spec PyProof.Rows L2
local macro_rules | `(tactic| walk_at "sx") => `(tactic| simp only [cxK, tTru, rLen, rListOf, rTupOf, tRet, tRetN, tChain, tRng, tCB, tCons, tNil, tC, tVar, tOp, tUn, tTest, tB, tAnd, tOr, tNot, tIfS, tSeq, tIf, tOrV, tAndV, tNotV, tCall, tSl, tPart, tNoPart, tLst, tTup, tBM, tBM0, rExtendS, iList, iTup, iSeqV, rIxL, rIxT, rSlL, rAppend, rExtend, rCat, rI0, rI, rIxS, rEq, rNe, rU, tAsg, gName, tDrop, tNext, scal, L2.start, List.map_cons, List.map_nil, List.length_cons, List.length_nil, Nat.reduceAdd, Nat.reduceSub, List.replicate_succ, List.replicate_zero, List.append_nil, List.cons_append, List.nil_append, List.getElem?_cons_zero, List.getElem?_cons_succ, Option.some.injEq, exists_eq_left', exists_eq_left, V.int.injEq, V.bl.injEq, V.str.injEq, V.ref.injEq, List.cons.injEq, and_true, true_and, exists_and_left, List.set_cons_zero, List.set_cons_succ, spN1_run, tFC, sFC, sFCAug, tMeth, tMake, sRaise, tErF, rAdd, rPop, tM1, tCallL, Option.some.injEq, HO.ins.injEq])
local macro_rules | `(tactic| walk_at "sm") => `(tactic| (repeat (first | exact Same.refl _ | assumption | (refine Same.trans ?_ (same_new (by assumption))) | (refine Same.trans ?_ (by assumption)))))
section
variable {P : Program} {w : World} {K : PySem.W.Frag} {mg : Str → Option Value} {base : Heap}
/-! ### lists read by their shapes -/
def Rs (CN CE : Addr) (G H : Hp) (Q : VK) (E : XK) : RA → Prop
  | .error y => ErrG CE H E y
  | .ok x => ∀ v G' H', Ext G H G' H' → ArgAt CN G' x v → Q v H'
theorem ErrG.go {CE : Addr} {H H1 : Hp} {E : XK} {y : Nat × Nat} (e : ErrG CE H E y) (s : Same H H1) : ErrG CE H1 E y := fun H' d s' => e H' d (s.trans s')
theorem Rs.go {CN CE : Addr} {G H H1 : Hp} {Q : VK} {E : XK} {x : RA} (sG : Same G H) (r : Rs CN CE G H Q E x) (s : Same H H1) : Rs CN CE G H1 Q E x := by
  cases x with
  | error y => exact ErrG.go r s
  | ok a => exact fun v G' H' e h => r v G' H' (((Ext.refl sG).heap s).trans e) h
/-- which arguments may stand where -/
structure KdOk (k : Str) (n : Kh450.Node) : Prop where
  inl : k = "inlines" → isListN n = true
  int : k = "level" ∨ k = "number" → isInt n = true
  part : ¬ (k = "block" ∨ k = "inline" ∨ k = "inlines" ∨ k = "text" ∨ k = "identifier" ∨ k = "label" ∨ k = "level" ∨ k = "number" ∨ k = "alignment") → PTt.lookup k ≠ none
/-- what a list's shape asks of its arguments -/
structure RlOk (s : Shp) (n : Kh450.Node) : Prop where
  head : ∀ y ∈ s.1.zip (argsOf n), KdOk y.1 y.2
  rest : ∀ m ∈ (argsOf n).drop s.1.length, KdOk s.2.1 m
  row : s.2.1 = "row" → s.1.getLast? = some "align" ∧ s.1.length ≤ (argsOf n).length
def kdFlat (k : Str) : Bool := decide (k ≠ "inlines" ∧ k ≠ "level" ∧ k ≠ "number") && (decide (k = "block" ∨ k = "inline" ∨ k = "text" ∨ k = "identifier" ∨ k = "label" ∨ k = "alignment") || (PTt.lookup k).isSome)
theorem kdFlat_ok {k : Str} (h : kdFlat k = true) (n : Kh450.Node) : KdOk k n := by
  simp only [kdFlat, Bool.and_eq_true, Bool.or_eq_true, decide_eq_true_eq] at h
  obtain ⟨⟨h1, h2, h3⟩, h4⟩ := h
  refine ⟨fun z => absurd z h1, fun z => ?_, fun z => ?_⟩
  · rcases z with z | z
    · exact absurd z h2
    · exact absurd z h3
  · rcases h4 with h4 | h4
    · exact absurd (by rcases h4 with h | h | h | h | h | h <;> simp [h]) z
    · intro e; rw [e] at h4; cases h4
/-- a written shape: numbers stand first alone -/
def wsOk (ws : List Str) : Bool := let s := shOf ws
  (match s.1 with
    | k :: r => (kdFlat k || decide (k = "level" ∨ k = "number")) && r.all kdFlat
    | [] => true) && (decide (s.2.1 = "" ∧ s.2.2 ≤ s.1.length) || kdFlat s.2.1) && (!decide (s.2.1 = "row") || decide (s.1.getLast? = some "align"))
theorem isInt_ok {k : Str} (h : k = "level" ∨ k = "number") {m : Kh450.Node} (hi : isInt m = true) : KdOk k m := by
  refine ⟨fun z => ?_, fun _ => hi, fun z => absurd (by rcases h with h | h <;> simp [h]) z⟩
  rcases h with h | h <;> rw [h] at z <;> exact absurd z (by decide +kernel)
theorem rlOk_of {ws : List Str} {n : Kh450.Node} (hw : wsOk ws = true) (hf : shFits (shOf ws) (argsOf n).length = true) (hle : (shOf ws).1.length ≤ (argsOf n).length) (hi : ¬ (needsInt (shOf ws) = true ∧ (argsOf n).head?.all isInt = false)) : RlOk (shOf ws) n := by
  unfold wsOk at hw
  generalize shOf ws = s at *
  obtain ⟨ld, fo, le⟩ := s
  simp only [Bool.and_eq_true, Bool.or_eq_true, decide_eq_true_eq, Bool.not_eq_true', decide_eq_false_iff_not] at hw
  obtain ⟨⟨h1, h2⟩, h3⟩ := hw
  refine ⟨?_, fun m hm => ?_, fun z => ?_⟩
  · cases ld with
    | nil => intro y hy; simp at hy
    | cons k r =>
      simp only [Bool.and_eq_true, Bool.or_eq_true, decide_eq_true_eq, List.all_eq_true] at h1
      cases ha : argsOf n with
      | nil => intro y hy; simp at hy
      | cons m ms =>
        intro y hy
        have hy : y ∈ (k, m) :: r.zip ms := hy
        rw [List.mem_cons] at hy
        rcases hy with rfl | hy
        · rcases h1.1 with h | h
          · exact kdFlat_ok h _
          · refine isInt_ok h ?_
            have hn : needsInt (k :: r, fo, le) = true := decide_eq_true h
            rw [ha] at hi
            cases hm : isInt m with
            | true => rfl
            | false => exact absurd ⟨hn, by simp [hm]⟩ hi
        · exact kdFlat_ok (h1.2 _ (List.of_mem_zip hy).1) _
  · rcases h2 with ⟨h, h'⟩ | h
    · have e : (argsOf n).drop ld.length = [] := by
        refine List.drop_eq_nil_of_le ?_
        simp only [shFits, Bool.or_eq_true, Bool.and_eq_true, decide_eq_true_eq, h] at hf
        rcases hf with hf | hf
        · omega
        · simp at hf
      rw [e] at hm; cases hm
    · exact kdFlat_ok h _
  · rcases h3 with h | h
    · exact absurd z h
    · exact ⟨h, hle⟩
/-- read_list(expression, shape), for the expressions of D -/
def spRL (CX CN CS CE : Addr) (rl : Shp → Kh450.Node → RA) (D : Kh450.Node → Prop) : Sp := fun vs H Q E => ∃ G v r n s dx Ld, vs = [v, .ref r] ∧ Same G H ∧ ExAt CX G n v ∧ D n ∧ symName n ≠ [] ∧ ShAt CS r dx Ld s H ∧ RlOk s n ∧ Rs CN CE G H Q E (rl s n)
def ShV (CS : Addr) (H : Hp) : Option (List Str) → V → Prop
  | none, v => v = .non
  | some ws, v => ∃ r dx Ld, v = .ref r ∧ ShAt CS r dx Ld (shOf ws) H
def spRS (CX CN CS CE : Addr) (rl : Shp → Kh450.Node → RA) (D : Kh450.Node → Prop) : Sp := fun vs H Q E => ∃ G v sv n sh, vs = [v, sv] ∧ Same G H ∧ ExAt CX G n v ∧ D n ∧ ShV CS H sh sv ∧ (sh ≠ none → symName n ≠ []) ∧ (∀ ws, sh = some ws → wsOk ws = true) ∧ Rs CN CE G H Q E (rdShaped rl sh n)
theorem list_of_sym {n : Kh450.Node} (h : symName n ≠ []) : ∃ p p0 t args, n = .list p (.symbol p0 t :: args) := by
  cases n with
  | symbol p t => exact absurd rfl h
  | integer p t => exact absurd rfl h
  | string p t => exact absurd rfl h
  | list p items =>
    cases items with
    | nil => exact absurd rfl h
    | cons m r =>
      cases m with
      | symbol p0 t => exact ⟨p, p0, t, r, rfl⟩
      | integer p t => exact absurd rfl h
      | string p t => exact absurd rfl h
      | list p t => exact absurd rfl h
theorem shOf_least (ws : List Str) : (shOf ws).1.length ≤ (shOf ws).2.2 := by
  have : ∀ (ws : List Str) (s : List Str × Str × Nat), s.1.length ≤ s.2.2 → (ws.foldl shStep s).1.length ≤ (ws.foldl shStep s).2.2 := by
    intro ws
    induction ws with
    | nil => intro s h; exact h
    | cons z r ih =>
      intro s h
      refine ih (shStep s z) ?_
      unfold shStep
      simp only
      split
      · split
        · exact h
        · omega
      · rename_i h1
        rw [if_neg (fun e => h1 (.inl e))]
        simp; exact h
  exact this ws ([], "", 0) (Nat.zero_le _)
/-- the first argument of such a list is a number -/
def spBwi (CS : Addr) : Sp := fun vs H Q _ => ∃ r dx Ld s, vs = [.ref r] ∧ ShAt CS r dx Ld s H ∧ ∀ H', Same H H' → Q (.bl (needsInt s)) H'
abbrev s_Shape_begins_with_integer : Stmt := inClass (top 43) 2
theorem sc_Shape_begins_with_integer : FnScope ["self"] ["self"] (defScope s_Shape_begins_with_integer) := ⟨rfl, rfl, rfl, by decide +kernel, rfl, by decide +kernel, by decide +kernel⟩
theorem ok_Shape_begins_with_integer {CS : Addr} (DD : DnM K CS "begins_with_integer" "Shape.begins_with_integer" s_Shape_begins_with_integer ["self"]) (n_len : mg "len" = none) (q_Shape_leading : Kf K CS "leading") :
    OwnM P w K mg base CX0 1 CS "begins_with_integer" ["self"] (spBwi CS) := by
  refine mth_ok DD sc_Shape_begins_with_integer (fun _ _ _ _ h => by obtain ⟨_, _, _, _, rfl, _⟩ := h; rfl) (fun f cdv A outer s H vs Q E hr h => ⟨_, (pss_one (ps_ret (pe_and (pe_cmpR op_gt (pe_callB (kcall_len (K := K) rfl) (by rfl) n_len PySem.boot_len (pa_cons (pe_fc (K := K) rfl q_Shape_leading (pv 0)) pa_nil)) pe_int (nomark _)) (pe_one (pe_cmpR (kop_in (K := K) rfl) (pe_ix (kix_list (K := K) rfl) (pe_fc (K := K) rfl q_Shape_leading (pv 0)) pe_int (fun _ _ => rfl)) (pe_tup (pa_cons pe_str (pa_cons pe_str pa_nil))) (by rfl)))))), ?_⟩)
  obtain ⟨r, dx, Ld, s, rfl, S, q⟩ := h
  obtain ⟨ld, fo, le⟩ := s
  walk_at "sx"
  refine ⟨dx, _, S.at_, _, sh_lead, Ld, rfl, _, .inl (SqL.of S.lead), ?_⟩
  cases ld with
  | nil => exact iteF (q H (Same.refl H))
  | cons k0 rest =>
    refine ite2 (fun _ => ?_) (fun z => absurd (decide_eq_true (by rw [List.length_map]; simp only [List.length_cons]; omega)) z)
    refine ⟨dx, _, S.at_, _, sh_lead, Ld, rfl, _, SqL.of S.lead, .str k0, at_zero _ _, le_line (by omega), fun tp htp => ⟨tp, _, rfl, .inr (SqT.of upd_same), rfl, rfl, ?_⟩⟩
    have s3 : Same H (upd H tp (.tup [V.str (Str.ofString "level"), V.str (Str.ofString "number")])) := same_new htp
    have hin : inV (V.str k0) [V.str (Str.ofString "level"), V.str (Str.ofString "number")] = decide (k0 = "level" ∨ k0 = "number") := by
      simp only [inV, List.any_cons, List.any_nil, eqV, Bool.or_false]
      rw [Bool.eq_iff_iff]
      simp only [Bool.or_eq_true, decide_eq_true_eq, beq_iff_eq]
      exact ⟨fun h => h.imp Eq.symm Eq.symm, fun h => h.imp Eq.symm Eq.symm⟩
    rw [hin]
    exact q _ s3
abbrev s_read_shaped : Stmt := top 57
theorem sc_read_shaped : FnScope ["expression", "shape", "arguments"] ["expression", "shape"] (defScope s_read_shaped) := ⟨rfl, rfl, rfl, by decide +kernel, rfl, by decide +kernel, by decide +kernel⟩
theorem ok_read_shaped {CX CN CS CE : Addr} {ps : List Str} {k : Nat} {rl : Shp → Kh450.Node → RA} {Dm : Kh450.Node → Prop} (D : Dn K mg "read_shaped" s_read_shaped ["expression", "shape"]) (n_len : mg "len" = none)
    (o_read_list : OwnOk P w K mg base (L2.CX P w) (k + 4) "read_list" ["expression", "shape"] (spRL CX CN CS CE rl Dm))
    (m_Shape_allows_number : OwnM P w K mg base CX0 1 CS "allows_number" ["self", "number"] (fun vs H Q _ => ∃ r dx Ld s m, vs = [.ref r, .int ((m : Nat) : Int)] ∧ ShAt CS r dx Ld s H ∧ ∀ H', Same H H' → Q (.bl (shFits s m)) H'))
    (m_Shape_begins_with_integer : OwnM P w K mg base CX0 1 CS "begins_with_integer" ["self"] (spBwi CS))
    (q_Expression_kind : Kf K CX "kind") (q_Expression_value : Kf K CX "value") (q_Expression_position : Kf K CX "position") (x_NotationError : OwnX P w K mg base 2 "NotationError" CE 2 neF ps) :
    OwnOk P w K mg base (L2.CX P w) (k + 5) "read_shaped" ["expression", "shape"] (spRS CX CN CS CE rl Dm) := by
  refine own_okX D sc_read_shaped (fun _ _ _ _ h => by obtain ⟨_, _, _, _, _, rfl, _⟩ := h; rfl) (fun f cdv A outer s H vs Q E hr h => ⟨_, (pss_cons (ps_if (pt_cmpR op_isN (pv 1) pe_non (nomark _)) (pss_one (ps_raiseN x_NotationError (hr.mono (by omega)) (by rfl) rfl (L2.takes_of rfl rfl rfl rfl) (pa_cons pe_int (pa_cons (pe_fc (K := K) rfl q_Expression_position (pv 0)) pa_nil)))) pss_nil)
    (pss_cons (ps_set (i := 2) sc_read_shaped.nd rfl (by first | exact Or.inl rfl | exact Or.inr rfl) (pe_slice (ksl_list (K := K) rfl) (pe_fc (K := K) rfl q_Expression_value (pv 0)) (po_some pe_int) po_none))
    (pss_cons (ps_if (pt_not (pt_val (pe_mth m_Shape_allows_number (pv 1) (hr.mono (by omega)) pass0 (pa_cons (pe_callB (kcall_len (K := K) rfl) (by rfl) n_len PySem.boot_len (pa_cons (pv 2) pa_nil)) pa_nil)))) (pss_one (ps_raiseN x_NotationError (hr.mono (by omega)) (by rfl) rfl (L2.takes_of rfl rfl rfl rfl) (pa_cons pe_int (pa_cons (pe_fc (K := K) rfl q_Expression_position (pv 0)) pa_nil)))) pss_nil)
    (pss_cons (ps_if (PW.pt (pw_and (pt_val (pe_mth0 m_Shape_begins_with_integer (pv 1) (hr.mono (by omega)) pass0)) (pw_and1 (pt_cmpR op_ne (pe_fc (K := K) rfl q_Expression_kind (pe_ix (kix_list (K := K) rfl) (pv 2) pe_int (fun _ _ => rfl))) pe_str (nomark _))))) (pss_one (ps_raiseN x_NotationError (hr.mono (by omega)) (by rfl) rfl (L2.takes_of rfl rfl rfl rfl) (pa_cons pe_int (pa_cons (pe_fc (K := K) rfl q_Expression_position (pv 0)) pa_nil)))) pss_nil)
    (pss_one (ps_ret (pe_own o_read_list (hr.mono (by omega)) rfl (L2.passes_call (L2.takes_of rfl rfl rfl rfl) (fun _ _ _ _ h => h)) (pa_cons (pv 0) (pa_cons (pv 1) pa_nil))))))))), ?_⟩)
  obtain ⟨G, v, sv, n, sh, rfl, sG, hx, hD, hs, hsym, hws, q⟩ := h
  obtain ⟨a, dx, x, rfl, h1⟩ := hx.rec'
  walk_at "sx"
  have err : ∀ k', ErrG CE H E (k', n.position) → ∀ H', Same H H' → ∃ x x_1, H' a = some (HO.ins CX x x_1) ∧ ∃ x, List.lookup (Str.ofString "position") x_1 = some x ∧ ∃ x_2 y, (V.int ((k' : Nat) : Int) = x_2 ∧ x = y) ∧ ∀ (d : Addr), H' d = none → E (Value.ref CE) (some d) (upd H' d (HO.xd [(Str.ofString "position", y), (Str.ofString "kind", x_2), (Str.ofString "code", V.int (-20))])) :=
    fun k' z H' s' => ⟨dx, _, s' _ _ (sG _ _ h1), _, ex_pos, _, _, ⟨rfl, rfl⟩, fun dE hd => z H' dE s' hd⟩
  cases sh with
  | none =>
    have e : sv = .non := hs
    subst e
    exact iteT (err 7 q H (Same.refl H))
  | some ws =>
    obtain ⟨r, dxs, Ld, rfl, S⟩ := hs
    have hsy := hsym (fun z => by cases z)
    obtain ⟨p, p0, t, args, rfl⟩ := list_of_sym hsy
    obtain ⟨a2, dx2, b, vs, e2, h2, h3, h4⟩ := (by simpa only [ExAt] using hx)
    cases e2
    obtain ⟨v0, t', rfl, hm, h5⟩ := (by simpa only [ExsAt] using h4)
    refine iteF ⟨dx2, _, sG _ _ h2, _, ex_value, b, rfl, _, SqL.of (sG _ _ h3), fun c hc => ?_⟩
    rw [cut_tail]
    have s1 : Same H (upd H c (.lst t')) := same_new hc
    have hc1 : (upd H c (.lst t')) c = some (.lst t') := upd_same
    have S1 : ShAt CS r dxs Ld (shOf ws) (upd H c (.lst t')) := ⟨s1 _ _ S.at_, s1 _ _ S.lead⟩
    generalize upd H c (.lst t') = H1 at s1 hc1 S1 ⊢
    have ql : rdShaped rl (some ws) (.list p (.symbol p0 t :: args)) = if shFits (shOf ws) args.length = false then .error (8, p) else if needsInt (shOf ws) = true ∧ args.head?.all isInt = false then .error (8, p) else rl (shOf ws) (.list p (.symbol p0 t :: args)) := rfl
    rw [ql] at q
    refine ⟨r, rfl, dxs, _, S1.at_, rfl, _, .inl (SqL.of hc1), r, dxs, Ld, shOf ws, args.length, ⟨rfl, by rw [h5.len]⟩, S1, fun H2 s2 => ?_⟩
    cases hf : shFits (shOf ws) args.length with
    | false =>
      rw [if_pos hf] at q
      exact iteT (err 8 q H2 (s1.trans s2))
    | true =>
      rw [if_neg (by rw [hf]; decide)] at q
      refine iteF ?_
      have S2 : ShAt CS r dxs Ld (shOf ws) H2 := ⟨s2 _ _ S1.at_, s2 _ _ S1.lead⟩
      have s12 := s1.trans s2
      have hc2 := s2 _ _ hc1
      have hle := shOf_least ws
      have hrl := rlOk_of (n := .list p (.symbol p0 t :: args)) (hws ws rfl) hf
      have hfit : (shOf ws).2.2 ≤ args.length := by
        simp only [shFits, Bool.or_eq_true, Bool.and_eq_true, decide_eq_true_eq] at hf
        rcases hf with hf | hf
        · omega
        · omega
      have fin : ∀ H3, Same H2 H3 → ¬ (needsInt (shOf ws) = true ∧ Option.all isInt args.head? = false) → spRL CX CN CS CE rl Dm [V.ref a, V.ref r] H3 Q E := fun H3 s3 z => by
        rw [if_neg z] at q
        exact ⟨G, .ref a, r, _, shOf ws, dxs, Ld, rfl, sG.trans (s12.trans s3), hx, hD, hsy, ⟨s3 _ _ S2.at_, s3 _ _ S2.lead⟩, hrl (Nat.le_trans hle hfit) z, Rs.go sG q (s12.trans s3)⟩
      refine ⟨r, rfl, dxs, _, S2.at_, rfl, r, dxs, Ld, shOf ws, rfl, S2, fun H3 s3 => ⟨_, rfl, ?_⟩⟩
      have hc3 := s3 _ _ hc2
      by_cases hk : needsInt (shOf ws) = true
      · refine ite2 (fun _ => ?_) (fun z => absurd hk z)
        have hpos : 0 < args.length := by
          have h1 : 0 < (shOf ws).1.length := by
            cases h0 : (shOf ws).1 with
            | nil => unfold needsInt at hk; rw [h0] at hk; cases hk
            | cons y r => simp
          omega
        cases args with
        | nil => simp at hpos
        | cons m rr =>
          obtain ⟨v1, t1, rfl, hm1, h6⟩ := (by simpa only [ExsAt] using h5)
          obtain ⟨a3, dx3, x3, rfl, h7⟩ := hm1.rec'
          refine ⟨_, SqL.of hc3, _, at_zero _ _, a3, rfl, dx3, _, s3 _ _ (s12 _ _ (sG _ _ h7)), _, ex_kind, rfl, ?_⟩
          cases m with
          | integer p1 t1 => exact iteF (fin H3 s3 (fun z => by have := z.2; simp [isInt] at this))
          | symbol p1 t1 =>
            rw [if_pos ⟨hk, rfl⟩] at q
            exact iteT (err 8 q H3 (s12.trans s3))
          | string p1 t1 =>
            rw [if_pos ⟨hk, rfl⟩] at q
            exact iteT (err 8 q H3 (s12.trans s3))
          | list p1 t1 =>
            rw [if_pos ⟨hk, rfl⟩] at q
            exact iteT (err 8 q H3 (s12.trans s3))
      · exact ite2 (fun z => absurd z hk) (fun _ => iteF (fin H3 s3 (fun z => hk z.1)))

end
end Bt

namespace Bt
open PySem PySem.Spec PyProof.Rows L2
local macro_rules | `(tactic| walk_at "sx") => `(tactic| simp only [cxK, tTru, rLen, rListOf, rTupOf, tRet, tRetN, tChain, tRng, tCB, tCons, tNil, tC, tVar, tOp, tUn, tTest, tB, tAnd, tOr, tNot, tIfS, tSeq, tIf, tOrV, tAndV, tNotV, tCall, tSl, tPart, tNoPart, tLst, tTup, tBM, tBM0, rExtendS, iList, iTup, iSeqV, rIxL, rIxT, rSlL, rAppend, rExtend, rCat, rI0, rI, rIxS, rEq, rNe, rU, tAsg, gName, tDrop, tNext, scal, L2.start, List.map_cons, List.map_nil, List.length_cons, List.length_nil, Nat.reduceAdd, Nat.reduceSub, List.replicate_succ, List.replicate_zero, List.append_nil, List.cons_append, List.nil_append, List.getElem?_cons_zero, List.getElem?_cons_succ, Option.some.injEq, exists_eq_left', exists_eq_left, V.int.injEq, V.bl.injEq, V.str.injEq, V.ref.injEq, List.cons.injEq, and_true, true_and, exists_and_left, List.set_cons_zero, List.set_cons_succ, spN1_run, tFC, sFC, sFCAug, tMeth, tMake, sRaise, tErF, rAdd, rPop, tM1, tCallL, Option.some.injEq, HO.ins.injEq])
local macro_rules | `(tactic| walk_at "sm") => `(tactic| (repeat (first | exact Same.refl _ | assumption | (refine Same.trans ?_ (same_new (by assumption))) | (refine Same.trans ?_ (by assumption)))))
section
variable {P : Program} {w : World} {K : PySem.W.Frag} {mg : Str → Option Value} {base : Heap}
theorem lookup_mem {tb : List (Str × List Str)} {k : Str} {ws : List Str} (h : tb.lookup k = some ws) : ∃ p ∈ tb, p.2 = ws := by
  induction tb with
  | nil => cases h
  | cons x r ih =>
    obtain ⟨a, b⟩ := x
    by_cases e : (k == a) = true
    · simp only [List.lookup, e] at h
      exact ⟨(a, b), List.mem_cons_self, Option.some.inj h⟩
    · simp only [Bool.not_eq_true] at e
      simp only [List.lookup, e] at h
      obtain ⟨p, hp, e2⟩ := ih h
      exact ⟨p, List.mem_cons_of_mem _ hp, e2⟩
theorem wsOk_of {tb : List (Str × List Str)} (ht : (tb.all fun p => wsOk p.2) = true) {k : Str} : ∀ ws, tb.lookup k = some ws → wsOk ws = true := fun ws h => by
  obtain ⟨p, hp, e⟩ := lookup_mem h
  rw [← e]; exact List.all_eq_true.mp ht p hp
theorem BL_ok : (BLt.all fun p => wsOk p.2) = true := by decide +kernel
theorem IL_ok : (ILt.all fun p => wsOk p.2) = true := by decide +kernel
abbrev spSym (CX : Addr) : Sp := fun vs H Q _ => ∃ (v : V) (n : Kh450.Node), vs = [v] ∧ ExAt CX H n v ∧ ∀ H', Same H H' → Q (.str ⟨(symName n).toArray⟩) H'
def spRd (CX CN CE : Addr) (rd : Kh450.Node → RA) (D : Kh450.Node → Prop) : Sp := fun vs H Q E => ∃ G v n, vs = [v] ∧ Same G H ∧ ExAt CX G n v ∧ D n ∧ Rs CN CE G H Q E (rd n)
theorem sym_some {tb : List (Str × List Str)} {n : Kh450.Node} (h0 : tb.lookup ⟨([] : List Nat).toArray⟩ = none) (h : tb.lookup ⟨(symName n).toArray⟩ ≠ none) : symName n ≠ [] := fun e => h (by rw [e]; exact h0)
abbrev s_read_block : Stmt := top 55
theorem sc_read_block : FnScope ["expression"] ["expression"] (defScope s_read_block) := ⟨rfl, rfl, rfl, by decide +kernel, rfl, by decide +kernel, by decide +kernel⟩
theorem ok_read_block {CX CN CS CE : Addr} {k : Nat} {rl : Shp → Kh450.Node → RA} {Dm : Kh450.Node → Prop} (D : Dn K mg "read_block" s_read_block ["expression"]) (o_list_symbol : OwnOk P w K mg base CX0 1 "list_symbol" ["expression"] (spSym CX))
    (o_block_shape : OwnOk P w K mg base CX0 3 "block_shape" ["symbol"] (spShape CS BLt)) (o_read_shaped : OwnOk P w K mg base (L2.CX P w) (k + 5) "read_shaped" ["expression", "shape"] (spRS CX CN CS CE rl Dm)) :
    OwnOk P w K mg base (L2.CX P w) (k + 6) "read_block" ["expression"] (spRd CX CN CE (rdBlock rl) Dm) := by
  refine own_okX D sc_read_block (fun _ _ _ _ h => by obtain ⟨_, _, _, rfl, _⟩ := h; rfl) (fun f cdv A outer s H vs Q E hr h => ⟨_, (pss_one (ps_ret (pe_own o_read_shaped (hr.mono (by omega)) rfl (L2.passes_call (L2.takes_of rfl rfl rfl rfl) (fun _ _ _ _ h => h)) (pa_cons (pv 0) (pa_cons (pe_own o_block_shape (hr.mono (by omega)) rfl pass0 (pa_cons (pe_own o_list_symbol (hr.mono (by omega)) rfl pass0 (pa_cons (pv 0) pa_nil)) pa_nil)) pa_nil))))), ?_⟩)
  obtain ⟨G, v, n, rfl, sG, hx, hD, q⟩ := h
  walk_at "sx"
  refine ⟨v, n, rfl, ExAt.same sG _ _ hx, fun H1 s1 => ⟨⟨(symName n).toArray⟩, rfl, ?_⟩⟩
  have h0 : BLt.lookup ⟨([] : List Nat).toArray⟩ = none := by decide +kernel
  unfold rdBlock at q
  cases e : BLt.lookup ⟨(symName n).toArray⟩ with
  | none =>
    rw [e] at q
    exact fun H2 s2 => ⟨G, v, .non, n, none, rfl, sG.trans (s1.trans s2), hx, hD, rfl, fun z => absurd rfl z, (fun _ z => by cases z), Rs.go sG q (s1.trans s2)⟩
  | some ws =>
    rw [e] at q
    exact fun r dx Ld H2 s2 _ _ S => ⟨G, v, .ref r, n, some ws, rfl, sG.trans (s1.trans s2), hx, hD, ⟨r, dx, Ld, rfl, S⟩, fun _ => sym_some h0 (by rw [e]; exact fun z => by cases z), (fun ws' z => wsOk_of BL_ok ws' (e.trans z)), Rs.go sG q (s1.trans s2)⟩
abbrev s_read_inline : Stmt := top 56
theorem sc_read_inline : FnScope ["expression"] ["expression"] (defScope s_read_inline) := ⟨rfl, rfl, rfl, by decide +kernel, rfl, by decide +kernel, by decide +kernel⟩
theorem ok_read_inline {CX CN CS CE : Addr} {k : Nat} {rl : Shp → Kh450.Node → RA} {Dm : Kh450.Node → Prop} (D : Dn K mg "read_inline" s_read_inline ["expression"]) (o_list_symbol : OwnOk P w K mg base CX0 1 "list_symbol" ["expression"] (spSym CX))
    (o_inline_shape : OwnOk P w K mg base CX0 3 "inline_shape" ["symbol"] (spShape CS ILt)) (o_read_shaped : OwnOk P w K mg base (L2.CX P w) (k + 5) "read_shaped" ["expression", "shape"] (spRS CX CN CS CE rl Dm))
    (q_Expression_kind : Kf K CX "kind") (q_Expression_value : Kf K CX "value") :
    OwnOk P w K mg base (L2.CX P w) (k + 6) "read_inline" ["expression"] (spRd CX CN CE (rdInline rl) Dm) := by
  refine own_okX D sc_read_inline (fun _ _ _ _ h => by obtain ⟨_, _, _, rfl, _⟩ := h; rfl) (fun f cdv A outer s H vs Q E hr h => ⟨_, (pss_cons (ps_if (pt_cmpR op_eq (pe_fc (K := K) rfl q_Expression_kind (pv 0)) pe_str (nomark _)) (pss_one (ps_ret (pe_fc (K := K) rfl q_Expression_value (pv 0)))) pss_nil)
    (pss_one (ps_ret (pe_own o_read_shaped (hr.mono (by omega)) rfl (L2.passes_call (L2.takes_of rfl rfl rfl rfl) (fun _ _ _ _ h => h)) (pa_cons (pv 0) (pa_cons (pe_own o_inline_shape (hr.mono (by omega)) rfl pass0 (pa_cons (pe_own o_list_symbol (hr.mono (by omega)) rfl pass0 (pa_cons (pv 0) pa_nil)) pa_nil)) pa_nil)))))), ?_⟩)
  obtain ⟨G, v, n, rfl, sG, hx, hD, q⟩ := h
  obtain ⟨a, dx, x, rfl, h1⟩ := hx.rec'
  walk_at "sx"
  refine ⟨dx, _, sG _ _ h1, _, ex_kind, rfl, ?_⟩
  by_cases hs : ∃ p t, n = .string p t
  · obtain ⟨p, t, rfl⟩ := hs
    obtain ⟨a2, dx2, b, e2, h2, h3⟩ := (by simpa only [ExAt] using hx)
    cases e2
    exact iteT ⟨dx2, _, sG _ _ h2, _, ex_value, q (.ref b) G H (Ext.refl sG) (by simp only [ArgAt]; exact ⟨b, rfl, h3⟩)⟩
  · have hk : decide (V.str (kindOf n) = V.str (Str.ofString "string")) = false := by
      cases n with
      | string p t => exact absurd ⟨p, t, rfl⟩ hs
      | symbol p t => rfl
      | integer p t => rfl
      | list p t => rfl
    rw [hk]
    refine iteF ⟨.ref a, n, rfl, ExAt.same sG _ _ hx, fun H1 s1 => ⟨⟨(symName n).toArray⟩, rfl, ?_⟩⟩
    have h0 : ILt.lookup ⟨([] : List Nat).toArray⟩ = none := by decide +kernel
    have qe : rdInline rl n = rdShaped rl (ILt.lookup ⟨(symName n).toArray⟩) n := by
      cases n with
      | string p t => exact absurd ⟨p, t, rfl⟩ hs
      | symbol p t => rfl
      | integer p t => rfl
      | list p t => rfl
    rw [qe] at q
    cases e : ILt.lookup ⟨(symName n).toArray⟩ with
    | none =>
      rw [e] at q
      exact fun H2 s2 => ⟨G, .ref a, .non, n, none, rfl, sG.trans (s1.trans s2), hx, hD, rfl, fun z => absurd rfl z, (fun _ z => by cases z), Rs.go sG q (s1.trans s2)⟩
    | some ws =>
      rw [e] at q
      exact fun r dx Ld H2 s2 _ _ S => ⟨G, .ref a, .ref r, n, some ws, rfl, sG.trans (s1.trans s2), hx, hD, ⟨r, dx, Ld, rfl, S⟩, fun _ => sym_some h0 (by rw [e]; exact fun z => by cases z), (fun ws' z => wsOk_of IL_ok ws' (e.trans z)), Rs.go sG q (s1.trans s2)⟩

end
end Bt

namespace Bt
open PySem PySem.Spec PyProof.Rows L2
local macro_rules | `(tactic| walk_at "sx") => `(tactic| simp only [cxK, tTru, rLen, rListOf, rTupOf, tRet, tRetN, tChain, tRng, tCB, tCons, tNil, tC, tVar, tOp, tUn, tTest, tB, tAnd, tOr, tNot, tIfS, tSeq, tIf, tOrV, tAndV, tNotV, tCall, tSl, tPart, tNoPart, tLst, tTup, tBM, tBM0, rExtendS, iList, iTup, iSeqV, rIxL, rIxT, rSlL, rAppend, rExtend, rCat, rI0, rI, rIxS, rEq, rNe, rU, tAsg, gName, tDrop, tNext, scal, L2.start, List.map_cons, List.map_nil, List.length_cons, List.length_nil, Nat.reduceAdd, Nat.reduceSub, List.replicate_succ, List.replicate_zero, List.append_nil, List.cons_append, List.nil_append, List.getElem?_cons_zero, List.getElem?_cons_succ, Option.some.injEq, exists_eq_left', exists_eq_left, V.int.injEq, V.bl.injEq, V.str.injEq, V.ref.injEq, List.cons.injEq, and_true, true_and, exists_and_left, List.set_cons_zero, List.set_cons_succ, spN1_run, tFC, sFC, sFCAug, tMeth, tMake, sRaise, tErF, rAdd, rPop, tM1, tCallL, Option.some.injEq, HO.ins.injEq])
local macro_rules | `(tactic| walk_at "sm") => `(tactic| (repeat (first | exact Same.refl _ | assumption | (refine Same.trans ?_ (same_new (by assumption))) | (refine Same.trans ?_ (by assumption)))))
section
variable {P : Program} {w : World} {K : PySem.W.Frag} {mg : Str → Option Value} {base : Heap}
abbrev spReq (CX CE : Addr) : Sp := fun vs H Q E => ∃ z v n, vs = [.str ⟨(z : List Nat).toArray⟩, v] ∧ z ≠ [] ∧ ExAt CX H n v ∧ match n with
      | .list p (.symbol _ t :: args) => if t = z ∧ (z = Kh450.codesOf "term" → headList args = true) then ∀ H', Same H H' → Q .non H' else ErrG CE H E (8, p)
      | n => ErrG CE H E (8, n.position)
/-- require_part in the mirror's words -/
theorem req_of {CX CE : Addr} {H : Hp} {Q : VK} {E : XK} {z : List Nat} {v : V} {n : Kh450.Node} (hz : z ≠ []) (hx : ExAt CX H n v) (ok : partOk z n = true → ∀ H', Same H H' → Q .non H') (no : partOk z n = false → ErrG CE H E (8, n.position)) : spReq CX CE [.str ⟨z.toArray⟩, v] H Q E := by
  refine ⟨z, v, n, rfl, hz, hx, ?_⟩
  cases n with
  | symbol p t => exact no rfl
  | integer p t => exact no rfl
  | string p t => exact no rfl
  | list p items =>
    cases items with
    | nil => exact no rfl
    | cons m r =>
      cases m with
      | integer p t => exact no rfl
      | string p t => exact no rfl
      | list p t => exact no rfl
      | symbol p0 t =>
        show if t = z ∧ (z = Kh450.codesOf "term" → headList r = true) then _ else _
        have e : partOk z (.list p (.symbol p0 t :: r)) = (decide (t = z) && (!decide (z = Kh450.codesOf "term") || headList r)) := rfl
        rw [e] at ok no
        by_cases h : t = z ∧ (z = Kh450.codesOf "term" → headList r = true)
        · rw [if_pos h]
          refine ok ?_
          rw [decide_eq_true h.1]
          by_cases ht : z = Kh450.codesOf "term"
          · rw [h.2 ht]; simp
          · rw [decide_eq_false ht]; rfl
        · rw [if_neg h]
          refine no ?_
          by_cases h1 : t = z
          · rw [decide_eq_true h1]
            by_cases ht : z = Kh450.codesOf "term"
            · rw [decide_eq_true ht]
              cases hh : headList r with
              | true => exact absurd ⟨h1, fun _ => hh⟩ h
              | false => rfl
            · exact absurd ⟨h1, fun z => absurd z ht⟩ h
          · rw [decide_eq_false h1]; rfl
theorem sym_of_part {z : List Nat} {n : Kh450.Node} (hz : z ≠ []) (h : partOk z n = true) : symName n ≠ [] := by
  cases n with
  | symbol p t => cases h
  | integer p t => cases h
  | string p t => cases h
  | list p items =>
    cases items with
    | nil => cases h
    | cons m r =>
      cases m with
      | integer p t => cases h
      | string p t => cases h
      | list p t => cases h
      | symbol p0 t =>
        have e : partOk z (.list p (.symbol p0 t :: r)) = (decide (t = z) && (!decide (z = Kh450.codesOf "term") || headList r)) := rfl
        rw [e, Bool.and_eq_true, decide_eq_true_eq] at h
        show t ≠ []
        rw [h.1]; exact hz
/-- the parts' shapes: no arguments that stand once, but a term's first list -/
def ptOk (p : Str × List Str) : Bool := let s := shOf p.2
  (decide (s.1 = []) || decide (p.1 = "term" ∧ s.1 = [("inlines" : Str)])) && kdFlat s.2.1 && decide (s.2.1 ≠ "row")
theorem PT_ok : (PTt.all ptOk) = true := by decide +kernel
theorem lookup_key {tb : List (Str × List Str)} {k : Str} {ws : List Str} (h : tb.lookup k = some ws) : (k, ws) ∈ tb := by
  induction tb with
  | nil => cases h
  | cons x r ih =>
    obtain ⟨a, b⟩ := x
    by_cases e : (k == a) = true
    · simp only [List.lookup, e] at h
      rw [beq_iff_eq.mp e, Option.some.inj h]; exact List.mem_cons_self
    · simp only [Bool.not_eq_true] at e
      simp only [List.lookup, e] at h
      exact List.mem_cons_of_mem _ (ih h)
theorem part_rl {z : List Nat} {n : Kh450.Node} {ws : List Str} (h : partOk z n = true) (hw : PTt.lookup ⟨z.toArray⟩ = some ws) : RlOk (shOf ws) n := by
  have ht := List.all_eq_true.mp PT_ok _ (lookup_key hw)
  simp only [ptOk, Bool.and_eq_true, Bool.or_eq_true, decide_eq_true_eq] at ht
  obtain ⟨⟨h1, h2⟩, h3⟩ := ht
  generalize shOf ws = s at *
  obtain ⟨ld, fo, le⟩ := s
  refine ⟨?_, fun m _ => kdFlat_ok h2 m, fun e => absurd e h3⟩
  simp only at h1
  rcases h1 with h1 | ⟨h0, h1⟩
  · rw [h1]; intro y hy; simp at hy
  · rw [h1]
    have hz : z = Kh450.codesOf "term" := (str_eq_list _ _).mp (h0.trans (by decide +kernel))
    cases n with
    | symbol p t => cases h
    | integer p t => cases h
    | string p t => cases h
    | list p items =>
      cases items with
      | nil => cases h
      | cons m r =>
        cases m with
        | integer p t => cases h
        | string p t => cases h
        | list p t => cases h
        | symbol p0 t =>
          have e : partOk z (.list p (.symbol p0 t :: r)) = (decide (t = z) && (!decide (z = Kh450.codesOf "term") || headList r)) := rfl
          rw [e, decide_eq_true hz] at h
          simp only [Bool.not_true, Bool.false_or, Bool.and_eq_true, decide_eq_true_eq] at h
          cases r with
          | nil => cases h.2
          | cons m r =>
            intro y hy
            have hy : y ∈ [(("inlines" : Str), m)] := hy
            rw [List.mem_singleton] at hy
            subst hy
            refine ⟨fun _ => h.2, fun z => ?_, fun z => absurd (.inr (.inr (.inl rfl))) z⟩
            rcases z with z | z
            · exact absurd (show ("inlines" : Str) = "level" from z) (by decide +kernel)
            · exact absurd (show ("inlines" : Str) = "number" from z) (by decide +kernel)
def spPart (CX CN CE : Addr) (rl : Shp → Kh450.Node → RA) (D : Kh450.Node → Prop) : Sp := fun vs H Q E => ∃ G v n z, vs = [.str ⟨(z : List Nat).toArray⟩, v] ∧ Same G H ∧ ExAt CX G n v ∧ D n ∧ PTt.lookup ⟨z.toArray⟩ ≠ none ∧ Rs CN CE G H Q E (rdPart rl z n)
abbrev s_read_part : Stmt := top 64
theorem sc_read_part : FnScope ["symbol", "expression", "part"] ["symbol", "expression"] (defScope s_read_part) := ⟨rfl, rfl, rfl, by decide +kernel, rfl, by decide +kernel, by decide +kernel⟩
theorem ok_read_part {CX CN CS CE : Addr} {ps : List Str} {k : Nat} {rl : Shp → Kh450.Node → RA} {Dm : Kh450.Node → Prop} (D : Dn K mg "read_part" s_read_part ["symbol", "expression"]) (hrl : ∀ s n x, rl s n = .ok x → ∃ a b c d, x = .node a b c d)
    (o_require_part : OwnOk P w K mg base (L2.CX P w) 4 "require_part" ["symbol", "expression"] (spReq CX CE))
    (o_part_shape : OwnOk P w K mg base CX0 3 "part_shape" ["symbol"] (fun vs H Q E => (∃ z ws, vs = [.str z] ∧ PTt.lookup z = some ws) ∧ spShape CS PTt vs H Q E)) (o_read_list : OwnOk P w K mg base (L2.CX P w) (k + 4) "read_list" ["expression", "shape"] (spRL CX CN CS CE rl Dm))
    (q_Node_children : Kf K CN "children") (q_Expression_position : Kf K CX "position") (x_NotationError : OwnX P w K mg base 2 "NotationError" CE 2 neF ps) :
    OwnOk P w K mg base (L2.CX P w) (k + 5) "read_part" ["symbol", "expression"] (spPart CX CN CE rl Dm) := by
  refine own_okX D sc_read_part (fun _ _ _ _ h => by obtain ⟨_, _, _, _, rfl, _⟩ := h; rfl) (fun f cdv A outer s H vs Q E hr h => ⟨_, (pss_cons (ps_expr (pe_own o_require_part (hr.mono (by omega)) rfl (L2.passes_call (L2.takes_of rfl rfl rfl rfl) (fun _ _ _ _ h => h)) (pa_cons (pv 0) (pa_cons (pv 1) pa_nil))))
    (pss_cons (ps_set (i := 2) sc_read_part.nd rfl (by first | exact Or.inl rfl | exact Or.inr rfl) (pe_own o_read_list (hr.mono (by omega)) rfl (L2.passes_call (L2.takes_of rfl rfl rfl rfl) (fun _ _ _ _ h => h)) (pa_cons (pv 1) (pa_cons (pe_own o_part_shape (hr.mono (by omega)) rfl pass0 (pa_cons (pv 0) pa_nil)) pa_nil))))
    (pss_cons (ps_if (PW.pt (pw_and (pt_cmpR op_eq (pv 0) pe_str (nomark _)) (pw_and1 (pt_not (kpt_truth (K := K) rfl (pe_fc (K := K) rfl q_Node_children (pv 2))))))) (pss_one (ps_raiseN x_NotationError (hr.mono (by omega)) (by rfl) rfl (L2.takes_of rfl rfl rfl rfl) (pa_cons pe_int (pa_cons (pe_fc (K := K) rfl q_Expression_position (pv 1)) pa_nil)))) pss_nil)
    (pss_one (ps_ret (pv 2)))))), ?_⟩)
  obtain ⟨G, v, n, z, rfl, sG, hx, hD, hp, q⟩ := h
  obtain ⟨a, dx, x, rfl, h1⟩ := hx.rec'
  walk_at "sx"
  obtain ⟨ws, hw⟩ : ∃ ws, PTt.lookup ⟨z.toArray⟩ = some ws := by
    cases e : PTt.lookup ⟨z.toArray⟩ with
    | none => exact absurd e hp
    | some ws => exact ⟨ws, rfl⟩
  have hz : z ≠ [] := fun e => by
    have h0 : PTt.lookup ⟨([] : List Nat).toArray⟩ = none := by decide +kernel
    rw [e] at hp
    exact hp h0
  unfold rdPart at q
  refine req_of hz (ExAt.same sG _ _ hx) (fun hok H1 s1 => ⟨⟨ws, hw⟩, ⟨_, rfl, ?_⟩⟩) (fun hno => ?_)
  · rw [if_pos hok, hw] at q
    rw [hw]
    intro r dxs Ld H2 s2 _ _ S
    have s12 := s1.trans s2
    have hsy : symName n ≠ [] := sym_of_part hz hok
    refine ⟨G, .ref a, r, n, shOf ws, dxs, Ld, rfl, sG.trans s12, hx, hD, hsy, S, part_rl hok hw, ?_⟩
    cases e : rl (shOf ws) n with
    | error y =>
      rw [show (some ws).getD [] = ws from rfl, e] at q
      exact ErrG.go q s12
    | ok part =>
      rw [show (some ws).getD [] = ws from rfl, e] at q
      obtain ⟨sy, hd, ch, ho, rfl⟩ := hrl _ _ _ e
      intro v G' H' ext har
      have q2 : Rs CN CE G H Q E (if z = Kh450.codesOf "align" ∧ ch = [] then .error (8, n.position) else .ok (.node sy hd ch ho)) := q
      have al : Str.ofString "align" = ⟨(Kh450.codesOf "align").toArray⟩ := by decide +kernel
      have eqA : decide ((⟨z.toArray⟩ : Str) = Str.ofString "align") = decide (z = Kh450.codesOf "align") := by rw [al]; exact dec_eq (str_eq_list _ _)
      rw [eqA]
      have ext' : Ext G H G' H' := ((Ext.refl sG).heap s12).trans ext
      by_cases hA : z = Kh450.codesOf "align"
      · rw [decide_eq_true hA]
        have har' := har
        obtain ⟨a1, dx1, hb, cb, hv, cv, rfl, g1, g2, g3, g4, g5⟩ := (by simpa only [ArgAt] using har)
        refine iteT ⟨a1, rfl, dx1, _, ext.sub _ _ g1, _, rfl, _, truL (SqL.of (ext.sub _ _ g3)), ?_⟩
        cases ch with
        | nil =>
          have : cv = [] := by simpa only [ArgsAt] using g5
          subst this
          rw [if_pos ⟨hA, rfl⟩] at q2
          exact iteT ⟨dx, _, ext'.same _ _ (sG _ _ h1), _, ex_pos, _, _, ⟨rfl, rfl⟩, fun dE hd' => q2 H' dE ext'.same hd'⟩
        | cons c0 cr =>
          obtain ⟨v0, t0, rfl, _, _⟩ := (by simpa only [ArgsAt] using g5)
          rw [if_neg (fun w => by cases w.2)] at q2
          exact iteF (q2 _ G' H' ext' har')
      · rw [decide_eq_false hA]
        rw [if_neg (fun w => hA w.1)] at q2
        exact iteF (iteF (q2 v G' H' ext' har))
  · rw [if_neg (by rw [hno]; decide)] at q
    exact q
def spRow (CX CN CE : Addr) (rl : Shp → Kh450.Node → RA) (D : Kh450.Node → Prop) : Sp := fun vs H Q E => ∃ G v n c, vs = [v, .int ((c : Nat) : Int)] ∧ Same G H ∧ ExAt CX G n v ∧ D n ∧ Rs CN CE G H Q E (rdRow rl c n)
abbrev s_read_row : Stmt := top 67
theorem sc_read_row : FnScope ["expression", "columns"] ["expression", "columns"] (defScope s_read_row) := ⟨rfl, rfl, rfl, by decide +kernel, rfl, by decide +kernel, by decide +kernel⟩
theorem ok_read_row {CX CN CS CE : Addr} {ps : List Str} {k : Nat} {rl : Shp → Kh450.Node → RA} {Dm : Kh450.Node → Prop} (D : Dn K mg "read_row" s_read_row ["expression", "columns"]) (n_len : mg "len" = none)
    (o_require_part : OwnOk P w K mg base (L2.CX P w) 4 "require_part" ["symbol", "expression"] (spReq CX CE)) (o_read_part : OwnOk P w K mg base (L2.CX P w) (k + 5) "read_part" ["symbol", "expression"] (spPart CX CN CE rl Dm))
    (q_Expression_value : Kf K CX "value") (q_Expression_position : Kf K CX "position") (x_NotationError : OwnX P w K mg base 2 "NotationError" CE 2 neF ps) :
    OwnOk P w K mg base (L2.CX P w) (k + 6) "read_row" ["expression", "columns"] (spRow CX CN CE rl Dm) := by
  refine own_okX D sc_read_row (fun _ _ _ _ h => by obtain ⟨_, _, _, _, rfl, _⟩ := h; rfl) (fun f cdv A outer s H vs Q E hr h => ⟨_, (pss_cons (ps_expr (pe_own o_require_part (hr.mono (by omega)) rfl (L2.passes_call (L2.takes_of rfl rfl rfl rfl) (fun _ _ _ _ h => h)) (pa_cons pe_str (pa_cons (pv 0) pa_nil))))
    (pss_cons (ps_if (pt_cmpR op_ne (pe_op op_sub (pe_callB (kcall_len (K := K) rfl) (by rfl) n_len PySem.boot_len (pa_cons (pe_fc (K := K) rfl q_Expression_value (pv 0)) pa_nil)) pe_int) (pv 1) (nomark _)) (pss_one (ps_raiseN x_NotationError (hr.mono (by omega)) (by rfl) rfl (L2.takes_of rfl rfl rfl rfl) (pa_cons pe_int (pa_cons (pe_fc (K := K) rfl q_Expression_position (pv 0)) pa_nil)))) pss_nil)
    (pss_one (ps_ret (pe_own o_read_part (hr.mono (by omega)) rfl (L2.passes_call (L2.takes_of rfl rfl rfl rfl) (fun _ _ _ _ h => h)) (pa_cons pe_str (pa_cons (pv 0) pa_nil))))))), ?_⟩)
  obtain ⟨G, v, n, c, rfl, sG, hx, hD, q⟩ := h
  obtain ⟨a, dx, x, rfl, h1⟩ := hx.rec'
  walk_at "sx"
  have row_is : Str.ofString "row" = ⟨(Kh450.codesOf "row").toArray⟩ := by decide +kernel
  have hz : Kh450.codesOf "row" ≠ [] := by decide
  have hp : PTt.lookup ⟨(Kh450.codesOf "row").toArray⟩ ≠ none := by decide +kernel
  rw [row_is]
  unfold rdRow at q
  refine req_of hz (ExAt.same sG _ _ hx) (fun hok H1 s1 => ?_) (fun hno => ?_)
  · rw [if_pos hok] at q
    obtain ⟨p, p0, t, args, rfl⟩ := list_of_sym (sym_of_part hz hok)
    obtain ⟨a2, dx2, b, vs, e2, h2, h3, h4⟩ := (by simpa only [ExAt] using hx)
    cases e2
    obtain ⟨v0, t', rfl, hm, h5⟩ := (by simpa only [ExsAt] using h4)
    have al : argsOf (.list p (.symbol p0 t :: args)) = args := rfl
    rw [al] at q
    refine ⟨dx2, _, s1 _ _ (sG _ _ h2), _, ex_value, b, rfl, _, .inl (SqL.of (s1 _ _ (sG _ _ h3))), ?_⟩
    have hl := h5.len
    have ec : decide (((v0 :: t').length : Int) - 1 = (c : Int)) = decide (args.length = c) := dec_eq (by simp only [List.length_cons]; omega)
    rw [ec]
    by_cases hc : args.length = c
    · rw [decide_eq_true hc]
      rw [if_pos hc] at q
      exact iteF ⟨G, .ref a, _, Kh450.codesOf "row", rfl, sG.trans s1, hx, hD, hp, Rs.go sG q s1⟩
    · rw [decide_eq_false hc]
      rw [if_neg hc] at q
      exact iteT ⟨dx2, _, s1 _ _ (sG _ _ h2), _, ex_pos, _, _, ⟨rfl, rfl⟩, fun dE hd => q H1 dE s1 hd⟩
  · rw [if_neg (by rw [hno]; decide)] at q
    exact q

end
end Bt

namespace Bt
open PySem PySem.Spec PyProof.Rows L2
local macro_rules | `(tactic| walk_at "sx") => `(tactic| simp only [cxK, tTru, rLen, rListOf, rTupOf, tRet, tRetN, tChain, tRng, tCB, tCons, tNil, tC, tVar, tOp, tUn, tTest, tB, tAnd, tOr, tNot, tIfS, tSeq, tIf, tOrV, tAndV, tNotV, tCall, tSl, tPart, tNoPart, tLst, tTup, tBM, tBM0, rExtendS, iList, iTup, iSeqV, rIxL, rIxT, rSlL, rAppend, rExtend, rCat, rI0, rI, rIxS, rEq, rNe, rU, tAsg, gName, tDrop, tNext, scal, L2.start, List.map_cons, List.map_nil, List.length_cons, List.length_nil, Nat.reduceAdd, Nat.reduceSub, List.replicate_succ, List.replicate_zero, List.append_nil, List.cons_append, List.nil_append, List.getElem?_cons_zero, List.getElem?_cons_succ, Option.some.injEq, exists_eq_left', exists_eq_left, V.int.injEq, V.bl.injEq, V.str.injEq, V.ref.injEq, List.cons.injEq, and_true, true_and, exists_and_left, List.set_cons_zero, List.set_cons_succ, spN1_run, tFC, sFC, sFCAug, tMeth, tMake, sRaise, tErF, rAdd, rPop, tM1, tCallL, Option.some.injEq, HO.ins.injEq])
local macro_rules | `(tactic| walk_at "sm") => `(tactic| (repeat (first | exact Same.refl _ | assumption | (refine Same.trans ?_ (same_new (by assumption))) | (refine Same.trans ?_ (by assumption)))))
section
variable {P : Program} {w : World} {K : PySem.W.Frag} {mg : Str → Option Value} {base : Heap}
/-! ### lists whose items raise, as the specification collects them -/
theorem collect_snoc {α β : Type} (f : α → Kh450.Checked β) (x : α) : ∀ l : List α, Kh450.collect f (l ++ [x]) = (Kh450.collect f l).bind fun bs => (f x).map fun b => bs ++ [b]
  | [] => by
    show (f x).bind (fun y => (Kh450.collect f []).map fun ys => y :: ys) = (Except.ok []).bind _
    cases f x <;> rfl
  | a :: r => by
    show (f a).bind (fun y => (Kh450.collect f (r ++ [x])).map fun ys => y :: ys) = ((f a).bind fun y => (Kh450.collect f r).map fun ys => y :: ys).bind _
    rw [collect_snoc f x r]
    cases f a with
    | error e => rfl
    | ok b =>
      show ((Kh450.collect f r).bind _).map _ = ((Kh450.collect f r).map _).bind _
      cases Kh450.collect f r with
      | error e => rfl
      | ok bs =>
        show ((f x).map _).map _ = (f x).map _
        cases f x <;> rfl
theorem collect_err {α β : Type} (f : α → Kh450.Checked β) {x : α} {e : Nat × Nat} (r : List α) (h : f x = .error e) : ∀ {l : List α} {bs : List β}, Kh450.collect f l = .ok bs → Kh450.collect f (l ++ x :: r) = .error e
  | [], bs, _ => by
    show (f x).bind _ = _
    rw [h]; rfl
  | a :: l, bs, hl => by
    have hl' : (f a).bind (fun y => (Kh450.collect f l).map fun ys => y :: ys) = .ok bs := hl
    show (f a).bind (fun y => (Kh450.collect f (l ++ x :: r)).map fun ys => y :: ys) = _
    cases hb : f a with
    | error e' => rw [hb] at hl'; cases hl'
    | ok b =>
      rw [hb] at hl'
      cases hc : Kh450.collect f l with
      | error e' =>
        have h2 : (Kh450.collect f l).map (fun ys => b :: ys) = .ok bs := hl'
        rw [hc] at h2; cases h2
      | ok cs =>
        show (Kh450.collect f (l ++ x :: r)).map _ = _
        rw [collect_err f r h hc]; rfl
theorem lcX_gen {α β : Type} {J : It} {as : List α} {xs : List V} {R : α → V → Hp → Prop} {j : Nat} {tt : TT} {te : TE} {ws : List Nat} {σ : L2.St} {G1 H1 : Hp} {D : Addr} {Qd : Hp → Prop} {Err : (Nat × Nat) → Hp → Prop} (S : β → V → Hp → Prop) (f : α → Kh450.Checked β)
    (hgo : ∀ i H, Same H1 H → i < xs.length → J.go i H) (hstop : ∀ H, Same H1 H → J.stop xs.length H) (hyld : ∀ i H x H', Same H1 H → J.yld i H x H' → H' = H ∧ xs[i]? = some x)
    (hG : Same G1 H1) (hR : Paired (fun a v => R a v G1) as xs) (hlen : xs.length < sizeLine) (hD : H1 D = none) (st : ∀ a v H H', Same H H' → R a v H → R a v H') (st2 : ∀ b v H H', Same H H' → S b v H → S b v H')
    (hw : ∀ x, wipe ((wipe σ ws).set j (some x)) ws = wipe σ ws)
    (ht : ∀ x H (Q : Bool → Hp → Prop), Q true H → tt ((wipe σ ws).set j (some x)) H Q)
    (he : ∀ a x G H, a ∈ as → Ext G1 H1 G H → R a x G → ∀ Q : VK, (match f a with | .ok b => ∀ y G' H', Ext G H G' H' → S b y G' → Q y H' | .error e => Err e H) → te ((wipe σ ws).set j (some x)) H Q)
    (hE : ∀ e G H, Kh450.collect f as = .error e → Ext G1 H1 G H → Err e H)
    (hd : ∀ bs G H ys, Kh450.collect f as = .ok bs → Ext G1 H1 G H → H D = some (.lst ys) → G D = none → Paired (fun b v => S b v G) bs ys → Qd H) :
    ∃ W : Nat → Nat → Hp → Prop, (∃ m, W 0 m (upd H1 D (.lst []))) ∧ ∀ i m H, W i m H →
      (J.stop i H ∧ Qd H) ∨ (J.go i H ∧ ∃ Nx : Hp → Prop, (∀ H', Nx H' → ∃ m', m' < m ∧ W (i + 1) m' H') ∧ ∀ x H', J.yld i H x H' → gName j x (wipe σ ws) H' fun σ2 H2 => wipe σ2 ws = wipe σ ws ∧ tt σ2 H2 fun b H3 =>
        if b = true then te σ2 H3 fun y H4 => ∃ acc, H4 D = some (.lst acc) ∧ acc.length < sizeLine ∧ Nx (upd H4 D (.lst (acc ++ [y]))) else Nx H3) := by
  refine ⟨fun i m H => m = xs.length - i ∧ i ≤ xs.length ∧ ∃ G ys bs, Ext G1 H1 G H ∧ G D = none ∧ H D = some (.lst ys) ∧ ys.length ≤ i ∧ Kh450.collect f (as.take i) = .ok bs ∧ Paired (fun b v => S b v G) bs ys,
    ⟨_, rfl, Nat.zero_le _, G1, [], [], (Ext.refl hG).priv hD, hG.free hD, upd_same, Nat.le_refl _, rfl, .nil⟩, ?_⟩
  rintro i m H ⟨rfl, hi, G, ys, bs, e, gD, hys, hl, hc, hp⟩
  by_cases hlt : i < xs.length
  · refine .inr ⟨hgo i H e.same hlt, fun H => i + 1 ≤ xs.length ∧ ∃ G ys bs, Ext G1 H1 G H ∧ G D = none ∧ H D = some (.lst ys) ∧ ys.length ≤ i + 1 ∧ Kh450.collect f (as.take (i + 1)) = .ok bs ∧ Paired (fun b v => S b v G) bs ys, fun H' q => ⟨_, by omega, rfl, q⟩, fun x H' y => ?_⟩
    obtain ⟨rfl, hx⟩ := hyld i H x H' e.same y
    obtain ⟨c, hcx, hRc⟩ := Paired.at hR hx
    have hcm : c ∈ as := List.mem_of_getElem? hcx
    have hRx : R c x G := st _ _ _ _ e.up hRc
    refine ⟨hw x, ht x _ _ (iteT (he c x G _ hcm e hRx _ ?_))⟩
    cases hf : f c with
    | error er =>
      refine hE er G _ ?_ e
      have : as = as.take i ++ c :: as.drop (i + 1) := by
        have h1 := List.take_append_drop i as
        rw [List.drop_eq_getElem_cons (List.getElem?_eq_some_iff.mp hcx).1, (List.getElem?_eq_some_iff.mp hcx).2] at h1
        exact h1.symm
      rw [this]
      exact collect_err f _ hf hc
    | ok b =>
      intro y G4 H4 e4 hy
      have hy4 : H4 D = some (.lst ys) := e4.same _ _ hys
      have g4 : G4 D = none := e4.stay gD hys
      refine ⟨ys, hy4, by omega, hlt, G4, ys ++ [y], bs ++ [b], (e.trans e4).mut hD g4, g4, upd_same, by simp; omega, ?_, (paired_same st2 e4.up hp).snoc hy⟩
      rw [take_at hcx, collect_snoc, hc]
      show (f c).map _ = _
      rw [hf]; rfl
  · have e0 : i = xs.length := by omega
    subst e0
    have e' : as.take xs.length = as := by rw [List.take_of_length_le]; rw [Paired.length hR]; exact Nat.le_refl _
    rw [e'] at hc
    exact .inl ⟨hstop H e.same, hd bs G H ys hc e hys gD hp⟩

end
end Bt

namespace Bt
open PySem PySem.Spec PyProof.Rows L2
local macro_rules | `(tactic| walk_at "sx") => `(tactic| simp only [cxK, tTru, rLen, rListOf, rTupOf, tRet, tRetN, tChain, tRng, tCB, tCons, tNil, tC, tVar, tOp, tUn, tTest, tB, tAnd, tOr, tNot, tIfS, tSeq, tIf, tOrV, tAndV, tNotV, tCall, tSl, tPart, tNoPart, tLst, tTup, tBM, tBM0, rExtendS, iList, iTup, iSeqV, rIxL, rIxT, rSlL, rAppend, rExtend, rCat, rI0, rI, rIxS, rEq, rNe, rU, tAsg, gName, tDrop, tNext, scal, L2.start, List.map_cons, List.map_nil, List.length_cons, List.length_nil, Nat.reduceAdd, Nat.reduceSub, List.replicate_succ, List.replicate_zero, List.append_nil, List.cons_append, List.nil_append, List.getElem?_cons_zero, List.getElem?_cons_succ, Option.some.injEq, exists_eq_left', exists_eq_left, V.int.injEq, V.bl.injEq, V.str.injEq, V.ref.injEq, List.cons.injEq, and_true, true_and, exists_and_left, List.set_cons_zero, List.set_cons_succ, spN1_run, tFC, sFC, sFCAug, tMeth, tMake, sRaise, tErF, rAdd, rPop, tM1, tCallL, Option.some.injEq, HO.ins.injEq])
local macro_rules | `(tactic| walk_at "sm") => `(tactic| (repeat (first | exact Same.refl _ | assumption | (refine Same.trans ?_ (same_new (by assumption))) | (refine Same.trans ?_ (by assumption)))))
section
variable {P : Program} {w : World} {K : PySem.W.Frag} {mg : Str → Option Value} {base : Heap}
abbrev spNode (CN : Addr) : Sp := fun vs H Q _ => ∃ a dx s h c ho, vs = [.ref a, .str s, h, c, .str ho] ∧ H a = some (.ins CN dx []) ∧ Q .non (upd H a (.ins CN dx (ndF s h c ho)))
abbrev spStr (CX CE : Addr) : Sp := fun vs H Q E => ∃ G k v n, vs = [.str k, v] ∧ Same G H ∧ ExAt CX G n v ∧ match n with
      | .string p t => if k = "text" ∨ Kh450.isLabel (Kh450.encodeAll t) = true ∨ (k = "identifier" ∧ Kh450.encodeAll t = []) then ∀ b H', Same H H' → G b = some (.tup (nV (Kh450.encodeAll t))) → Q (.ref b) H' else ErrG CE H E (9, p)
      | n => ErrG CE H E (8, n.position)
abbrev spLev (CX CE : Addr) : Sp := fun vs H Q E => ∃ v p n, vs = [v] ∧ ExAt CX H (.integer p n) v ∧ if n < 1 ∨ 6 < n then ErrG CE H E (9, p) else ∀ H', Same H H' → Q (.int ((n : Nat) : Int)) H'
abbrev spAli (CX CE : Addr) : Sp := fun vs H Q E => ∃ v n, vs = [v] ∧ ExAt CX H n v ∧ match n with
      | .symbol p t => if t = Kh450.codesOf "none" ∨ t = Kh450.codesOf "left" ∨ t = Kh450.codesOf "center" ∨ t = Kh450.codesOf "right" then Q (.str ⟨t.toArray⟩) H else ErrG CE H E (9, p)
      | n => ErrG CE H E (8, n.position)
def spArg (CX CN CE : Addr) (rl : Shp → Kh450.Node → RA) (D : Kh450.Node → Prop) : Sp := fun vs H Q E => ∃ G k v n, vs = [.str k, v] ∧ Same G H ∧ ExAt CX G n v ∧ D n ∧ KdOk k n ∧ Rs CN CE G H Q E (rdArgument rl k n)
theorem ExsAt.paired {CX : Addr} {H : Hp} : ∀ {ns : List Kh450.Node} {vs : List V}, ExsAt CX H ns vs → Paired (fun n v => ExAt CX H n v) ns vs
  | [], vs, h => by
    have : vs = [] := by simpa only [ExsAt] using h
    subst this; exact .nil
  | n :: r, vs, h => by
    obtain ⟨v, t, e, q1, q2⟩ := (by simpa only [ExsAt] using h)
    subst e
    exact .cons q1 (ExsAt.paired q2)
abbrev s_read_argument : Stmt := top 59
theorem sc_read_argument : FnScope ["kind", "expression", "part"] ["kind", "expression"] (defScope s_read_argument) := ⟨rfl, rfl, rfl, by decide +kernel, rfl, by decide +kernel, by decide +kernel⟩
theorem ok_read_argument {CX CN CS CE : Addr} {k : Nat} {rl : Shp → Kh450.Node → RA} {Dm : Kh450.Node → Prop} (D : Dn K mg "read_argument" s_read_argument ["kind", "expression"]) (hDm : ∀ p items, Dm (.list p items) → ∀ m ∈ items, Dm m) (hsm : ∀ p items, Dm (.list p items) → items.length ≤ 1000000)
    (o_read_block : OwnOk P w K mg base (L2.CX P w) (k + 6) "read_block" ["expression"] (spRd CX CN CE (rdBlock rl) Dm)) (o_read_inline : OwnOk P w K mg base (L2.CX P w) (k + 6) "read_inline" ["expression"] (spRd CX CN CE (rdInline rl) Dm))
    (o_read_string : OwnOk P w K mg base (L2.CX P w) 5 "read_string" ["kind", "expression"] (spStr CX CE)) (o_read_level : OwnOk P w K mg base (L2.CX P w) 4 "read_level" ["expression"] (spLev CX CE)) (o_read_alignment : OwnOk P w K mg base (L2.CX P w) 4 "read_alignment" ["expression"] (spAli CX CE))
    (o_read_part : OwnOk P w K mg base (L2.CX P w) (k + 5) "read_part" ["symbol", "expression"] (spPart CX CN CE rl Dm)) (k_Node : OwnI P w K mg base CX0 1 "Node" CN ["self", "symbol", "head", "children", "holds"] (spNode CN)) (q_Expression_value : Kf K CX "value") :
    OwnOk P w K mg base (L2.CX P w) (k + 7) "read_argument" ["kind", "expression"] (spArg CX CN CE rl Dm) := by
  refine own_okX D sc_read_argument (fun _ _ _ _ h => by obtain ⟨_, _, _, _, rfl, _⟩ := h; rfl) (fun f cdv A outer s H vs Q E hr h => ⟨_, (pss_cons (ps_if (pt_cmpR op_eq (pv 0) pe_str (nomark _)) (pss_one (ps_ret (pe_own o_read_block (hr.mono (by omega)) rfl (L2.passes_call (L2.takes_of rfl rfl rfl rfl) (fun _ _ _ _ h => h)) (pa_cons (pv 1) pa_nil)))) pss_nil)
    (pss_cons (ps_if (pt_cmpR op_eq (pv 0) pe_str (nomark _)) (pss_one (ps_ret (pe_own o_read_inline (hr.mono (by omega)) rfl (L2.passes_call (L2.takes_of rfl rfl rfl rfl) (fun _ _ _ _ h => h)) (pa_cons (pv 1) pa_nil)))) pss_nil)
    (pss_cons (ps_if (pt_cmpR op_eq (pv 0) pe_str (nomark _)) (pss_one (ps_ret (pe_new k_Node (hr.mono (by omega)) rfl pass0 (pa_cons pe_str (pa_cons (pe_lst pa_nil) (pa_cons (pe_lcX (own := [("part", 2)]) (g := gName 2) (tt := tYes) rfl rfl (L2.takes_of rfl rfl rfl rfl) (fun _ _ _ _ h => h) rfl sc_read_argument.nd (kpi_list (K := K) rfl (pe_fc (K := K) rfl q_Expression_value (pv 1))) (blkOk_by (N := ["kind", "expression", "part"]) (sc := defScope s_read_argument) (by decide +kernel)) ⟨fun _ _ _ _ _ => pg_name (i := 2) sc_read_argument.nd rfl (Or.inl rfl), fun _ _ _ _ _ => pts_nil, fun _ _ _ _ _ _ px => (pe_own o_read_inline (hr.mono (by omega)) rfl px (pa_cons (pv 2) pa_nil))⟩) (pa_cons pe_str pa_nil))))))) pss_nil)
    (pss_cons (ps_if (pt_cmpR (kop_in (K := K) rfl) (pv 0) (pe_tup (pa_cons pe_str (pa_cons pe_str (pa_cons pe_str pa_nil)))) (by rfl)) (pss_one (ps_ret (pe_own o_read_string (hr.mono (by omega)) rfl (L2.passes_call (L2.takes_of rfl rfl rfl rfl) (fun _ _ _ _ h => h)) (pa_cons (pv 0) (pa_cons (pv 1) pa_nil))))) pss_nil)
    (pss_cons (ps_if (pt_cmpR op_eq (pv 0) pe_str (nomark _)) (pss_one (ps_ret (pe_own o_read_level (hr.mono (by omega)) rfl (L2.passes_call (L2.takes_of rfl rfl rfl rfl) (fun _ _ _ _ h => h)) (pa_cons (pv 1) pa_nil)))) pss_nil)
    (pss_cons (ps_if (pt_cmpR op_eq (pv 0) pe_str (nomark _)) (pss_one (ps_ret (pe_fc (K := K) rfl q_Expression_value (pv 1)))) pss_nil)
    (pss_cons (ps_if (pt_cmpR op_eq (pv 0) pe_str (nomark _)) (pss_one (ps_ret (pe_own o_read_alignment (hr.mono (by omega)) rfl (L2.passes_call (L2.takes_of rfl rfl rfl rfl) (fun _ _ _ _ h => h)) (pa_cons (pv 1) pa_nil)))) pss_nil)
    (pss_one (ps_ret (pe_own o_read_part (hr.mono (by omega)) rfl (L2.passes_call (L2.takes_of rfl rfl rfl rfl) (fun _ _ _ _ h => h)) (pa_cons (pv 0) (pa_cons (pv 1) pa_nil)))))))))))), ?_⟩)
  obtain ⟨G, kd, v, n, rfl, sG, hx, hD, hk, q⟩ := h
  unfold rdArgument at q
  walk_at "sx"
  obtain ⟨a, dx, x, rfl, h1⟩ := hx.rec'
  by_cases k1 : kd = "block"
  · rw [if_pos k1] at q
    exact ite2 (fun _ => ⟨G, _, n, rfl, sG, hx, hD, q⟩) (fun z => absurd (decide_eq_true k1) z)
  rw [if_neg k1] at q
  refine ite2 (fun z => absurd (of_decide_eq_true z) k1) (fun _ => ?_)
  by_cases k2 : kd = "inline"
  · rw [if_pos k2] at q
    exact ite2 (fun _ => ⟨G, _, n, rfl, sG, hx, hD, q⟩) (fun z => absurd (decide_eq_true k2) z)
  rw [if_neg k2] at q
  refine ite2 (fun z => absurd (of_decide_eq_true z) k2) (fun _ => ?_)
  by_cases k3 : kd = "inlines"
  · rw [if_pos k3] at q
    refine ite2 (fun _ => ?_) (fun z => absurd (decide_eq_true k3) z)
    have hl := hk.inl k3
    obtain ⟨p, items, rfl⟩ : ∃ p items, n = .list p items := by
      cases n with
      | list p items => exact ⟨p, items, rfl⟩
      | symbol p t => cases hl
      | integer p t => cases hl
      | string p t => cases hl
    obtain ⟨a2, dx2, b, vs, e2, h2, h3, h4⟩ := (by simpa only [ExAt] using hx)
    cases e2
    refine ⟨Nat.zero_le _, fun hb hhb => ?_⟩
    have e0 : Ext G H (upd G hb (.lst [])) (upd H hb (.lst [])) := (Ext.refl sG).made hhb
    have hh : (upd G hb (.lst [])) hb = some (.lst []) := upd_same
    generalize upd G hb (.lst []) = G1 at e0 hh
    generalize upd H hb (.lst []) = H1 at e0 ⊢
    have hb1 : H1 b = some (.lst vs) := e0.sub _ _ (e0.up _ _ h3)
    have e0' : Ext G H G1 H1 := e0
    have hh1 := e0.sub _ _ hh
    have hitems : itemsOf (.list p items) = items := rfl
    rw [hitems] at q
    have hR := ExsAt.paired (ExsAt.same e0.up _ _ h4)
    have hlen : vs.length < sizeLine := by rw [h4.len]; exact lt_line (hsm p items hD)
    refine ⟨_, rfl, a, dx2, _, _, rfl, e0.sub _ _ (e0.up _ _ h2), ex_value, b, rfl, ⟨_, SqL.of hb1⟩, fun F hF => lcX_gen (R := fun m v G => ExAt CX G m v) (Err := fun y H => ErrG CE H E y) (fun x v G => ArgAt CN G x v) (rdInline rl)
      (fun i H s hi => ⟨vs, vs[i], s.seq (SqL.of hb1), by simp [hi]⟩) (fun H s => ⟨vs, s.seq (SqL.of hb1), Nat.le_refl _⟩) (fun i H x H' s y => by obtain ⟨rfl, y⟩ := y; exact ⟨rfl, y _ (s.seq (SqL.of hb1))⟩)
      e0.sub hR hlen hF (fun m v _ _ s h => ExAt.same s m v h) (fun m v _ _ s h => ArgAt.same s m v h) (fun _ => rfl) (fun x H Q k => k) (fun m x G2 H2 hm e hx2 Q' k => ?_) (fun y G2 H2 hc e => ?_) (fun bs G2 H2 ys hc e hFl gF hy => ?_)⟩
    · refine ⟨_, rfl, G2, x, m, rfl, e.sub, hx2, hDm _ _ hD m hm, ?_⟩
      cases hf : rdInline rl m with
      | error y => rw [hf] at k; exact k
      | ok z => rw [hf] at k; exact k
    · rw [hc] at q
      exact ErrG.go q (e0.same.trans e.same)
    · rw [hc] at q
      intro r dxn hr hdx ne
      refine ⟨r, dxn, "", .ref hb, .ref F, "inline", rfl, upd_same, rfl, ?_⟩
      rw [upd_upd]
      have eF := (e0.trans e).pub (e0.same.free hF) hFl
      have e3 := eF.made (p := dxn) (o := .own r) hdx
      have e4 := e3.made (p := r) (o := .ins CN dxn (ndF "" (.ref hb) (.ref F) "inline")) ((upd_ne ne.symm).trans hr)
      refine q (.ref r) _ _ e4 ?_
      have up2 : Same G2 (upd (upd (upd G2 F (.lst ys)) dxn (.own r)) r (.ins CN dxn (ndF "" (.ref hb) (.ref F) "inline"))) := by
        have u1 : Same G2 (upd G2 F (.lst ys)) := same_new gF
        have u2 : Same (upd G2 F (.lst ys)) (upd (upd G2 F (.lst ys)) dxn (.own r)) := same_new (eF.gnone hdx)
        have u3 : Same (upd (upd G2 F (.lst ys)) dxn (.own r)) (upd (upd (upd G2 F (.lst ys)) dxn (.own r)) r (.ins CN dxn (ndF "" (.ref hb) (.ref F) "inline"))) := same_new (e3.gnone ((upd_ne ne.symm).trans hr))
        exact u1.trans (u2.trans u3)
      have Fr : F ≠ r := fun z => by rw [z, hr] at hFl; cases hFl
      have Fd : F ≠ dxn := fun z => by rw [z, hdx] at hFl; cases hFl
      simp only [ArgAt]
      refine ⟨r, dxn, hb, F, [], ys, rfl, upd_same, up2 _ _ (e.up _ _ hh), (upd_ne Fr).trans ((upd_ne Fd).trans upd_same), by simp only [ArgsAt], ArgsAt.same up2 _ _ (ArgsAt.paired hy)⟩
  rw [if_neg k3] at q
  refine ite2 (fun z => absurd (of_decide_eq_true z) k3) (fun _ => ?_)
  refine ⟨le_line (by omega), fun tp htp => ⟨tp, _, rfl, .inr (SqT.of upd_same), rfl, rfl, _, rfl, ?_⟩⟩
  have s1 : Same H (upd H tp (.tup [V.str (Str.ofString "text"), V.str (Str.ofString "identifier"), V.str (Str.ofString "label")])) := same_new htp
  generalize upd H tp (.tup [V.str (Str.ofString "text"), V.str (Str.ofString "identifier"), V.str (Str.ofString "label")]) = H1 at s1 ⊢
  have hin : inV (V.str kd) [V.str (Str.ofString "text"), V.str (Str.ofString "identifier"), V.str (Str.ofString "label")] = decide (kd = "text" ∨ kd = "identifier" ∨ kd = "label") := by
    simp only [inV, List.any_cons, List.any_nil, eqV, Bool.or_false]
    rw [Bool.eq_iff_iff]
    simp only [Bool.or_eq_true, decide_eq_true_eq, beq_iff_eq]
    exact ⟨fun h => h.imp Eq.symm fun h => h.imp Eq.symm Eq.symm, fun h => h.imp Eq.symm fun h => h.imp Eq.symm Eq.symm⟩
  rw [hin]
  have q1 := Rs.go sG q s1
  have sG1 := sG.trans s1
  by_cases k4 : kd = "text" ∨ kd = "identifier" ∨ kd = "label"
  · rw [if_pos k4] at q1
    rw [decide_eq_true k4]
    refine iteT ⟨G, kd, _, n, rfl, sG1, hx, ?_⟩
    cases n with
    | symbol p t => exact q1
    | integer p t => exact q1
    | list p t => exact q1
    | string p t =>
      show if _ then _ else _
      by_cases hc : kd = "text" ∨ Kh450.isLabel (Kh450.encodeAll t) = true ∨ (kd = "identifier" ∧ Kh450.encodeAll t = [])
      · have e : rdStr kd (.string p t) = .ok (.text (Kh450.encodeAll t)) := if_pos hc
        rw [e] at q1
        rw [if_pos hc]
        exact fun b H' s' hb => q1 (.ref b) G H' ((Ext.refl sG1).heap s') (by simp only [ArgAt]; exact ⟨b, rfl, hb⟩)
      · have e : rdStr kd (.string p t) = .error (9, p) := if_neg hc
        rw [e] at q1
        rw [if_neg hc]
        exact q1
  rw [if_neg k4] at q1
  rw [decide_eq_false k4]
  refine iteF ?_
  by_cases k5 : kd = "level"
  · rw [if_pos k5] at q1
    refine ite2 (fun _ => ?_) (fun z => absurd (decide_eq_true k5) z)
    have hi := hk.int (.inl k5)
    cases n with
    | symbol p t => cases hi
    | list p t => cases hi
    | string p t => cases hi
    | integer p m =>
      refine ⟨_, p, m, rfl, ExAt.same sG1 _ _ hx, ?_⟩
      by_cases hc : m < 1 ∨ 6 < m
      · have e : rdLevel (.integer p m) = .error (9, p) := if_pos hc
        rw [e] at q1
        rw [if_pos hc]; exact q1
      · have e : rdLevel (.integer p m) = .ok (.int m) := if_neg hc
        rw [e] at q1
        rw [if_neg hc]
        exact fun H2 s2 => q1 _ G H2 ((Ext.refl sG1).heap s2) (by simp only [ArgAt])
  rw [if_neg k5] at q1
  refine ite2 (fun z => absurd (of_decide_eq_true z) k5) (fun _ => ?_)
  by_cases k6 : kd = "number"
  · rw [if_pos k6] at q1
    refine ite2 (fun _ => ?_) (fun z => absurd (decide_eq_true k6) z)
    have hi := hk.int (.inr k6)
    cases n with
    | symbol p t => cases hi
    | list p t => cases hi
    | string p t => cases hi
    | integer p m =>
      obtain ⟨a2, dx2, e2, h2⟩ := (by simpa only [ExAt] using hx)
      cases e2
      exact ⟨a, rfl, dx2, _, sG1 _ _ h2, _, ex_value, q1 _ G H1 (Ext.refl sG1) (by simp only [ArgAt])⟩
  rw [if_neg k6] at q1
  refine ite2 (fun z => absurd (of_decide_eq_true z) k6) (fun _ => ?_)
  by_cases k7 : kd = "alignment"
  · rw [if_pos k7] at q1
    refine ite2 (fun _ => ⟨_, n, rfl, ExAt.same sG1 _ _ hx, ?_⟩) (fun z => absurd (decide_eq_true k7) z)
    cases n with
    | integer p t => exact q1
    | list p t => exact q1
    | string p t => exact q1
    | symbol p t =>
      show if _ then _ else _
      by_cases hc : t = Kh450.codesOf "none" ∨ t = Kh450.codesOf "left" ∨ t = Kh450.codesOf "center" ∨ t = Kh450.codesOf "right"
      · have e : rdAlign (.symbol p t) = .ok (.sym t) := if_pos hc
        rw [e] at q1
        rw [if_pos hc]
        exact q1 _ G H1 (Ext.refl sG1) (by simp only [ArgAt])
      · have e : rdAlign (.symbol p t) = .error (9, p) := if_neg hc
        rw [e] at q1
        rw [if_neg hc]; exact q1
  rw [if_neg k7] at q1
  refine ite2 (fun z => absurd (of_decide_eq_true z) k7) (fun _ => ?_)
  have hp := hk.part (fun z => by
    rcases z with z | z | z | z | z | z | z | z | z
    · exact k1 z
    · exact k2 z
    · exact k3 z
    · exact k4 (.inl z)
    · exact k4 (.inr (.inl z))
    · exact k4 (.inr (.inr z))
    · exact k5 z
    · exact k6 z
    · exact k7 z)
  have ek : (⟨kd.cps.toList.toArray⟩ : Str) = kd := by simp
  exact ⟨G, _, n, kd.cps.toList, by rw [ek], sG1, hx, hD, by rw [ek]; exact hp, q1⟩

end
end Bt

namespace Bt
open PySem PySem.Spec PyProof.Rows L2
local macro_rules | `(tactic| walk_at "sx") => `(tactic| simp only [cxK, tTru, rLen, rListOf, rTupOf, tRet, tRetN, tChain, tRng, tCB, tCons, tNil, tC, tVar, tOp, tUn, tTest, tB, tAnd, tOr, tNot, tIfS, tSeq, tIf, tOrV, tAndV, tNotV, tCall, tSl, tPart, tNoPart, tLst, tTup, tBM, tBM0, rExtendS, iList, iTup, iSeqV, rIxL, rIxT, rSlL, rAppend, rExtend, rCat, rI0, rI, rIxS, rEq, rNe, rU, tAsg, gName, tDrop, tNext, scal, L2.start, List.map_cons, List.map_nil, List.length_cons, List.length_nil, Nat.reduceAdd, Nat.reduceSub, List.replicate_succ, List.replicate_zero, List.append_nil, List.cons_append, List.nil_append, List.getElem?_cons_zero, List.getElem?_cons_succ, Option.some.injEq, exists_eq_left', exists_eq_left, V.int.injEq, V.bl.injEq, V.str.injEq, V.ref.injEq, List.cons.injEq, and_true, true_and, exists_and_left, List.set_cons_zero, List.set_cons_succ, spN1_run, tFC, sFC, sFCAug, tMeth, tMake, sRaise, tErF, rAdd, rPop, tM1, tCallL, Option.some.injEq, HO.ins.injEq])
local macro_rules | `(tactic| walk_at "sm") => `(tactic| (repeat (first | exact Same.refl _ | assumption | (refine Same.trans ?_ (same_new (by assumption))) | (refine Same.trans ?_ (by assumption)))))
section
variable {P : Program} {w : World} {K : PySem.W.Frag} {mg : Str → Option Value} {base : Heap}
/-! ### read_list -/
/-- a list over zip whose items raise -/
theorem lcX_zip {α β : Type} {K : PySem.W.Frag} {a b : Addr} {as : List α} {xs ys : List V} {R : α → V → V → Hp → Prop} {j1 j2 : Nat} {tt : TT} {te : TE} {ws : List Nat} {σ : L2.St} {G1 H1 : Hp} {D : Addr} {Qd : Hp → Prop} {Err : (Nat × Nat) → Hp → Prop} (S : β → V → Hp → Prop) (f : α → Kh450.Checked β)
    (hx : SqL K H1 a xs) (hy : SqL K H1 b ys) (hG : Same G1 H1) (hR : ∀ (i : Nat) x y, xs[i]? = some x → ys[i]? = some y → ∃ c, as[i]? = some c ∧ R c x y G1) (hn : as.length = min xs.length ys.length) (hlen : as.length < sizeLine) (hD : H1 D = none)
    (st : ∀ c x y H H', Same H H' → R c x y H → R c x y H') (st2 : ∀ b v H H', Same H H' → S b v H → S b v H')
    (hw : ∀ x y, wipe (((wipe σ ws).set j1 (some x)).set j2 (some y)) ws = wipe σ ws)
    (ht : ∀ x y H (Q : Bool → Hp → Prop), Q true H → tt (((wipe σ ws).set j1 (some x)).set j2 (some y)) H Q)
    (he : ∀ c x y G H, c ∈ as → Ext G1 H1 G H → R c x y G → ∀ Q : VK, (match f c with | .ok b => ∀ y G' H', Ext G H G' H' → S b y G' → Q y H' | .error e => Err e H) → te (((wipe σ ws).set j1 (some x)).set j2 (some y)) H Q)
    (hE : ∀ e G H, Kh450.collect f as = .error e → Ext G1 H1 G H → Err e H)
    (hd : ∀ bs G H ys, Kh450.collect f as = .ok bs → Ext G1 H1 G H → H D = some (.lst ys) → G D = none → Paired (fun b v => S b v G) bs ys → Qd H) :
    ∃ W : Nat → Nat → Hp → Prop, (∃ m, W 0 m (upd H1 D (.lst []))) ∧ ∀ i m H, W i m H →
      ((Itz K a b).stop i H ∧ Qd H) ∨ ((Itz K a b).go i H ∧ ∃ Nx : Hp → Prop, (∀ H', Nx H' → ∃ m', m' < m ∧ W (i + 1) m' H') ∧ ∀ x H', (Itz K a b).yld i H x H' → gTup K 2 (gCons (gName j1) (gCons (gName j2) gNil)) x (wipe σ ws) H' fun σ2 H2 => wipe σ2 ws = wipe σ ws ∧ tt σ2 H2 fun b H3 =>
        if b = true then te σ2 H3 fun y H4 => ∃ acc, H4 D = some (.lst acc) ∧ acc.length < sizeLine ∧ Nx (upd H4 D (.lst (acc ++ [y]))) else Nx H3) := by
  refine ⟨fun i m H => m = as.length - i ∧ i ≤ as.length ∧ ∃ G ys bs, Ext G1 H1 G H ∧ G D = none ∧ H D = some (.lst ys) ∧ ys.length ≤ i ∧ Kh450.collect f (as.take i) = .ok bs ∧ Paired (fun b v => S b v G) bs ys,
    ⟨_, rfl, Nat.zero_le _, G1, [], [], (Ext.refl hG).priv hD, hG.free hD, upd_same, Nat.le_refl _, rfl, .nil⟩, ?_⟩
  rintro i m H ⟨rfl, hi, G, zs, bs, e, gD, hzs, hl, hc, hp⟩
  have qx := e.same.seq hx
  have qy := e.same.seq hy
  by_cases hlt : i < as.length
  · have ix : i < xs.length := by omega
    have iy : i < ys.length := by omega
    have ex : xs[i]? = some xs[i] := List.getElem?_eq_getElem ix
    have ey : ys[i]? = some ys[i] := List.getElem?_eq_getElem iy
    refine .inr ⟨⟨xs, ys, _, _, qx, qy, ex, ey⟩, fun H => i + 1 ≤ as.length ∧ ∃ G ys bs, Ext G1 H1 G H ∧ G D = none ∧ H D = some (.lst ys) ∧ ys.length ≤ i + 1 ∧ Kh450.collect f (as.take (i + 1)) = .ok bs ∧ Paired (fun b v => S b v G) bs ys, fun H' q => ⟨_, by omega, rfl, q⟩, fun v H' y => ?_⟩
    obtain ⟨T, x', y', rfl, hT, rfl, f1, f2⟩ := y
    have f1 := f1 xs qx
    have f2 := f2 ys qy
    have sT := same_new (o := .tup [x', y']) hT
    refine ⟨T, [x', y'], rfl, SqT.of upd_same, rfl, x', _, rfl, y', _, rfl, rfl, hw x' y', ?_⟩
    obtain ⟨c, hcx, hRc⟩ := hR i x' y' f1 f2
    have hcm : c ∈ as := List.mem_of_getElem? hcx
    have hRx : R c x' y' G := st _ _ _ _ _ e.up hRc
    have eT := e.heap sT
    refine ht x' y' _ _ (iteT (he c x' y' G _ hcm eT hRx _ ?_))
    have hzs1 := sT _ _ hzs
    generalize upd H T (.tup [x', y']) = H3 at eT hzs1 ⊢
    cases hf : f c with
    | error er =>
      refine hE er G _ ?_ eT
      have : as = as.take i ++ c :: as.drop (i + 1) := by
        have h1 := List.take_append_drop i as
        rw [List.drop_eq_getElem_cons (List.getElem?_eq_some_iff.mp hcx).1, (List.getElem?_eq_some_iff.mp hcx).2] at h1
        exact h1.symm
      rw [this]
      exact collect_err f _ hf hc
    | ok b =>
      intro y G4 H4 e4 hy
      have hy4 : H4 D = some (.lst zs) := e4.same _ _ hzs1
      have g4 : G4 D = none := e4.stay gD hzs1
      refine ⟨zs, hy4, by omega, hlt, G4, zs ++ [y], bs ++ [b], (eT.trans e4).mut hD g4, g4, upd_same, by simp; omega, ?_, (paired_same st2 e4.up hp).snoc hy⟩
      rw [take_at hcx, collect_snoc, hc]
      show (f c).map _ = _
      rw [hf]; rfl
  · have e0 : i = as.length := by omega
    subst e0
    have e' : as.take as.length = as := List.take_of_length_le (Nat.le_refl _)
    rw [e'] at hc
    exact .inl ⟨⟨xs, ys, qx, qy, by omega⟩, hd bs G H zs hc e hzs gD hp⟩
theorem collect_len {α β : Type} (f : α → Kh450.Checked β) : ∀ {l : List α} {bs : List β}, Kh450.collect f l = .ok bs → bs.length = l.length
  | [], bs, h => by cases h; rfl
  | a :: r, bs, h => by
    have h' : (f a).bind (fun y => (Kh450.collect f r).map fun ys => y :: ys) = .ok bs := h
    cases hb : f a with
    | error e => rw [hb] at h'; cases h'
    | ok b =>
      rw [hb] at h'
      cases hc : Kh450.collect f r with
      | error e => have h2 : (Kh450.collect f r).map (fun ys => b :: ys) = .ok bs := h'; rw [hc] at h2; cases h2
      | ok cs =>
        have h2 : (Kh450.collect f r).map (fun ys => b :: ys) = .ok bs := h'
        rw [hc] at h2; cases h2
        simp [collect_len f hc]
/-- how deep, and how long -/
def DepOk : Nat → Kh450.Node → Prop
  | 0, .list _ _ => False
  | j + 1, .list _ items => items.length ≤ 1000000 ∧ ∀ m ∈ items, DepOk j m
  | _, _ => True
theorem DepOk.up : ∀ {j : Nat} {n : Kh450.Node}, DepOk j n → DepOk (j + 1) n
  | 0, .list _ _, h => h.elim
  | j + 1, .list _ items, h => ⟨h.1, fun m hm => DepOk.up (h.2 m hm)⟩
  | _, .symbol _ _, _ => by simp only [DepOk]
  | _, .integer _ _, _ => by simp only [DepOk]
  | _, .string _ _, _ => by simp only [DepOk]
theorem DepOk.items {j : Nat} {p : Nat} {items : List Kh450.Node} (h : DepOk j (.list p items)) : ∀ m ∈ items, DepOk j m := by
  cases j with
  | zero => exact h.elim
  | succ j => exact fun m hm => (h.2 m hm).up
theorem DepOk.size {j : Nat} {p : Nat} {items : List Kh450.Node} (h : DepOk j (.list p items)) : items.length ≤ 1000000 := by
  cases j with
  | zero => exact h.elim
  | succ j => exact h.1
theorem ArgsAt.len {CN : Addr} {H : Hp} : ∀ {ns : List Arg} {vs : List V}, ArgsAt CN H ns vs → vs.length = ns.length
  | [], vs, h => by
    have : vs = [] := by simpa only [ArgsAt] using h
    subst this; rfl
  | n :: r, vs, h => by
    obtain ⟨v, t, rfl, _, h2⟩ := (by simpa only [ArgsAt] using h)
    simp [ArgsAt.len h2]
theorem rdList_node : ∀ (j : Nat) (s : Shp) (n : Kh450.Node) (x : Arg), rdList j s n = .ok x → ∃ a b c d, x = .node a b c d
  | 0, s, n, x, h => by cases h
  | j + 1, s, n, x, h => by
    unfold rdList at h
    cases h1 : Kh450.collect (fun y : Str × Kh450.Node => rdArgument (rdList j) y.1 y.2) (s.1.zip (argsOf n)) with
    | error e => rw [h1] at h; cases h
    | ok hd =>
      rw [h1] at h
      have h' : (if s.2.1 = "row" then Kh450.collect (rdRow (rdList j) ((hd.getLast?.map childrenOf).getD []).length) ((argsOf n).drop hd.length) else Kh450.collect (rdArgument (rdList j) s.2.1) ((argsOf n).drop hd.length)).map (fun c => Arg.node (symName n) hd c s.2.1) = .ok x := h
      generalize (if s.2.1 = "row" then Kh450.collect (rdRow (rdList j) ((hd.getLast?.map childrenOf).getD []).length) ((argsOf n).drop hd.length) else Kh450.collect (rdArgument (rdList j) s.2.1) ((argsOf n).drop hd.length)) = z at h'
      cases z with
      | error e => cases h'
      | ok c => cases h'; exact ⟨_, _, _, _, rfl⟩
theorem rdPart_node {rl : Shp → Kh450.Node → RA} (hrl : ∀ s n x, rl s n = .ok x → ∃ a b c d, x = .node a b c d) {z : List Nat} {n : Kh450.Node} {x : Arg} (h : rdPart rl z n = .ok x) : ∃ a b c d, x = .node a b c d := by
  unfold rdPart at h
  split at h
  · cases h1 : rl (shOf ((PTt.lookup ⟨z.toArray⟩).getD [])) n with
    | error e => rw [h1] at h; cases h
    | ok y =>
      rw [h1] at h
      have h' : (if z = Kh450.codesOf "align" ∧ childrenOf y = [] then (.error (8, n.position) : RA) else .ok y) = .ok x := h
      split at h'
      · cases h'
      · cases h'; exact hrl _ _ _ h1
  · cases h
theorem rdArgument_align {j : Nat} {n : Kh450.Node} {x : Arg} (h : rdArgument (rdList j) "align" n = .ok x) : ∃ a b c d, x = .node a b c d := by
  unfold rdArgument at h
  rw [if_neg (by decide +kernel), if_neg (by decide +kernel), if_neg (by decide +kernel), if_neg (by decide +kernel), if_neg (by decide +kernel), if_neg (by decide +kernel), if_neg (by decide +kernel)] at h
  exact rdPart_node (rdList_node j) h
theorem collect_last {f : Str × Kh450.Node → RA} {ks : List Str} {k : Str} {args : List Kh450.Node} {bs : List Arg} (hk : ks.getLast? = some k) (hle : ks.length ≤ args.length) (h : Kh450.collect f (ks.zip args) = .ok bs) : ∃ bs0 b, bs = bs0 ++ [b] ∧ ∃ m, m ∈ args ∧ f (k, m) = .ok b := by
  obtain ⟨A, rfl⟩ : ∃ A, ks = A ++ [k] := by
    refine ⟨ks.dropLast, ?_⟩
    have hne : ks ≠ [] := fun e => by rw [e] at hk; cases hk
    rw [List.getLast?_eq_some_getLast hne] at hk
    rw [← Option.some.inj hk, List.dropLast_concat_getLast]
  rw [List.length_append, List.length_singleton] at hle
  have hm : A.length < args.length := by omega
  have ea : args = args.take A.length ++ args[A.length] :: args.drop (A.length + 1) := by rw [← List.drop_eq_getElem_cons hm, List.take_append_drop]
  have ez : (A ++ [k]).zip args = A.zip (args.take A.length) ++ [(k, args[A.length])] := by
    conv => lhs; rw [ea]
    rw [List.zip_append (by rw [List.length_take]; omega)]
    rfl
  rw [ez, collect_snoc] at h
  cases h1 : Kh450.collect f (A.zip (args.take A.length)) with
  | error e => rw [h1] at h; cases h
  | ok b0 =>
    rw [h1] at h
    have h' : (f (k, args[A.length])).map (fun b => b0 ++ [b]) = .ok bs := h
    cases h2 : f (k, args[A.length]) with
    | error e => rw [h2] at h'; cases h'
    | ok b => rw [h2] at h'; cases h'; exact ⟨b0, b, rfl, _, List.getElem_mem hm, h2⟩
theorem cut_drop (xs : List V) (k : Nat) : cutV xs (some (k : Int)) none = xs.drop k := by
  unfold cutV
  rw [HT.sIx_nat]
  show (xs.drop (min k xs.length)).take (xs.length - min k xs.length) = xs.drop k
  rw [List.take_of_length_le (by rw [List.length_drop]; exact Nat.le_refl _)]
  by_cases h : k ≤ xs.length
  · rw [Nat.min_eq_left h]
  · rw [Nat.min_eq_right (by omega), List.drop_of_length_le (Nat.le_refl _), List.drop_of_length_le (by omega)]
theorem drop_min {α : Type} {l : List α} {a k : Nat} (h : k = min a l.length) : l.drop k = l.drop a := by
  rw [h]
  by_cases c : a ≤ l.length
  · rw [Nat.min_eq_left c]
  · rw [Nat.min_eq_right (by omega), List.drop_of_length_le (Nat.le_refl _), List.drop_of_length_le (by omega)]
theorem Paired.drop {α β : Type} {F : α → β → Prop} : ∀ (k : Nat) {l : List α} {m : List β}, Paired F l m → Paired F (l.drop k) (m.drop k)
  | 0, _, _, h => h
  | _ + 1, _, _, .nil => .nil
  | k + 1, _, _, .cons _ t => Paired.drop k t
abbrev s_read_list : Stmt := top 58
theorem sc_read_list : FnScope ["expression", "shape", "arguments", "head", "rest", "columns", "children", "kind", "argument"] ["expression", "shape"] (defScope s_read_list) := ⟨rfl, rfl, rfl, by decide +kernel, rfl, by decide +kernel, by decide +kernel⟩
theorem rd_list0 {CX CN CS CE : Addr} {rl : Shp → Kh450.Node → RA} (D : Dn K mg "read_list" s_read_list ["expression", "shape"]) :
    OwnOk P w K mg base (L2.CX P w) 4 "read_list" ["expression", "shape"] (spRL CX CN CS CE rl (DepOk 0)) := by
  refine own_okX D sc_read_list (fun _ _ _ _ h => by obtain ⟨_, _, _, _, _, _, _, rfl, _⟩ := h; rfl) (fun f cdv A outer s H vs Q E hr h => ?_)
  exfalso
  obtain ⟨G, v, r, n, s0, dx, Ld, rfl, sG, hx, hD, hs, _⟩ := h
  obtain ⟨p, p0, t, args, rfl⟩ := list_of_sym hs
  exact hD
theorem ok_read_list {CX CN CS CE : Addr} {k j : Nat} (D : Dn K mg "read_list" s_read_list ["expression", "shape"]) (n_len : mg "len" = none) (n_zip : mg "zip" = none)
    (o_list_symbol : OwnOk P w K mg base CX0 1 "list_symbol" ["expression"] (spSym CX)) (o_read_argument : OwnOk P w K mg base (L2.CX P w) (k + 7) "read_argument" ["kind", "expression"] (spArg CX CN CE (rdList j) (DepOk j)))
    (o_read_row : OwnOk P w K mg base (L2.CX P w) (k + 6) "read_row" ["expression", "columns"] (spRow CX CN CE (rdList j) (DepOk j))) (k_Node : OwnI P w K mg base CX0 1 "Node" CN ["self", "symbol", "head", "children", "holds"] (spNode CN))
    (q_Expression_value : Kf K CX "value") (q_Shape_leading : Kf K CS "leading") (q_Shape_following : Kf K CS "following") (q_Node_children : Kf K CN "children") :
    OwnOk P w K mg base (L2.CX P w) (k + 8) "read_list" ["expression", "shape"] (spRL CX CN CS CE (rdList (j + 1)) (DepOk (j + 1))) := by
  refine own_okX D sc_read_list (fun _ _ _ _ h => by obtain ⟨_, _, _, _, _, _, _, rfl, _⟩ := h; rfl) (fun f cdv A outer s H vs Q E hr h => ⟨_, (pss_cons (ps_set (i := 2) sc_read_list.nd rfl (by first | exact Or.inl rfl | exact Or.inr rfl) (pe_slice (ksl_list (K := K) rfl) (pe_fc (K := K) rfl q_Expression_value (pv 0)) (po_some pe_int) po_none))
    (pss_cons (ps_setLcX (i := 3) (own := [("kind", 7), ("argument", 8)]) (g := gTup K 2 (gCons (gName 7) (gCons (gName 8) gNil))) (tt := tYes) rfl rfl (L2.takes_of rfl rfl rfl rfl) (fun _ _ _ _ h => h) rfl sc_read_list.nd rfl rfl (sw_true rfl rfl rfl (by decide +kernel)) (kpi_zip (K := K) rfl (by rfl) n_zip (pa_cons (pe_fc (K := K) rfl q_Shape_leading (pv 1)) (pa_cons (pv 2) pa_nil))) (blkOk_by (N := ["expression", "shape", "arguments", "head", "rest", "columns", "children", "kind", "argument"]) (sc := defScope s_read_list) (by decide +kernel)) ⟨fun _ _ _ _ _ => kpg_tup (K := K) rfl rfl (pgs_cons (pg_name (i := 7) sc_read_list.nd rfl (Or.inl rfl)) (pgs_cons (pg_name (i := 8) sc_read_list.nd rfl (Or.inl rfl)) pgs_nil)), fun _ _ _ _ _ => pts_nil, fun _ _ _ _ _ _ px => (pe_own o_read_argument (hr.mono (by omega)) rfl px (pa_cons (pv 7) (pa_cons (pv 8) pa_nil)))⟩)
    (pss_cons (ps_set (i := 4) sc_read_list.nd rfl (by first | exact Or.inl rfl | exact Or.inr rfl) (pe_slice (ksl_list (K := K) rfl) (pv 2) (po_some (pe_callB (kcall_len (K := K) rfl) (by rfl) n_len PySem.boot_len (pa_cons (pv 3) pa_nil))) po_none))
    (pss_cons (ps_if (pt_cmpR op_eq (pe_fc (K := K) rfl q_Shape_following (pv 1)) pe_str (nomark _)) (pss_cons (ps_set (i := 5) sc_read_list.nd rfl (by first | exact Or.inl rfl | exact Or.inr rfl) (pe_callB (kcall_len (K := K) rfl) (by rfl) n_len PySem.boot_len (pa_cons (pe_fc (K := K) rfl q_Node_children (pe_ix (kix_list (K := K) rfl) (pv 3) (pe_un un_neg pe_int) (fun _ _ => rfl))) pa_nil)))
    (pss_one (ps_setLcX (i := 6) (own := [("argument", 8)]) (g := gName 8) (tt := tYes) rfl rfl (L2.takes_of rfl rfl rfl rfl) (fun _ _ _ _ h => h) rfl sc_read_list.nd rfl rfl (sw_true rfl rfl rfl (by decide +kernel)) (kpi_list (K := K) rfl (pv 4)) (blkOk_by (N := ["expression", "shape", "arguments", "head", "rest", "columns", "children", "kind", "argument"]) (sc := defScope s_read_list) (by decide +kernel)) ⟨fun _ _ _ _ _ => pg_name (i := 8) sc_read_list.nd rfl (Or.inl rfl), fun _ _ _ _ _ => pts_nil, fun _ _ _ _ _ _ px => (pe_own o_read_row (hr.mono (by omega)) rfl px (pa_cons (pv 8) (pa_cons (pv 5) pa_nil)))⟩))) (pss_one (ps_setLcX (i := 6) (own := [("argument", 8)]) (g := gName 8) (tt := tYes) rfl rfl (L2.takes_of rfl rfl rfl rfl) (fun _ _ _ _ h => h) rfl sc_read_list.nd rfl rfl (sw_true rfl rfl rfl (by decide +kernel)) (kpi_list (K := K) rfl (pv 4)) (blkOk_by (N := ["expression", "shape", "arguments", "head", "rest", "columns", "children", "kind", "argument"]) (sc := defScope s_read_list) (by decide +kernel)) ⟨fun _ _ _ _ _ => pg_name (i := 8) sc_read_list.nd rfl (Or.inl rfl), fun _ _ _ _ _ => pts_nil, fun _ _ _ _ _ _ px => (pe_own o_read_argument (hr.mono (by omega)) rfl px (pa_cons (pe_fc (K := K) rfl q_Shape_following (pv 1)) (pa_cons (pv 8) pa_nil)))⟩)))
    (pss_one (ps_ret (pe_new k_Node (hr.mono (by omega)) rfl pass0 (pa_cons (pe_own o_list_symbol (hr.mono (by omega)) rfl pass0 (pa_cons (pv 0) pa_nil)) (pa_cons (pv 3) (pa_cons (pv 6) (pa_cons (pe_fc (K := K) rfl q_Shape_following (pv 1)) pa_nil))))))))))), ?_⟩)
  obtain ⟨G, v, r, n, s0, dx, Ld, rfl, sG, hx, hD, hs, S, hrl, q⟩ := h
  obtain ⟨p, p0, t, args, rfl⟩ := list_of_sym hs
  obtain ⟨a, dxe, b, vs, rfl, h2, h3, h4⟩ := (by simpa only [ExAt] using hx)
  obtain ⟨v0, t', rfl, hm, h5⟩ := (by simpa only [ExsAt] using h4)
  have dargs : ∀ m ∈ args, DepOk j m := fun m hm => hD.2 m (List.mem_cons_of_mem _ hm)
  have dlen : args.length ≤ 1000000 := by have := hD.1; simp only [List.length_cons] at this; omega
  have hl5 := h5.len
  have ea : argsOf (.list p (.symbol p0 t :: args)) = args := rfl
  walk_at "sx"
  refine ⟨dxe, _, sG _ _ h2, _, ex_value, b, rfl, _, SqL.of (sG _ _ h3), fun c hc => ?_⟩
  rw [cut_tail]
  have s1 : Same H (upd H c (.lst t')) := same_new hc
  have hc1 : (upd H c (.lst t')) c = some (.lst t') := upd_same
  have S1 : ShAt CS r dx Ld s0 (upd H c (.lst t')) := ⟨s1 _ _ S.at_, s1 _ _ S.lead⟩
  generalize upd H c (.lst t') = H1 at s1 hc1 S1 ⊢
  have sG1 := sG.trans s1
  have qq : Rs CN CE G H1 Q E (rdList (j + 1) s0 (.list p (.symbol p0 t :: args))) := Rs.go sG q s1
  unfold rdList at qq
  rw [ea] at qq
  have ex5 := ExsAt.paired h5
  refine ⟨.ref r, rfl, r, dx, _, .ref Ld, rfl, S1.at_, sh_lead, .ref c, rfl, Ld, c, _, _, rfl, SqL.of S1.lead, SqL.of hc1, fun F hF => lcX_zip (as := s0.1.zip args) (R := fun y v1 v2 G => v1 = .str y.1 ∧ ExAt CX G y.2 v2) (Err := fun e H => ErrG CE H E e) (fun x v G => ArgAt CN G x v) (fun y => rdArgument (rdList j) y.1 y.2)
    (SqL.of S1.lead) (SqL.of hc1) sG1 (fun i x y hx hy => ?_) (by rw [List.length_zip, List.length_map, hl5]) (by rw [List.length_zip]; exact lt_line (by omega)) hF (fun c x y _ _ s h => ⟨h.1, ExAt.same s _ _ h.2⟩) (fun b v _ _ s h => ArgAt.same s b v h) (fun _ _ => rfl) (fun x y H Q k => k) (fun y v1 v2 G2 H2 hm e hR Q' k => ?_) (fun y G2 H2 hc2 e => ?_) (fun bs G2 H2 ys hcol e hFl gF hy => ?_)⟩
  · obtain ⟨n, hn, hx2⟩ := Paired.at ex5 hy
    rw [List.getElem?_map] at hx
    obtain ⟨kd, hk, rfl⟩ := Option.map_eq_some_iff.mp hx
    exact ⟨(kd, n), List.getElem?_zip_eq_some.mpr ⟨hk, hn⟩, rfl, hx2⟩
  · obtain ⟨rfl, hx2⟩ := hR
    refine ⟨_, rfl, _, rfl, G2, y.1, v2, y.2, rfl, e.sub, hx2, dargs _ (List.of_mem_zip hm).2, hrl.head y hm, ?_⟩
    cases hf : rdArgument (rdList j) y.1 y.2 with
    | error z => rw [hf] at k; exact k
    | ok z => rw [hf] at k; exact k
  · rw [hc2] at qq
    exact ErrG.go qq e.same
  have q2 : Rs CN CE G H1 Q E ((if s0.2.1 = "row" then Kh450.collect (rdRow (rdList j) ((bs.getLast?.map childrenOf).getD []).length) (args.drop bs.length) else Kh450.collect (rdArgument (rdList j) s0.2.1) (args.drop bs.length)).map fun c => .node (symName (.list p (.symbol p0 t :: args))) bs c s0.2.1) := by
    rw [hcol] at qq; exact qq
  have hbl : bs.length = min s0.1.length args.length := by rw [collect_len _ hcol, List.length_zip]
  have hyl : ys.length = bs.length := (Paired.length hy).symm
  have eF := e.pub hF hFl
  have upF : Same G2 (upd G2 F (.lst ys)) := same_new gF
  have gF2 : (upd G2 F (.lst ys)) F = some (.lst ys) := upd_same
  have hy2 : ArgsAt CN (upd G2 F (.lst ys)) bs ys := ArgsAt.same upF _ _ (ArgsAt.paired hy)
  generalize upd G2 F (.lst ys) = G3 at eF gF2 hy2
  have hcs := e.same _ _ hc1
  refine ⟨F, rfl, ys, .inl (SqL.of hFl), t', SqL.of hcs, fun d hd => ?_⟩
  rw [cut_drop, hyl]
  have s3 : Same H2 (upd H2 d (.lst (t'.drop bs.length))) := same_new hd
  have hd3 : (upd H2 d (.lst (t'.drop bs.length))) d = some (.lst (t'.drop bs.length)) := upd_same
  have e3 : Ext G H1 G3 (upd H2 d (.lst (t'.drop bs.length))) := eF.heap s3
  generalize upd H2 d (.lst (t'.drop bs.length)) = H3 at s3 hd3 e3 ⊢
  have S3 : ShAt CS r dx Ld s0 H3 := ⟨e3.same _ _ S1.at_, e3.same _ _ S1.lead⟩
  have hF3 := e3.sub _ _ gF2
  have rest : Paired (fun n v => ExAt CX G3 n v) (args.drop bs.length) (t'.drop bs.length) := paired_same (R := fun n v G => ExAt CX G n v) (fun n v _ _ s h => ExAt.same s n v h) e3.up (Paired.drop bs.length ex5)
  have rlen : (t'.drop bs.length).length < sizeLine := by rw [List.length_drop]; exact lt_line (by omega)
  refine ⟨dx, _, S3.at_, _, sh_foll, rfl, ?_⟩
  have fin : ∀ (chs : List Arg) (G4 H4 : Hp) (C : Addr) (cv : List V), Ext G H1 G4 H4 → G4 F = some (.lst ys) → G4 C = some (.lst cv) → ArgsAt CN G4 bs ys → ArgsAt CN G4 chs cv → Rs CN CE G H1 Q E (.ok (.node (symName (.list p (.symbol p0 t :: args))) bs chs s0.2.1)) →
      spSym CX [V.ref a] H4 (fun x H1 => ∃ dx fs, H1 r = some (HO.ins CS dx fs) ∧ ∃ v, fs.lookup ("following" : Str) = some v ∧ ∀ x_1 dx, H1 x_1 = none → H1 dx = none → dx ≠ x_1 →
        spNode CN [.ref x_1, x, .ref F, .ref C, v] (upd (upd H1 dx (.own x_1)) x_1 (.ins CN dx [])) (fun v H2 => v = .non ∧ Q (.ref x_1) H2) E0) E0 := by
    intro chs G4 H4 C cv e4 g1 g2 g3 g4 q4
    refine ⟨_, _, rfl, ExAt.same e4.sub _ _ (ExAt.same e4.up _ _ hx), fun H5 s5 => ?_⟩
    have e5 := e4.heap s5
    refine ⟨dx, _, e5.same _ _ S1.at_, _, sh_foll, fun R dxn hR hdx ne => ⟨R, dxn, _, .ref F, .ref C, s0.2.1, rfl, upd_same, rfl, ?_⟩⟩
    rw [upd_upd]
    have e6 := e5.made (p := dxn) (o := .own R) hdx
    have hR6 : upd H5 dxn (.own R) R = none := (upd_ne ne.symm).trans hR
    have e7 := e6.made (p := R) (o := .ins CN dxn (ndF ⟨(symName (.list p (.symbol p0 t :: args))).toArray⟩ (.ref F) (.ref C) s0.2.1)) hR6
    refine q4 (.ref R) _ _ e7 ?_
    have up : Same G4 (upd (upd G4 dxn (.own R)) R (.ins CN dxn (ndF ⟨(symName (.list p (.symbol p0 t :: args))).toArray⟩ (.ref F) (.ref C) s0.2.1))) := (same_new (e5.gnone hdx)).trans (same_new (e6.gnone hR6))
    simp only [ArgAt]
    exact ⟨R, dxn, F, C, ys, cv, rfl, upd_same, up _ _ g1, up _ _ g2, ArgsAt.same up _ _ g3, ArgsAt.same up _ _ g4⟩
  by_cases hrow : s0.2.1 = "row"
  · rw [if_pos hrow] at q2
    refine ite2 (fun _ => ?_) (fun z => absurd (decide_eq_true (by rw [hrow])) z)
    refine ⟨F, rfl, ys, SqL.of hF3, ?_⟩
    obtain ⟨hlast, hle⟩ := hrl.row hrow
    rw [ea] at hle
    obtain ⟨bs0, part, rfl, m, hm2, hpart⟩ := collect_last hlast hle hcol
    have hpart : rdArgument (rdList j) "align" m = .ok part := hpart
    obtain ⟨sy, hh, ch, ho, rfl⟩ := rdArgument_align hpart
    have hcols : (((bs0 ++ [Arg.node sy hh ch ho]).getLast?.map childrenOf).getD []).length = ch.length := by rw [List.getLast?_concat]; rfl
    rw [hcols] at q2
    obtain ⟨v, hv, hpv⟩ := Paired.atl hy (i := bs0.length) (x := Arg.node sy hh ch ho) (by simp)
    have hyl' : ys.length = bs0.length + 1 := by rw [hyl]; simp
    have eys : ys = ys.take bs0.length ++ [v] := by rw [← take_at hv, List.take_of_length_le (by omega)]
    obtain ⟨a1, dx1, hb, cb, hv1, cv, rfl, g1, g2, g3, g4, g5⟩ := (by simpa only [ArgAt] using hpv)
    have sG23 : Same G2 H3 := e.sub.trans s3
    refine ⟨.ref a1, by rw [eys]; exact atI_last _ _, a1, rfl, dx1, _, sG23 _ _ g1, _, rfl, cb, rfl, cv, .inl (SqL.of (sG23 _ _ g3)), ?_⟩
    rw [g5.len]
    refine ⟨_, rfl, d, rfl, ⟨_, SqL.of hd3⟩, fun C hC => lcX_gen (R := fun m v G => ExAt CX G m v) (Err := fun y H => ErrG CE H E y) (fun x v G => ArgAt CN G x v) (rdRow (rdList j) ch.length)
      (fun i H s hi => ⟨t'.drop (bs0 ++ [Arg.node sy hh ch ho]).length, (t'.drop (bs0 ++ [Arg.node sy hh ch ho]).length)[i], s.seq (SqL.of hd3), List.getElem?_eq_getElem hi⟩) (fun H s => ⟨_, s.seq (SqL.of hd3), Nat.le_refl _⟩) (fun i H x H' s y => by obtain ⟨rfl, y⟩ := y; exact ⟨rfl, y _ (s.seq (SqL.of hd3))⟩)
      e3.sub rest rlen hC (fun m v _ _ s h => ExAt.same s m v h) (fun m v _ _ s h => ArgAt.same s m v h) (fun _ => rfl) (fun x H Q k => k) (fun m x G4 H4 hm e4 hx4 Q' k => ?_) (fun y G4 H4 hc4 e4 => ?_) (fun cs G4 H4 cv hc4 e4 hCl gC hcv => ?_)⟩
    · refine ⟨x, rfl, _, rfl, G4, x, m, ch.length, rfl, e4.sub, hx4, dargs _ (List.mem_of_mem_drop hm), ?_⟩
      cases hf : rdRow (rdList j) ch.length m with
      | error z => rw [hf] at k; exact k
      | ok z => rw [hf] at k; exact k
    · rw [hc4] at q2
      exact ErrG.go q2 (e3.same.trans e4.same)
    · rw [hc4] at q2
      have e5 := (e3.trans e4).pub (e3.same.free hC) hCl
      have up5 : Same G4 (upd G4 C (.lst cv)) := same_new gC
      exact fin cs _ _ C cv e5 (up5 _ _ (e4.up _ _ gF2)) upd_same (ArgsAt.same up5 _ _ (ArgsAt.same e4.up _ _ hy2)) (ArgsAt.same up5 _ _ (ArgsAt.paired hcv)) q2
  · rw [if_neg hrow] at q2
    refine ite2 (fun z => absurd (by rw [decide_eq_true_eq] at z; injection z) hrow) (fun _ => ?_)
    refine ⟨_, rfl, d, rfl, ⟨_, SqL.of hd3⟩, fun C hC => lcX_gen (R := fun m v G => ExAt CX G m v) (Err := fun y H => ErrG CE H E y) (fun x v G => ArgAt CN G x v) (rdArgument (rdList j) s0.2.1)
      (fun i H s hi => ⟨t'.drop bs.length, (t'.drop bs.length)[i], s.seq (SqL.of hd3), List.getElem?_eq_getElem hi⟩) (fun H s => ⟨t'.drop bs.length, s.seq (SqL.of hd3), Nat.le_refl _⟩) (fun i H x H' s y => by obtain ⟨rfl, y⟩ := y; exact ⟨rfl, y _ (s.seq (SqL.of hd3))⟩)
      e3.sub rest rlen hC (fun m v _ _ s h => ExAt.same s m v h) (fun m v _ _ s h => ArgAt.same s m v h) (fun _ => rfl) (fun x H Q k => k) (fun m x G4 H4 hm e4 hx4 Q' k => ?_) (fun y G4 H4 hc4 e4 => ?_) (fun cs G4 H4 cv hc4 e4 hCl gC hcv => ?_)⟩
    · have S4 : ShAt CS r dx Ld s0 H4 := ⟨e4.same _ _ S3.at_, e4.same _ _ S3.lead⟩
      refine ⟨_, rfl, r, dx, _, _, rfl, S4.at_, sh_foll, x, rfl, G4, s0.2.1, x, m, rfl, e4.sub, hx4, dargs _ (List.mem_of_mem_drop hm), hrl.rest m (by rw [ea]; exact drop_min hbl ▸ hm), ?_⟩
      cases hf : rdArgument (rdList j) s0.2.1 m with
      | error z => rw [hf] at k; exact k
      | ok z => rw [hf] at k; exact k
    · rw [hc4] at q2
      exact ErrG.go q2 (e3.same.trans e4.same)
    · rw [hc4] at q2
      have e5 := (e3.trans e4).pub (e3.same.free hC) hCl
      have up5 : Same G4 (upd G4 C (.lst cv)) := same_new gC
      exact fin cs _ _ C cv e5 (up5 _ _ (e4.up _ _ gF2)) upd_same (ArgsAt.same up5 _ _ (ArgsAt.same e4.up _ _ hy2)) (ArgsAt.same up5 _ _ (ArgsAt.paired hcv)) q2

end
end Bt

namespace Bt
open PySem
open Kh450 (Read readNode readList readAllLoop skipSpace maxDepth)
/-! ### how deep what is read can be -/
theorem list_dep {rn : List Nat → Read Kh450.Node} {Pn : Kh450.Node → Prop} (hn : ∀ l n r, l.length ≤ 1000000 → rn l = .ok n r → Pn n) (hlt : ∀ l n r, rn l = .ok n r → r.length < l.length) :
    ∀ (fuel : Nat) (l : List Nat) (ns : List Kh450.Node) (r : List Nat), l.length ≤ 1000000 → readList rn fuel l = .ok ns r → ns.length ≤ fuel ∧ ∀ n ∈ ns, Pn n
  | 0, l, ns, r, hl, h => by cases h
  | fuel + 1, l, ns, r, hl, h => by
    have hs := skip_len false l
    unfold readList at h
    split at h
    · cases h
    · cases h; exact ⟨Nat.zero_le _, fun n hn => by cases hn⟩
    · obtain ⟨n, s, h1, h2⟩ := bind_ok h
      obtain ⟨ns', s', h3, h4⟩ := bind_ok h2
      cases h4
      have hl2 := hlt _ _ _ h1
      have ih := list_dep hn hlt fuel s ns' _ (by omega) h3
      refine ⟨by simp only [List.length_cons]; omega, fun m hm => ?_⟩
      rcases List.mem_cons.mp hm with rfl | hm
      · exact hn _ _ _ (by omega) h1
      · exact ih.2 m hm
theorem node_dep (total : Nat) : ∀ (depth : Nat) (l : List Nat) (n : Kh450.Node) (r : List Nat), l.length ≤ 1000000 → readNode total depth l = .ok n r → DepOk depth n
  | depth, [], n, r, hl, h => by cases depth <;> cases h
  | depth, b :: rest, n, r, hl, h => by
    have leaf : (∀ p items, n ≠ .list p items) → DepOk depth n := fun z => by
      cases n with
      | list p items => exact absurd rfl (z p items)
      | symbol p t => cases depth <;> simp only [DepOk]
      | integer p t => cases depth <;> simp only [DepOk]
      | string p t => cases depth <;> simp only [DepOk]
    rw [node_eq] at h
    split at h
    · cases depth with
      | zero => cases h
      | succ depth =>
        obtain ⟨items, s, h1, h2⟩ := bind_ok h
        cases h2
        have := list_dep (Pn := DepOk depth) (fun l n r hl h => node_dep total depth l n r hl h) (node_lt total depth) (b :: rest).length rest items _ (by simp only [List.length_cons] at hl; omega) h1
        exact ⟨Nat.le_trans this.1 hl, this.2⟩
    · split at h
      · obtain ⟨t, s, h1, h2⟩ := bind_ok h
        cases h2
        exact leaf fun p items z => by cases z
      · split at h
        · simp only at h
          split at h
          · cases h
          · cases h; exact leaf fun p items z => by cases z
        · split at h
          · cases h; exact leaf fun p items z => by cases z
          · cases h
theorem all_dep (total : Nat) : ∀ (fuel : Nat) (l : List Nat) (ns : List Kh450.Node) (r : List Nat), l.length ≤ 1000000 → readAllLoop total fuel l = .ok ns r → ∀ n ∈ ns, DepOk 16 n
  | 0, l, ns, r, hl, h => by cases h
  | fuel + 1, l, ns, r, hl, h => by
    have hs := skip_len false l
    unfold readAllLoop at h
    split at h
    · cases h; exact fun n hn => by cases hn
    · obtain ⟨n, s, h1, h2⟩ := bind_ok h
      obtain ⟨ns', s', h3, h4⟩ := bind_ok h2
      cases h4
      have hl2 := node_lt _ _ _ _ _ h1
      have ih := all_dep total fuel s ns' _ (by omega) h3
      intro m hm
      rcases List.mem_cons.mp hm with rfl | hm
      · exact node_dep _ _ _ _ _ (by omega) h1
      · exact ih m hm
theorem readAll_dep {d : List Nat} {ns : List Kh450.Node} {r : List Nat} (hl : d.length ≤ 1000000) (h : Kh450.readAll d = .ok ns r) : ∀ n ∈ ns, DepOk 16 n := all_dep _ _ _ _ _ hl h
end Bt

namespace Bt
open PySem PySem.Spec PyProof.Rows L2
local macro_rules | `(tactic| walk_at "sx") => `(tactic| simp only [cxK, tTru, rLen, rListOf, rTupOf, tRet, tRetN, tChain, tRng, tCB, tCons, tNil, tC, tVar, tOp, tUn, tTest, tB, tAnd, tOr, tNot, tIfS, tSeq, tIf, tOrV, tAndV, tNotV, tCall, tSl, tPart, tNoPart, tLst, tTup, tBM, tBM0, rExtendS, iList, iTup, iSeqV, rIxL, rIxT, rSlL, rAppend, rExtend, rCat, rI0, rI, rIxS, rEq, rNe, rU, tAsg, gName, tDrop, tNext, scal, L2.start, List.map_cons, List.map_nil, List.length_cons, List.length_nil, Nat.reduceAdd, Nat.reduceSub, List.replicate_succ, List.replicate_zero, List.append_nil, List.cons_append, List.nil_append, List.getElem?_cons_zero, List.getElem?_cons_succ, Option.some.injEq, exists_eq_left', exists_eq_left, V.int.injEq, V.bl.injEq, V.str.injEq, V.ref.injEq, List.cons.injEq, and_true, true_and, exists_and_left, List.set_cons_zero, List.set_cons_succ, spN1_run, tFC, sFC, sFCAug, tMeth, tMake, sRaise, tErF, rAdd, rPop, tM1, tCallL, Option.some.injEq, HO.ins.injEq])
local macro_rules | `(tactic| walk_at "sm") => `(tactic| (repeat (first | exact Same.refl _ | assumption | (refine Same.trans ?_ (same_new (by assumption))) | (refine Same.trans ?_ (by assumption)))))
section
variable {P : Program} {w : World} {K : PySem.W.Frag} {mg : Str → Option Value} {base : Heap}
/-! ### read_document -/
theorem rd_all {CX CN CS CE : Addr} {ps : List Str} (D_list : Dn K mg "read_list" s_read_list ["expression", "shape"]) (D_shaped : Dn K mg "read_shaped" s_read_shaped ["expression", "shape"]) (D_block : Dn K mg "read_block" s_read_block ["expression"]) (D_inline : Dn K mg "read_inline" s_read_inline ["expression"])
    (D_part : Dn K mg "read_part" s_read_part ["symbol", "expression"]) (D_row : Dn K mg "read_row" s_read_row ["expression", "columns"]) (D_argument : Dn K mg "read_argument" s_read_argument ["kind", "expression"])
    (n_len : mg "len" = none) (n_zip : mg "zip" = none) (o_list_symbol : OwnOk P w K mg base CX0 1 "list_symbol" ["expression"] (spSym CX)) (o_block_shape : OwnOk P w K mg base CX0 3 "block_shape" ["symbol"] (spShape CS BLt)) (o_inline_shape : OwnOk P w K mg base CX0 3 "inline_shape" ["symbol"] (spShape CS ILt))
    (o_part_shape : OwnOk P w K mg base CX0 3 "part_shape" ["symbol"] (fun vs H Q E => (∃ z ws, vs = [.str z] ∧ PTt.lookup z = some ws) ∧ spShape CS PTt vs H Q E))
    (m_Shape_allows_number : OwnM P w K mg base CX0 1 CS "allows_number" ["self", "number"] (fun vs H Q _ => ∃ r dx Ld s m, vs = [.ref r, .int ((m : Nat) : Int)] ∧ ShAt CS r dx Ld s H ∧ ∀ H', Same H H' → Q (.bl (shFits s m)) H'))
    (m_Shape_begins_with_integer : OwnM P w K mg base CX0 1 CS "begins_with_integer" ["self"] (spBwi CS))
    (o_require_part : OwnOk P w K mg base (L2.CX P w) 4 "require_part" ["symbol", "expression"] (spReq CX CE))
    (o_read_string : OwnOk P w K mg base (L2.CX P w) 5 "read_string" ["kind", "expression"] (spStr CX CE)) (o_read_level : OwnOk P w K mg base (L2.CX P w) 4 "read_level" ["expression"] (spLev CX CE)) (o_read_alignment : OwnOk P w K mg base (L2.CX P w) 4 "read_alignment" ["expression"] (spAli CX CE))
    (k_Node : OwnI P w K mg base CX0 1 "Node" CN ["self", "symbol", "head", "children", "holds"] (spNode CN)) (q_Expression_kind : Kf K CX "kind") (q_Expression_value : Kf K CX "value") (q_Expression_position : Kf K CX "position") (q_Shape_leading : Kf K CS "leading") (q_Shape_following : Kf K CS "following") (q_Node_children : Kf K CN "children")
    (x_NotationError : OwnX P w K mg base 2 "NotationError" CE 2 neF ps) : ∀ j : Nat, OwnOk P w K mg base (L2.CX P w) (4 * j + 4) "read_list" ["expression", "shape"] (spRL CX CN CS CE (rdList j) (DepOk j)) ∧
      OwnOk P w K mg base (L2.CX P w) (4 * j + 6) "read_block" ["expression"] (spRd CX CN CE (rdBlock (rdList j)) (DepOk j))
  | 0 => by
    have o_rl := rd_list0 (P := P) (w := w) (base := base) (CX := CX) (CN := CN) (CS := CS) (CE := CE) (rl := rdList 0) D_list
    have o_rs := ok_read_shaped (k := 0) D_shaped n_len o_rl m_Shape_allows_number m_Shape_begins_with_integer q_Expression_kind q_Expression_value q_Expression_position x_NotationError
    exact ⟨o_rl, ok_read_block D_block o_list_symbol o_block_shape o_rs⟩
  | j + 1 => by
    obtain ⟨o_rl, o_rb⟩ := rd_all D_list D_shaped D_block D_inline D_part D_row D_argument n_len n_zip o_list_symbol o_block_shape o_inline_shape o_part_shape m_Shape_allows_number m_Shape_begins_with_integer o_require_part o_read_string o_read_level o_read_alignment k_Node q_Expression_kind q_Expression_value q_Expression_position q_Shape_leading q_Shape_following q_Node_children x_NotationError j
    have o_rs := ok_read_shaped (k := 4 * j) D_shaped n_len o_rl m_Shape_allows_number m_Shape_begins_with_integer q_Expression_kind q_Expression_value q_Expression_position x_NotationError
    have o_ri := ok_read_inline D_inline o_list_symbol o_inline_shape o_rs q_Expression_kind q_Expression_value
    have o_rp := ok_read_part D_part (rdList_node j) o_require_part o_part_shape o_rl q_Node_children q_Expression_position x_NotationError
    have o_rr := ok_read_row (CS := CS) D_row n_len o_require_part o_rp q_Expression_value q_Expression_position x_NotationError
    have o_ra := ok_read_argument (CS := CS) D_argument (fun p items h => DepOk.items h) (fun p items h => DepOk.size h) o_rb o_ri o_read_string o_read_level o_read_alignment o_rp k_Node q_Expression_value
    have o_rl2 := ok_read_list D_list n_len n_zip o_list_symbol o_ra o_rr k_Node q_Expression_value q_Shape_leading q_Shape_following q_Node_children
    have o_rs2 := ok_read_shaped (k := 4 * j + 4) D_shaped n_len o_rl2 m_Shape_allows_number m_Shape_begins_with_integer q_Expression_kind q_Expression_value q_Expression_position x_NotationError
    exact ⟨o_rl2, ok_read_block D_block o_list_symbol o_block_shape o_rs2⟩
/-- read_document(data) -/
def spDoc (K : PySem.W.Frag) (CN CE : Addr) : Sp := fun vs H Q E => ∃ G v d, vs = [v] ∧ Same G H ∧ Lr K d v H ∧ d.length ≤ 1000000 ∧ (∀ x ∈ d, x < 256) ∧
  match rdDoc d with
  | .error y => ErrG CE H E y
  | .ok ns => ∀ v G' H', Ext G H G' H' → (∃ b vs, v = .ref b ∧ G' b = some (.lst vs) ∧ ArgsAt CN G' ns vs) → Q v H'
abbrev s_read_document : Stmt := top 51
theorem sc_read_document : FnScope ["data", "expression"] ["data"] (defScope s_read_document) := ⟨rfl, rfl, rfl, by decide +kernel, rfl, by decide +kernel, by decide +kernel⟩
theorem ok_read_document {CX CN CE : Addr} (D : Dn K mg "read_document" s_read_document ["data"]) (o_read_expressions : OwnOk P w K mg base (L2.CX P w) 9 "read_expressions" ["data"] (spExprs K CX CE)) (o_read_block : OwnOk P w K mg base (L2.CX P w) 70 "read_block" ["expression"] (spRd CX CN CE (rdBlock (rdList 16)) (DepOk 16))) :
    OwnOk P w K mg base (L2.CX P w) 71 "read_document" ["data"] (spDoc K CN CE) := by
  refine own_okX D sc_read_document (fun _ _ _ _ h => by obtain ⟨_, _, _, rfl, _⟩ := h; rfl) (fun f cdv A outer s H vs Q E hr h => ⟨_, (pss_one (ps_ret (pe_lcX (own := [("expression", 1)]) (g := gName 1) (tt := tYes) rfl rfl (L2.takes_of rfl rfl rfl rfl) (fun _ _ _ _ h => h) rfl sc_read_document.nd (kpi_list (K := K) rfl (pe_own o_read_expressions (hr.mono (by omega)) rfl (L2.passes_call (L2.takes_of rfl rfl rfl rfl) (fun _ _ _ _ h => h)) (pa_cons (pv 0) pa_nil))) (blkOk_by (N := ["data", "expression"]) (sc := defScope s_read_document) (by decide +kernel)) ⟨fun _ _ _ _ _ => pg_name (i := 1) sc_read_document.nd rfl (Or.inl rfl), fun _ _ _ _ _ => pts_nil, fun _ _ _ _ _ _ px => (pe_own o_read_block (hr.mono (by omega)) rfl px (pa_cons (pv 1) pa_nil))⟩))), ?_⟩)
  obtain ⟨G, v, d, rfl, sG, hd, hlen, hby, q⟩ := h
  unfold rdDoc at q
  walk_at "sx"
  refine ⟨v, rfl, G, v, d, rfl, sG, hd, hlen, hby, ?_⟩
  cases hr : Kh450.readAll d with
  | error k rest =>
    rw [hr] at q
    exact fun H' dE s' h' => q H' dE s' h'
  | ok ns rest =>
    rw [hr] at q
    have hdep := readAll_dep hlen hr
    rintro v1 G1 H1 e1 ⟨b, vs, rfl, hb, hx, hn⟩
    have hb1 := e1.sub _ _ hb
    refine ⟨b, rfl, ⟨_, SqL.of hb1⟩, fun F hF => lcX_gen (R := fun m v G => ExAt CX G m v) (Err := fun y H => ErrG CE H E y) (fun x v G => ArgAt CN G x v) (rdBlock (rdList 16))
      (fun i H s hi => ⟨vs, vs[i], s.seq (SqL.of hb1), by simp [hi]⟩) (fun H s => ⟨vs, s.seq (SqL.of hb1), Nat.le_refl _⟩) (fun i H x H' s y => by obtain ⟨rfl, y⟩ := y; exact ⟨rfl, y _ (s.seq (SqL.of hb1))⟩)
      e1.sub (ExsAt.paired hx) (by rw [hx.len]; exact lt_line (by omega)) hF (fun m v _ _ s h => ExAt.same s m v h) (fun m v _ _ s h => ArgAt.same s m v h) (fun _ => rfl) (fun x H Q k => k) (fun m x G2 H2 hm e hx2 Q' k => ?_) (fun y G2 H2 hc e => ?_) (fun bs G2 H2 ys hc e hFl gF hy => ?_)⟩
    · refine ⟨x, rfl, G2, x, m, rfl, e.sub, hx2, hdep m hm, ?_⟩
      cases hf : rdBlock (rdList 16) m with
      | error z => rw [hf] at k; exact k
      | ok z => rw [hf] at k; exact k
    · simp only [hc] at q
      exact ErrG.go q (e1.same.trans e.same)
    · simp only [hc] at q
      have e2 := (e1.trans e).pub (e1.same.free hF) hFl
      exact q (.ref F) _ _ e2 ⟨F, ys, rfl, upd_same, ArgsAt.same (same_new gF) _ _ (ArgsAt.paired hy)⟩

end
end Bt

namespace Bt
open PySem
open Kh450 (Inline Block codesOf encodeAll)
/-! ### trees of the specification as the program's nodes -/
def tx (t : List Nat) : Arg := .text (encodeAll t)
def clsA (cs : List (List Nat)) : Arg := .node (codesOf "class") [] (cs.map tx) "label"
mutual
def inlA : Inline → Arg
  | .text c => tx c
  | .code c => .node (codesOf "code") [tx c] [] ""
  | .math c => .node (codesOf "math") [tx c] [] ""
  | .lineBreak => .node (codesOf "break") [] [] ""
  | .noteReference l => .node (codesOf "noteref") [tx l] [] ""
  | .reference l => .node (codesOf "ref") [tx l] [] ""
  | .citation ks => .node (codesOf "cite") [] (ks.map tx) "label"
  | .styled s ch => .node (Kh450.nameIn Kh450.styles s) [] (inlsA ch) "inline"
  | .link t ch => .node (codesOf "link") [tx t] (inlsA ch) "inline"
  | .image t ch => .node (codesOf "image") [tx t] (inlsA ch) "inline"
  | .span cs ch => .node (codesOf "span") [clsA cs] (inlsA ch) "inline"
def inlsA : List Inline → List Arg
  | [] => []
  | x :: r => inlA x :: inlsA r
end
def rowA (cells : List (List Inline)) : Arg := .node (codesOf "row") [] (cells.map fun c => .node (codesOf "cell") [] (inlsA c) "inline") "cell"
mutual
def blkA : Block → Arg
  | .paragraph c => .node (codesOf "para") [] (inlsA c) "inline"
  | .heading l i c => .node (codesOf "heading") [.int l, tx i] (inlsA c) "inline"
  | .code l c => .node (codesOf "code") [tx l, tx c] [] ""
  | .formula i c => .node (codesOf "formula") [tx i, tx c] [] ""
  | .rule => .node (codesOf "rule") [] [] ""
  | .quote ch => .node (codesOf "quote") [] (blksA ch) "block"
  | .bullets items => .node (codesOf "bullets") [] (itemsA items) "item"
  | .numbers s items => .node (codesOf "numbers") [.int s] (itemsA items) "item"
  | .terms es => .node (codesOf "terms") [] (entriesA es) "term"
  | .table i cap als rows => .node (codesOf "table") [tx i, .node (codesOf "caption") [] (inlsA cap) "inline", .node (codesOf "align") [] (als.map fun a => .sym (Kh450.nameIn Kh450.alignments a)) "alignment"] (rows.map rowA) "row"
  | .figure i t cap => .node (codesOf "figure") [tx i, tx t] (inlsA cap) "inline"
  | .group cs ch => .node (codesOf "group") [clsA cs] (blksA ch) "block"
  | .note l ch => .node (codesOf "note") [tx l] (blksA ch) "block"
def blksA : List Block → List Arg
  | [] => []
  | x :: r => blkA x :: blksA r
def itemsA : List (List Block) → List Arg
  | [] => []
  | x :: r => .node (codesOf "item") [] (blksA x) "block" :: itemsA r
def entriesA : List (List Inline × List Block) → List Arg
  | [] => []
  | (i, b) :: r => .node (codesOf "term") [.node [] [] (inlsA i) "inline"] (blksA b) "block" :: entriesA r
end
/-- what is to be shown of the mirror -/
def docA (d : List Nat) : Except (Nat × Nat) (List Arg) := (Kh450.parse d).map blksA
end Bt

namespace Bt
open PySem
open Kh450 (Inline Block codesOf encodeAll collect fail toInlineLoop toBlockLoop toInlines stringOf labelOf identifierOf argumentsOf alignmentOf toRow Checked)
/-! ### the program's reading of documents is the specification's -/
theorem collect_map {α β γ : Type} (f : α → Checked β) (g : β → γ) : ∀ l : List α, (collect f l).map (List.map g) = collect (fun x => (f x).map g) l
  | [] => rfl
  | a :: r => by
    have ih := collect_map f g r
    show ((f a).bind fun y => (collect f r).map fun ys => y :: ys).map (List.map g) = ((f a).map g).bind fun y => (collect (fun x => (f x).map g) r).map fun ys => y :: ys
    rw [← ih]
    cases f a with
    | error e => rfl
    | ok b => cases collect f r <;> rfl
theorem collect_congr {α β : Type} {f g : α → Checked β} : ∀ {l : List α}, (∀ x ∈ l, f x = g x) → collect f l = collect g l
  | [], _ => rfl
  | a :: r, h => by
    show (f a).bind _ = (g a).bind _
    rw [h a (by simp), collect_congr fun x hx => h x (by simp [hx])]
theorem inlsA_map : ∀ l : List Inline, inlsA l = l.map inlA
  | [] => rfl
  | a :: r => by rw [inlsA, inlsA_map r]; rfl
theorem blksA_map : ∀ l : List Block, blksA l = l.map blkA
  | [] => rfl
  | a :: r => by rw [blksA, blksA_map r]; rfl
def itemA (x : List Block) : Arg := .node (codesOf "item") [] (blksA x) "block"
def entryA (x : List Inline × List Block) : Arg := .node (codesOf "term") [.node [] [] (inlsA x.1) "inline"] (blksA x.2) "block"
theorem itemsA_map : ∀ l : List (List Block), itemsA l = l.map itemA
  | [] => rfl
  | a :: r => by rw [itemsA, itemsA_map r]; rfl
theorem entriesA_map : ∀ l : List (List Inline × List Block), entriesA l = l.map entryA
  | [] => rfl
  | (a, b) :: r => by rw [entriesA, entriesA_map r]; rfl
theorem enc_ne (c : Nat) : ∃ b r, Kh450.encodeUtf8 c = b :: r ∧ (b < 128 → c < 128 ∧ r = [] ∧ b = c) := by
  unfold Kh450.encodeUtf8
  split
  · exact ⟨_, _, rfl, fun _ => ⟨by assumption, rfl, rfl⟩⟩
  · split
    · exact ⟨_, _, rfl, fun h => by omega⟩
    · split
      · exact ⟨_, _, rfl, fun h => by omega⟩
      · exact ⟨_, _, rfl, fun h => by omega⟩
theorem enc_nil {t : List Nat} : encodeAll t = [] ↔ t = [] := by
  constructor
  · intro h
    cases t with
    | nil => rfl
    | cons c r =>
      obtain ⟨b, r', e, _⟩ := enc_ne c
      have : encodeAll (c :: r) = Kh450.encodeUtf8 c ++ encodeAll r := rfl
      rw [this, e] at h; cases h
  · rintro rfl; rfl
theorem enc_small : ∀ {t : List Nat}, (∀ c ∈ t, c < 128) → encodeAll t = t
  | [], _ => rfl
  | c :: r, h => by
    show Kh450.encodeUtf8 c ++ encodeAll r = c :: r
    rw [enc_small fun x hx => h x (by simp [hx]), Kh450.encodeUtf8, if_pos (h c (by simp))]
    rfl
theorem label_small {c : Nat} (h : Kh450.isLabelPart c = true) : c < 128 := by
  simp only [Kh450.isLabelPart, Kh450.isLower, Kh450.isUpper, Kh450.isDigit, Bool.or_eq_true, Bool.and_eq_true, decide_eq_true_eq, beq_iff_eq] at h
  omega
theorem isLabel_small {l : List Nat} (h : Kh450.isLabel l = true) : ∀ c ∈ l, c < 128 := by
  simp only [Kh450.isLabel, Bool.and_eq_true, List.all_eq_true] at h
  exact fun c hc => label_small (h.2 c hc)
theorem small_enc : ∀ {t : List Nat}, (∀ b ∈ encodeAll t, b < 128) → ∀ c ∈ t, c < 128
  | [], _ => fun c hc => by cases hc
  | c :: r, h => by
    have e0 : encodeAll (c :: r) = Kh450.encodeUtf8 c ++ encodeAll r := rfl
    obtain ⟨b, r', e, hb⟩ := enc_ne c
    rw [e0, e] at h
    intro x hx
    rcases List.mem_cons.mp hx with rfl | hx
    · exact (hb (h b (by simp))).1
    · exact small_enc (fun y hy => h y (by simp [hy])) x hx
theorem isLabel_enc (t : List Nat) : Kh450.isLabel (encodeAll t) = Kh450.isLabel t := by
  rw [Bool.eq_iff_iff]
  constructor
  · intro h
    have := small_enc (isLabel_small h)
    rwa [enc_small this] at h
  · intro h
    rwa [enc_small (isLabel_small h)]
/-! arguments -/
section
variable (rl : Shp → Kh450.Node → RA) (n : Kh450.Node)
theorem arg_block : rdArgument rl "block" n = rdBlock rl n := by unfold rdArgument; rw [if_pos rfl]
theorem arg_inline : rdArgument rl "inline" n = rdInline rl n := by unfold rdArgument; rw [if_neg (by decide +kernel), if_pos rfl]
theorem arg_inlines : rdArgument rl "inlines" n = (collect (rdInline rl) (itemsOf n)).map fun c => .node [] [] c "inline" := by unfold rdArgument; rw [if_neg (by decide +kernel), if_neg (by decide +kernel), if_pos rfl]
theorem arg_text : rdArgument rl "text" n = (stringOf n).map tx := by
  unfold rdArgument
  rw [if_neg (by decide +kernel), if_neg (by decide +kernel), if_neg (by decide +kernel), if_pos (.inl rfl)]
  cases n with
  | string p t =>
    show (if ("text" : Str) = "text" ∨ Kh450.isLabel (encodeAll t) = true ∨ (("text" : Str) = "identifier" ∧ encodeAll t = []) then (.ok (.text (encodeAll t)) : RA) else .error (9, p)) = _
    rw [if_pos (.inl rfl)]; rfl
  | symbol p t => rfl
  | integer p t => rfl
  | list p t => rfl
theorem arg_label : rdArgument rl "label" n = (labelOf n).map tx := by
  unfold rdArgument
  rw [if_neg (by decide +kernel), if_neg (by decide +kernel), if_neg (by decide +kernel), if_pos (.inr (.inr rfl))]
  cases n with
  | string p t =>
    show (if ("label" : Str) = "text" ∨ Kh450.isLabel (encodeAll t) = true ∨ (("label" : Str) = "identifier" ∧ encodeAll t = []) then (.ok (.text (encodeAll t)) : RA) else .error (9, p)) = Except.map tx (if Kh450.isLabel t = true then .ok t else .error (9, p))
    by_cases h : Kh450.isLabel t = true
    · rw [if_pos (.inr (.inl ((isLabel_enc t).trans h))), if_pos h]; rfl
    · rw [if_neg h, if_neg]
      · rfl
      · rintro (z | z | ⟨z, _⟩)
        · exact absurd z (by decide +kernel)
        · exact h ((isLabel_enc t).symm.trans z)
        · exact absurd z (by decide +kernel)
  | symbol p t => rfl
  | integer p t => rfl
  | list p t => rfl
theorem arg_identifier : rdArgument rl "identifier" n = (identifierOf n).map tx := by
  unfold rdArgument
  rw [if_neg (by decide +kernel), if_neg (by decide +kernel), if_neg (by decide +kernel), if_pos (.inr (.inl rfl))]
  cases n with
  | string p t =>
    show (if ("identifier" : Str) = "text" ∨ Kh450.isLabel (encodeAll t) = true ∨ (("identifier" : Str) = "identifier" ∧ encodeAll t = []) then (.ok (.text (encodeAll t)) : RA) else .error (9, p)) = Except.map tx (if (t.isEmpty || Kh450.isLabel t) = true then .ok t else .error (9, p))
    by_cases h : (t.isEmpty || Kh450.isLabel t) = true
    · rw [if_pos h, if_pos]
      · rfl
      · rw [Bool.or_eq_true] at h
        rcases h with h | h
        · exact .inr (.inr ⟨rfl, enc_nil.mpr (List.isEmpty_iff.mp h)⟩)
        · exact .inr (.inl ((isLabel_enc t).trans h))
    · rw [if_neg h, if_neg]
      · rfl
      · rw [Bool.or_eq_true, not_or] at h
        rintro (z | z | ⟨_, z⟩)
        · exact absurd z (by decide +kernel)
        · exact h.2 ((isLabel_enc t).symm.trans z)
        · exact h.1 (List.isEmpty_iff.mpr (enc_nil.mp z))
  | symbol p t => rfl
  | integer p t => rfl
  | list p t => rfl
theorem arg_level : rdArgument rl "level" n = rdLevel n := by unfold rdArgument; rw [if_neg (by decide +kernel), if_neg (by decide +kernel), if_neg (by decide +kernel), if_neg (by decide +kernel), if_pos rfl]
theorem arg_start : rdArgument rl "number" n = rdStart n := by unfold rdArgument; rw [if_neg (by decide +kernel), if_neg (by decide +kernel), if_neg (by decide +kernel), if_neg (by decide +kernel), if_neg (by decide +kernel), if_pos rfl]
theorem find_al {name : List Nat} : (Kh450.find Kh450.alignments name) = if name = codesOf "none" then some .unset else if name = codesOf "left" then some .left else if name = codesOf "center" then some .center else if name = codesOf "right" then some .right else none := by
  unfold Kh450.find Kh450.alignments
  simp only [List.find?_cons, List.find?_nil, beq_iff_eq]
  by_cases h1 : name = codesOf "none"
  · rw [if_pos h1, show (codesOf "none" == name) = true by rw [h1]; exact beq_self_eq_true _]; rfl
  rw [if_neg h1, show (codesOf "none" == name) = false from beq_eq_false_iff_ne.mpr (Ne.symm h1)]
  by_cases h2 : name = codesOf "left"
  · rw [if_pos h2, show (codesOf "left" == name) = true by rw [h2]; exact beq_self_eq_true _]; rfl
  rw [if_neg h2, show (codesOf "left" == name) = false from beq_eq_false_iff_ne.mpr (Ne.symm h2)]
  by_cases h3 : name = codesOf "center"
  · rw [if_pos h3, show (codesOf "center" == name) = true by rw [h3]; exact beq_self_eq_true _]; rfl
  rw [if_neg h3, show (codesOf "center" == name) = false from beq_eq_false_iff_ne.mpr (Ne.symm h3)]
  by_cases h4 : name = codesOf "right"
  · rw [if_pos h4, show (codesOf "right" == name) = true by rw [h4]; exact beq_self_eq_true _]; rfl
  rw [if_neg h4, show (codesOf "right" == name) = false from beq_eq_false_iff_ne.mpr (Ne.symm h4)]; rfl
theorem arg_alignment : rdArgument rl "alignment" n = (alignmentOf n).map fun a => .sym (Kh450.nameIn Kh450.alignments a) := by
  unfold rdArgument
  rw [if_neg (by decide +kernel), if_neg (by decide +kernel), if_neg (by decide +kernel), if_neg (by decide +kernel), if_neg (by decide +kernel), if_neg (by decide +kernel), if_pos rfl]
  cases n with
  | string p t => rfl
  | integer p t => rfl
  | list p t => rfl
  | symbol p t =>
    show (if t = codesOf "none" ∨ t = codesOf "left" ∨ t = codesOf "center" ∨ t = codesOf "right" then (.ok (.sym t) : RA) else .error (9, p)) = Except.map _ (match Kh450.find Kh450.alignments t with | some a => .ok a | none => .error (9, p))
    rw [find_al]
    by_cases h1 : t = codesOf "none"
    · rw [if_pos h1, if_pos (.inl h1), h1]; rfl
    rw [if_neg h1]
    by_cases h2 : t = codesOf "left"
    · rw [if_pos h2, if_pos (.inr (.inl h2)), h2]; rfl
    rw [if_neg h2]
    by_cases h3 : t = codesOf "center"
    · rw [if_pos h3, if_pos (.inr (.inr (.inl h3))), h3]; rfl
    rw [if_neg h3]
    by_cases h4 : t = codesOf "right"
    · rw [if_pos h4, if_pos (.inr (.inr (.inr h4))), h4]; rfl
    rw [if_neg h4, if_neg (by rintro (z | z | z | z) <;> contradiction)]
    rfl
theorem arg_part {k : Str} (h : (k ≠ "block" ∧ k ≠ "inline" ∧ k ≠ "inlines" ∧ ¬ (k = "text" ∨ k = "identifier" ∨ k = "label") ∧ k ≠ "level" ∧ k ≠ "number" ∧ k ≠ "alignment")) : rdArgument rl k n = rdPart rl k.cps.toList n := by
  obtain ⟨h1, h2, h3, h4, h5, h6, h7⟩ := h
  unfold rdArgument
  rw [if_neg h1, if_neg h2, if_neg h3, if_neg h4, if_neg h5, if_neg h6, if_neg h7]
end
end Bt

namespace Bt
open PySem
open Kh450 (Inline Block codesOf encodeAll collect fail toInlineLoop toBlockLoop toInlines stringOf labelOf identifierOf argumentsOf alignmentOf toRow Checked)
/-! ### a list by its shape -/
section
variable {j : Nat} {p q : Nat} {name : List Nat} {args : List Kh450.Node} {ws : List Str} {k1 k2 fo : Str}
abbrev nd (p q : Nat) (name : List Nat) (args : List Kh450.Node) : Kh450.Node := .list p (.symbol q name :: args)
theorem rl_eq (s : Shp) : rdList (j + 1) s (nd p q name args) = (collect (fun y : Str × Kh450.Node => rdArgument (rdList j) y.1 y.2) (s.1.zip args)).bind fun head =>
    (if s.2.1 = "row" then collect (rdRow (rdList j) ((head.getLast?.map childrenOf).getD []).length) (args.drop head.length)
     else collect (rdArgument (rdList j) s.2.1) (args.drop head.length)).map fun c => .node name head c s.2.1 := rfl
theorem rs_eq (rl : Shp → Kh450.Node → RA) : rdShaped rl (some ws) (nd p q name args) = if shFits (shOf ws) args.length = false then .error (8, p)
    else if needsInt (shOf ws) = true ∧ args.head?.all isInt = false then .error (8, p) else rl (shOf ws) (nd p q name args) := rfl
theorem rl0 {le : Nat} (hr : fo ≠ "row") : rdList (j + 1) ([], fo, le) (nd p q name args) = (collect (rdArgument (rdList j) fo) args).map fun c => .node name [] c fo := by
  rw [rl_eq]
  show (Except.ok []).bind _ = _
  show (if fo = "row" then _ else _ : Checked (List Arg)).map _ = _
  rw [if_neg hr]; rfl
theorem rl1 {le : Nat} {a : Kh450.Node} (hr : fo ≠ "row") : rdList (j + 1) ([k1], fo, le) (nd p q name (a :: args)) = (rdArgument (rdList j) k1 a).bind fun h => (collect (rdArgument (rdList j) fo) args).map fun c => .node name [h] c fo := by
  rw [rl_eq]
  show ((rdArgument (rdList j) k1 a).bind fun y => (Except.ok []).map fun ys => y :: ys).bind _ = _
  cases rdArgument (rdList j) k1 a with
  | error e => rfl
  | ok h =>
    show (if fo = "row" then _ else _ : Checked (List Arg)).map _ = _
    rw [if_neg hr]; rfl
theorem rl2 {le : Nat} {a b : Kh450.Node} (hr : fo ≠ "row") : rdList (j + 1) ([k1, k2], fo, le) (nd p q name (a :: b :: args)) = (rdArgument (rdList j) k1 a).bind fun h => (rdArgument (rdList j) k2 b).bind fun g => (collect (rdArgument (rdList j) fo) args).map fun c => .node name [h, g] c fo := by
  rw [rl_eq]
  show ((rdArgument (rdList j) k1 a).bind fun y => ((rdArgument (rdList j) k2 b).bind fun z => (Except.ok []).map fun ys => z :: ys).map fun ys => y :: ys).bind _ = _
  cases rdArgument (rdList j) k1 a with
  | error e => rfl
  | ok h =>
    show ((((rdArgument (rdList j) k2 b).bind fun z => (Except.ok []).map fun ys => z :: ys).map fun ys => h :: ys).bind _) = (rdArgument (rdList j) k2 b).bind _
    cases rdArgument (rdList j) k2 b with
    | error e => rfl
    | ok g =>
      show (if fo = "row" then _ else _ : Checked (List Arg)).map _ = _
      rw [if_neg hr]; rfl
theorem fits_iff {ld : List Str} {le m : Nat} : shFits (ld, fo, le) m = true ↔ m = le ∨ (le < m ∧ fo ≠ "") := by
  simp only [shFits, Bool.or_eq_true, Bool.and_eq_true, decide_eq_true_eq, Bool.not_eq_true', decide_eq_false_iff_not, ne_eq]
/-- nothing at all -/
theorem s0 (hs : shOf ws = ([], ("" : Str), 0)) : rdShaped (rdList (j + 1)) (some ws) (nd p q name args) = if args.isEmpty = true then .ok (.node name [] [] "") else .error (8, p) := by
  rw [rs_eq, hs]
  cases args with
  | nil =>
    rw [if_neg (by decide +kernel), if_neg (fun z => by cases z.1), rl0 (by decide +kernel)]
    rfl
  | cons a r =>
    rw [if_pos]
    · rfl
    · rw [Bool.eq_false_iff]; intro z; rw [fits_iff] at z
      rcases z with z | z
      · simp at z
      · exact z.2 rfl
/-- any number -/
theorem s1 (hs : shOf ws = ([], fo, 0)) (hf : fo ≠ "") (hr : fo ≠ "row") : rdShaped (rdList (j + 1)) (some ws) (nd p q name args) = (collect (rdArgument (rdList j) fo) args).map fun c => .node name [] c fo := by
  rw [rs_eq, hs, if_neg, if_neg (fun z => by cases z.1), rl0 hr]
  rw [Bool.not_eq_false, fits_iff]
  rcases Nat.eq_zero_or_pos args.length with h | h
  · exact .inl h
  · exact .inr ⟨h, hf⟩
/-- one at least -/
theorem s1p (hs : shOf ws = ([], fo, 1)) (hf : fo ≠ "") (hr : fo ≠ "row") : rdShaped (rdList (j + 1)) (some ws) (nd p q name args) = if args.isEmpty = true then .error (8, p) else (collect (rdArgument (rdList j) fo) args).map fun c => .node name [] c fo := by
  rw [rs_eq, hs]
  cases args with
  | nil => rw [if_pos (by rw [Bool.eq_false_iff]; intro z; rw [fits_iff] at z; rcases z with z | z <;> simp at z)]; rfl
  | cons a r =>
    rw [if_neg, if_neg (fun z => by cases z.1), rl0 hr]
    · rfl
    · rw [Bool.not_eq_false, fits_iff]
      rcases Nat.eq_zero_or_pos r.length with h | h
      · exact .inl (by simp [h])
      · exact .inr ⟨by simp only [List.length_cons]; omega, hf⟩
/-- one alone -/
theorem s2 (hs : shOf ws = ([k1], ("" : Str), 1)) (hi : needsInt ([k1], ("" : Str), 1) = false) : rdShaped (rdList (j + 1)) (some ws) (nd p q name args) = match args with
    | [a] => (rdArgument (rdList j) k1 a).map fun h => .node name [h] [] ""
    | _ => .error (8, p) := by
  rw [rs_eq, hs]
  match args with
  | [] => rw [if_pos (by rw [Bool.eq_false_iff]; intro z; rw [fits_iff] at z; rcases z with z | z <;> simp at z)]
  | [a] =>
    rw [if_neg (by rw [Bool.not_eq_false, fits_iff]; exact .inl rfl), if_neg (fun z => by rw [hi] at z; cases z.1), rl1 (by decide +kernel)]
    show (rdArgument (rdList j) k1 a).bind _ = (rdArgument (rdList j) k1 a).map _
    cases rdArgument (rdList j) k1 a <;> rfl
  | a :: b :: r => rw [if_pos (by rw [Bool.eq_false_iff]; intro z; rw [fits_iff] at z; exact z.elim (fun z => by simp at z) (fun z => z.2 rfl))]
/-- one, then any number -/
theorem s3 (hs : shOf ws = ([k1], fo, 1)) (hi : needsInt ([k1], fo, 1) = false) (hf : fo ≠ "") (hr : fo ≠ "row") : rdShaped (rdList (j + 1)) (some ws) (nd p q name args) = match args with
    | a :: r => (rdArgument (rdList j) k1 a).bind fun h => (collect (rdArgument (rdList j) fo) r).map fun c => .node name [h] c fo
    | [] => .error (8, p) := by
  rw [rs_eq, hs]
  match args with
  | [] => rw [if_pos (by rw [Bool.eq_false_iff]; intro z; rw [fits_iff] at z; rcases z with z | z <;> simp at z)]
  | a :: r =>
    rw [if_neg, if_neg (fun z => by rw [hi] at z; cases z.1), rl1 hr]
    rw [Bool.not_eq_false, fits_iff]
    rcases Nat.eq_zero_or_pos r.length with h | h
    · exact .inl (by simp [h])
    · exact .inr ⟨by simp only [List.length_cons]; omega, hf⟩
/-- two alone -/
theorem s4 (hs : shOf ws = ([k1, k2], ("" : Str), 2)) (hi : needsInt ([k1, k2], ("" : Str), 2) = false) : rdShaped (rdList (j + 1)) (some ws) (nd p q name args) = match args with
    | [a, b] => (rdArgument (rdList j) k1 a).bind fun h => (rdArgument (rdList j) k2 b).map fun g => .node name [h, g] [] ""
    | _ => .error (8, p) := by
  rw [rs_eq, hs]
  match args with
  | [] => rw [if_pos (by rw [Bool.eq_false_iff]; intro z; rw [fits_iff] at z; rcases z with z | z <;> simp at z)]
  | [a] => rw [if_pos (by rw [Bool.eq_false_iff]; intro z; rw [fits_iff] at z; rcases z with z | z <;> simp at z)]
  | [a, b] =>
    rw [if_neg (by rw [Bool.not_eq_false, fits_iff]; exact .inl rfl), if_neg (fun z => by rw [hi] at z; cases z.1), rl2 (by decide +kernel)]
    show (rdArgument (rdList j) k1 a).bind _ = (rdArgument (rdList j) k1 a).bind _
    cases rdArgument (rdList j) k1 a with
    | error e => rfl
    | ok h =>
      show (rdArgument (rdList j) k2 b).bind _ = (rdArgument (rdList j) k2 b).map _
      cases rdArgument (rdList j) k2 b <;> rfl
  | a :: b :: c :: r => rw [if_pos (by rw [Bool.eq_false_iff]; intro z; rw [fits_iff] at z; exact z.elim (fun z => by simp at z) (fun z => z.2 rfl))]
/-- two, then any number -/
theorem s5 (hs : shOf ws = ([k1, k2], fo, 2)) (hf : fo ≠ "") (hr : fo ≠ "row") : rdShaped (rdList (j + 1)) (some ws) (nd p q name args) = match args with
    | a :: b :: r => if needsInt ([k1, k2], fo, 2) = true ∧ isInt a = false then .error (8, p) else (rdArgument (rdList j) k1 a).bind fun h => (rdArgument (rdList j) k2 b).bind fun g => (collect (rdArgument (rdList j) fo) r).map fun c => .node name [h, g] c fo
    | _ => .error (8, p) := by
  rw [rs_eq, hs]
  match args with
  | [] => rw [if_pos (by rw [Bool.eq_false_iff]; intro z; rw [fits_iff] at z; rcases z with z | z <;> simp at z)]
  | [a] => rw [if_pos (by rw [Bool.eq_false_iff]; intro z; rw [fits_iff] at z; rcases z with z | z <;> simp at z)]
  | a :: b :: r =>
    rw [if_neg, rl2 hr]
    · rfl
    · rw [Bool.not_eq_false, fits_iff]
      rcases Nat.eq_zero_or_pos r.length with h | h
      · exact .inl (by simp [h])
      · exact .inr ⟨by simp only [List.length_cons]; omega, hf⟩
/-- a number, one at least besides -/
theorem s6 (hs : shOf ws = ([k1], fo, 2)) (hi : needsInt ([k1], fo, 2) = true) (hf : fo ≠ "") (hr : fo ≠ "row") : rdShaped (rdList (j + 1)) (some ws) (nd p q name args) = match args with
    | a :: b :: r => if isInt a = false then .error (8, p) else (rdArgument (rdList j) k1 a).bind fun h => (collect (rdArgument (rdList j) fo) (b :: r)).map fun c => .node name [h] c fo
    | _ => .error (8, p) := by
  rw [rs_eq, hs]
  match args with
  | [] => rw [if_pos (by rw [Bool.eq_false_iff]; intro z; rw [fits_iff] at z; rcases z with z | z <;> simp at z)]
  | [a] => rw [if_pos (by rw [Bool.eq_false_iff]; intro z; rw [fits_iff] at z; rcases z with z | z <;> simp at z)]
  | a :: b :: r =>
    rw [if_neg, rl1 hr]
    · by_cases h : isInt a = false
      · rw [if_pos ⟨hi, h⟩]; simp only [if_pos h]
      · rw [if_neg (fun z => h z.2)]; simp only [if_neg h]
    · rw [Bool.not_eq_false, fits_iff]
      rcases Nat.eq_zero_or_pos r.length with h | h
      · exact .inl (by simp [h])
      · exact .inr ⟨by simp only [List.length_cons]; omega, hf⟩
end
end Bt

namespace Bt
open PySem
open Kh450 (Inline Block codesOf encodeAll collect fail toInlineLoop toBlockLoop toInlines stringOf labelOf identifierOf argumentsOf alignmentOf toRow Checked)
/-! ### inline elements -/
theorem key_is {name : List Nat} {s : String} (hs : Str.ofString s = ⟨(codesOf s).toArray⟩) (h : (⟨name.toArray⟩ : Str) = Str.ofString s) : name = codesOf s := (str_eq_list _ _).mp (h.trans hs)
/-- labels as the program keeps them -/
theorem labels_eq (rl : Shp → Kh450.Node → RA) (args : List Kh450.Node) : collect (rdArgument rl "label") args = (collect labelOf args).map fun c => c.map tx := by
  show _ = (collect labelOf args).map (List.map tx)
  rw [collect_map]
  exact collect_congr fun x _ => arg_label rl x
theorem part_is {z : List Nat} {n : Kh450.Node} (rl : Shp → Kh450.Node → RA) {ws : List Str} (hw : PTt.lookup ⟨z.toArray⟩ = some ws) (ha : z ≠ codesOf "align") (ht : z ≠ codesOf "term") :
    rdPart rl z n = match n with
      | .list p (.symbol q t :: items) => if t = z then rl (shOf ws) (nd p q z items) else .error (8, p)
      | n => .error (8, n.position) := by
  unfold rdPart
  rw [hw]
  have no : partOk z n = false → (if partOk z n = true then (rl (shOf ((some ws).getD [])) n).bind fun part => if z = codesOf "align" ∧ childrenOf part = [] then (.error (8, n.position) : RA) else .ok part else .error (8, n.position)) = .error (8, n.position) := fun h => by rw [if_neg (by rw [h]; decide)]
  cases n with
  | symbol p t => exact no rfl
  | integer p t => exact no rfl
  | string p t => exact no rfl
  | list p items =>
    cases items with
    | nil => exact no rfl
    | cons m r =>
      cases m with
      | integer p t => exact no rfl
      | string p t => exact no rfl
      | list p t => exact no rfl
      | symbol q t =>
        have e : partOk z (.list p (.symbol q t :: r)) = (decide (t = z) && (!decide (z = codesOf "term") || headList r)) := rfl
        by_cases h : t = z
        · subst h
          rw [if_pos (by rw [e, decide_eq_true rfl, decide_eq_false ht]; rfl)]
          show _ = if t = t then _ else _
          rw [if_pos rfl]
          show (rl (shOf ws) (nd p q t r)).bind _ = rl (shOf ws) (nd p q t r)
          cases rl (shOf ws) (nd p q t r) with
          | error e => rfl
          | ok part => show (if _ ∧ _ then _ else _ : RA) = _; rw [if_neg (fun w => ha w.1)]
        · show _ = if t = z then _ else _
          rw [if_neg h, no (by rw [e, decide_eq_false h]; rfl)]; rfl
theorem argsOf_is (s : String) (n : Kh450.Node) : argumentsOf s n = match n with
      | .list p (.symbol _ t :: items) => if t = codesOf s then .ok items else .error (8, p)
      | n => .error (8, n.position) := by
  cases n with
  | symbol p t => rfl
  | integer p t => rfl
  | string p t => rfl
  | list p items =>
    cases items with
    | nil => rfl
    | cons m r =>
      cases m with
      | integer p t => rfl
      | string p t => rfl
      | list p t => rfl
      | symbol q t =>
        show (if (t == codesOf s) = true then _ else _) = if t = codesOf s then _ else _
        by_cases h : t = codesOf s
        · rw [if_pos h, if_pos (beq_iff_eq.mpr h)]
        · rw [if_neg h, if_neg (fun z => h (beq_iff_eq.mp z))]; rfl
/-- a part of one kind of arguments -/
theorem part_eq {s : String} {ws : List Str} {fo : Str} {j : Nat} {n : Kh450.Node} (hp : PTt.lookup ⟨(codesOf s).toArray⟩ = some ws) (ha : codesOf s ≠ codesOf "align") (ht : codesOf s ≠ codesOf "term") (hs : shOf ws = ([], fo, 0)) (hr : fo ≠ "row") :
    rdPart (rdList (j + 1)) (codesOf s) n = (argumentsOf s n).bind fun items => (collect (rdArgument (rdList j) fo) items).map fun c => .node (codesOf s) [] c fo := by
  rw [part_is _ hp ha ht, argsOf_is]
  cases n with
  | symbol p t => rfl
  | integer p t => rfl
  | string p t => rfl
  | list p items =>
    cases items with
    | nil => rfl
    | cons m r =>
      cases m with
      | integer p t => rfl
      | string p t => rfl
      | list p t => rfl
      | symbol q t =>
        show (if t = codesOf s then rdList (j + 1) (shOf ws) (nd p q (codesOf s) r) else (.error (8, p) : RA)) = (if t = codesOf s then (.ok r : Checked (List Kh450.Node)) else .error (8, p)).bind _
        by_cases h : t = codesOf s
        · rw [if_pos h, if_pos h, hs, rl0 hr]; rfl
        · rw [if_neg h, if_neg h]; rfl
theorem class_eq {j : Nat} (n : Kh450.Node) : rdArgument (rdList (j + 1)) "class" n = ((argumentsOf "class" n).bind fun names => collect labelOf names).map clsA := by
  rw [arg_part _ _ (by decide +kernel), show ("class" : Str).cps.toList = codesOf "class" by decide +kernel, part_eq (ws := ["label*"]) (fo := "label") (by decide +kernel) (by decide +kernel) (by decide +kernel) (by decide +kernel) (by decide +kernel)]
  cases argumentsOf "class" n with
  | error e => rfl
  | ok items =>
    show (collect (rdArgument (rdList j) "label") items).map _ = (collect labelOf items).map clsA
    rw [labels_eq]
    cases collect labelOf items <;> rfl
/-- what is no list is no part -/
theorem part_leaf (rl : Shp → Kh450.Node → RA) {z : List Nat} {n : Kh450.Node} (h : DepOk 0 n) : rdPart rl z n = .error (8, n.position) := by
  unfold rdPart
  cases n with
  | list p items => exact h.elim
  | symbol p t => rfl
  | integer p t => rfl
  | string p t => rfl
theorem argsOf_leaf {s : String} {n : Kh450.Node} (h : DepOk 0 n) : argumentsOf s n = .error (8, n.position) := by
  cases n with
  | list p items => exact h.elim
  | symbol p t => rfl
  | integer p t => rfl
  | string p t => rfl
theorem class_dep {j j' : Nat} (n : Kh450.Node) (hd : DepOk j n) (hj : j ≤ j') : rdArgument (rdList j') "class" n = ((argumentsOf "class" n).bind fun names => collect labelOf names).map clsA := by
  cases j' with
  | succ g => exact class_eq n
  | zero =>
    obtain rfl : j = 0 := by omega
    rw [arg_part _ _ (by decide +kernel), part_leaf _ hd, argsOf_leaf hd]; rfl
theorem depth_args {j p q : Nat} {name : List Nat} {args : List Kh450.Node} (h : DepOk (j + 1) (nd p q name args)) : ∀ x ∈ args, DepOk j x := fun x hx => h.2 x (List.mem_cons_of_mem _ hx)
theorem inl_loop (f p q : Nat) (name : List Nat) (args : List Kh450.Node) : toInlineLoop (f + 1) (nd p q name args) = match Kh450.find Kh450.styles name with
      | some style => (collect (toInlineLoop f) args).map (.styled style)
      | none =>
        if (name == codesOf "code") = true then (match args with
          | [t] => (stringOf t).map .code
          | _ => fail 8 p)
        else if (name == codesOf "math") = true then (match args with
          | [t] => (stringOf t).map .math
          | _ => fail 8 p)
        else if (name == codesOf "break") = true then (if args.isEmpty = true then .ok .lineBreak else fail 8 p)
        else if (name == codesOf "noteref") = true then (match args with
          | [t] => (labelOf t).map .noteReference
          | _ => fail 8 p)
        else if (name == codesOf "ref") = true then (match args with
          | [t] => (labelOf t).map .reference
          | _ => fail 8 p)
        else if (name == codesOf "cite") = true then (if args.isEmpty = true then fail 8 p else (collect labelOf args).map .citation)
        else if (name == codesOf "link") = true then (match args with
          | target :: rest => (stringOf target).bind fun t => (collect (toInlineLoop f) rest).map (.link t)
          | [] => fail 8 p)
        else if (name == codesOf "image") = true then (match args with
          | target :: rest => (stringOf target).bind fun t => (collect (toInlineLoop f) rest).map (.image t)
          | [] => fail 8 p)
        else if (name == codesOf "span") = true then (match args with
          | classes :: rest => (argumentsOf "class" classes).bind fun names => (collect labelOf names).bind fun c => (collect (toInlineLoop f) rest).map (.span c)
          | [] => fail 8 p)
        else fail 7 p := rfl
theorem find_no {name : List Nat} (h : ∀ x ∈ Kh450.styles, name ≠ codesOf x.1) : Kh450.find Kh450.styles name = none := by
  unfold Kh450.find
  rw [List.find?_eq_none.mpr fun x hx => by rw [beq_iff_eq]; exact fun e => h x hx e.symm]; rfl
/-- the styles -/
theorem sty_eq {j p q f : Nat} {name : List Nat} {args : List Kh450.Node} {ws : List Str} {st : Kh450.Style} (hw : shOf ws = ([], ("inline" : Str), 0)) (hf : Kh450.find Kh450.styles name = some st) (hn : Kh450.nameIn Kh450.styles st = name)
    (ih : collect (rdArgument (rdList j) "inline") args = (collect (toInlineLoop f) args).map inlsA) : rdShaped (rdList (j + 1)) (some ws) (nd p q name args) = (toInlineLoop (f + 1) (nd p q name args)).map inlA := by
  rw [s1 hw (by decide +kernel) (by decide +kernel), inl_loop, hf, ih]
  show _ = ((collect (toInlineLoop f) args).map (Inline.styled st)).map inlA
  cases collect (toInlineLoop f) args with
  | error e => rfl
  | ok c => show Except.ok (Arg.node name [] (inlsA c) "inline") = Except.ok (inlA (.styled st c)); rw [inlA, hn]
theorem inl_eq : ∀ (j : Nat) (n : Kh450.Node) (f j' : Nat), DepOk j n → j + 1 ≤ f → j ≤ j' → rdInline (rdList j') n = (toInlineLoop f n).map inlA := by
  intro j
  induction j with
  | zero =>
    intro n f j' hd hf hj
    obtain ⟨f, rfl⟩ : ∃ g, f = g + 1 := ⟨f - 1, by omega⟩
    have h0 : ILt.lookup ⟨([] : List Nat).toArray⟩ = none := by decide +kernel
    cases n with
    | list p items => exact hd.elim
    | string p t => rfl
    | symbol p t => show rdShaped (rdList j') (ILt.lookup ⟨([] : List Nat).toArray⟩) _ = _; rw [h0]; rfl
    | integer p t => show rdShaped (rdList j') (ILt.lookup ⟨([] : List Nat).toArray⟩) _ = _; rw [h0]; rfl
  | succ j IH =>
    intro n f j' hd hf hj
    obtain ⟨f, rfl⟩ : ∃ g, f = g + 1 := ⟨f - 1, by omega⟩
    obtain ⟨j', rfl⟩ : ∃ g, j' = g + 1 := ⟨j' - 1, by omega⟩
    have h0 : ILt.lookup ⟨([] : List Nat).toArray⟩ = none := by decide +kernel
    have bad : symName n = [] → (∀ p t, n ≠ .string p t) → (toInlineLoop (f + 1) n).map inlA = .error (7, n.position) → rdInline (rdList (j' + 1)) n = (toInlineLoop (f + 1) n).map inlA := fun e1 e2 e3 => by
      rw [e3]
      have qe : rdInline (rdList (j' + 1)) n = rdShaped (rdList (j' + 1)) (ILt.lookup ⟨(symName n).toArray⟩) n := by
        cases n with
        | string p t => exact absurd rfl (e2 p t)
        | symbol p t => rfl
        | integer p t => rfl
        | list p t => rfl
      rw [qe, e1, h0]; rfl
    cases n with
    | string p t => rfl
    | symbol p t => exact bad rfl (fun _ _ z => by cases z) rfl
    | integer p t => exact bad rfl (fun _ _ z => by cases z) rfl
    | list p items =>
      cases items with
      | nil => exact bad rfl (fun _ _ z => by cases z) rfl
      | cons m args =>
        cases m with
        | string p t => exact bad rfl (fun _ _ z => by cases z) rfl
        | integer p t => exact bad rfl (fun _ _ z => by cases z) rfl
        | list p t => exact bad rfl (fun _ _ z => by cases z) rfl
        | symbol q name =>
          have hargs := depth_args hd
          have ihs : ∀ r : List Kh450.Node, (∀ x ∈ r, x ∈ args) → collect (rdArgument (rdList j') "inline") r = (collect (toInlineLoop f) r).map inlsA := fun r hr => by
            have e : inlsA = List.map inlA := funext inlsA_map
            rw [e, collect_map]
            exact collect_congr fun x hx => (arg_inline _ x).trans (IH x f j' (hargs x (hr x hx)) (by omega) (by omega))
          have ih := ihs args fun _ h => h
          show rdShaped (rdList (j' + 1)) (ILt.lookup ⟨name.toArray⟩) (nd p q name args) = (toInlineLoop (f + 1) (nd p q name args)).map inlA
          cases hl : ILt.lookup ⟨name.toArray⟩ with
          | none =>
            have ne : ∀ s : String, ILt.lookup ⟨(codesOf s).toArray⟩ ≠ none → name ≠ codesOf s := fun s h e => by rw [e] at hl; exact h hl
            have nb : ∀ s : String, ILt.lookup ⟨(codesOf s).toArray⟩ ≠ none → ¬ (name == codesOf s) = true := fun s h e => ne s h (beq_iff_eq.mp e)
            rw [inl_loop, find_no, if_neg (nb "code" (by decide +kernel)), if_neg (nb "math" (by decide +kernel)), if_neg (nb "break" (by decide +kernel)), if_neg (nb "noteref" (by decide +kernel)), if_neg (nb "ref" (by decide +kernel)), if_neg (nb "cite" (by decide +kernel)), if_neg (nb "link" (by decide +kernel)), if_neg (nb "image" (by decide +kernel)), if_neg (nb "span" (by decide +kernel))]
            · rfl
            · intro x hx
              simp only [Kh450.styles, List.mem_cons, List.not_mem_nil, or_false] at hx
              rcases hx with rfl | rfl | rfl | rfl | rfl | rfl
              · exact ne "emph" (by decide +kernel)
              · exact ne "strong" (by decide +kernel)
              · exact ne "strike" (by decide +kernel)
              · exact ne "super" (by decide +kernel)
              · exact ne "sub" (by decide +kernel)
              · exact ne "caps" (by decide +kernel)
          | some ws =>
            have hm := lookup_key hl
            simp only [ILt, List.mem_cons, List.not_mem_nil, or_false, Prod.mk.injEq] at hm
            rcases hm with ⟨h, rfl⟩ | ⟨h, rfl⟩ | ⟨h, rfl⟩ | ⟨h, rfl⟩ | ⟨h, rfl⟩ | ⟨h, rfl⟩ | ⟨h, rfl⟩ | ⟨h, rfl⟩ | ⟨h, rfl⟩ | ⟨h, rfl⟩ | ⟨h, rfl⟩ | ⟨h, rfl⟩ | ⟨h, rfl⟩ | ⟨h, rfl⟩ | ⟨h, rfl⟩
            · -- code
              have e := key_is (by decide +kernel) h; subst e
              rw [s2 (k1 := "text") (by decide +kernel) (by decide +kernel), inl_loop, show Kh450.find Kh450.styles (codesOf "code") = none by decide +kernel]
              show _ = Except.map inlA (if (codesOf "code" == codesOf "code") = true then _ else _)
              rw [if_pos (by decide +kernel)]
              match args with
              | [] => rfl
              | [t] => show (rdArgument (rdList j') "text" t).map _ = _; rw [arg_text]; show _ = ((stringOf t).map _).map _; cases stringOf t <;> rfl
              | a :: b :: r => rfl
            · -- math
              have e := key_is (by decide +kernel) h; subst e
              rw [s2 (k1 := "text") (by decide +kernel) (by decide +kernel), inl_loop, show Kh450.find Kh450.styles (codesOf "math") = none by decide +kernel]
              show _ = Except.map inlA (if (codesOf "math" == codesOf "code") = true then _ else _)
              rw [if_neg (by decide +kernel), if_pos (by decide +kernel)]
              match args with
              | [] => rfl
              | [t] => show (rdArgument (rdList j') "text" t).map _ = _; rw [arg_text]; show _ = ((stringOf t).map _).map _; cases stringOf t <;> rfl
              | a :: b :: r => rfl
            · -- break
              have e := key_is (by decide +kernel) h; subst e
              rw [s0 (by decide +kernel), inl_loop, show Kh450.find Kh450.styles (codesOf "break") = none by decide +kernel]
              by_cases z : args.isEmpty = true
              · rw [if_pos z]
                show _ = Except.map inlA (if (codesOf "break" == codesOf "code") = true then _ else _)
                rw [if_neg (by decide +kernel), if_neg (by decide +kernel), if_pos (by decide +kernel), if_pos z]; rfl
              · rw [if_neg z]
                show _ = Except.map inlA (if (codesOf "break" == codesOf "code") = true then _ else _)
                rw [if_neg (by decide +kernel), if_neg (by decide +kernel), if_pos (by decide +kernel), if_neg z]; rfl
            · -- noteref
              have e := key_is (by decide +kernel) h; subst e
              rw [s2 (k1 := "label") (by decide +kernel) (by decide +kernel), inl_loop, show Kh450.find Kh450.styles (codesOf "noteref") = none by decide +kernel]
              show _ = Except.map inlA (if (codesOf "noteref" == codesOf "code") = true then _ else _)
              rw [if_neg (by decide +kernel), if_neg (by decide +kernel), if_neg (by decide +kernel), if_pos (by decide +kernel)]
              match args with
              | [] => rfl
              | [t] => show (rdArgument (rdList j') "label" t).map _ = _; rw [arg_label]; show _ = ((labelOf t).map _).map _; cases labelOf t <;> rfl
              | a :: b :: r => rfl
            · -- ref
              have e := key_is (by decide +kernel) h; subst e
              rw [s2 (k1 := "label") (by decide +kernel) (by decide +kernel), inl_loop, show Kh450.find Kh450.styles (codesOf "ref") = none by decide +kernel]
              show _ = Except.map inlA (if (codesOf "ref" == codesOf "code") = true then _ else _)
              rw [if_neg (by decide +kernel), if_neg (by decide +kernel), if_neg (by decide +kernel), if_neg (by decide +kernel), if_pos (by decide +kernel)]
              match args with
              | [] => rfl
              | [t] => show (rdArgument (rdList j') "label" t).map _ = _; rw [arg_label]; show _ = ((labelOf t).map _).map _; cases labelOf t <;> rfl
              | a :: b :: r => rfl
            · -- cite
              have e := key_is (by decide +kernel) h; subst e
              rw [s1p (fo := "label") (by decide +kernel) (by decide +kernel) (by decide +kernel), inl_loop, show Kh450.find Kh450.styles (codesOf "cite") = none by decide +kernel]
              by_cases z : args.isEmpty = true
              · rw [if_pos z]
                show _ = Except.map inlA (if (codesOf "cite" == codesOf "code") = true then _ else _)
                rw [if_neg (by decide +kernel), if_neg (by decide +kernel), if_neg (by decide +kernel), if_neg (by decide +kernel), if_neg (by decide +kernel), if_pos (by decide +kernel), if_pos z]; rfl
              · rw [if_neg z, labels_eq]
                show _ = Except.map inlA (if (codesOf "cite" == codesOf "code") = true then _ else _)
                rw [if_neg (by decide +kernel), if_neg (by decide +kernel), if_neg (by decide +kernel), if_neg (by decide +kernel), if_neg (by decide +kernel), if_pos (by decide +kernel), if_neg z]; cases collect labelOf args <;> rfl
            · have e := key_is (by decide +kernel) h; subst e; exact sty_eq (st := .emphasis) (by decide +kernel) (by decide +kernel) (by decide +kernel) ih
            · have e := key_is (by decide +kernel) h; subst e; exact sty_eq (st := .strong) (by decide +kernel) (by decide +kernel) (by decide +kernel) ih
            · have e := key_is (by decide +kernel) h; subst e; exact sty_eq (st := .strike) (by decide +kernel) (by decide +kernel) (by decide +kernel) ih
            · have e := key_is (by decide +kernel) h; subst e; exact sty_eq (st := .superscript) (by decide +kernel) (by decide +kernel) (by decide +kernel) ih
            · have e := key_is (by decide +kernel) h; subst e; exact sty_eq (st := .subscript) (by decide +kernel) (by decide +kernel) (by decide +kernel) ih
            · have e := key_is (by decide +kernel) h; subst e; exact sty_eq (st := .smallCaps) (by decide +kernel) (by decide +kernel) (by decide +kernel) ih
            · -- link
              have e := key_is (by decide +kernel) h; subst e
              rw [s3 (k1 := "text") (fo := "inline") (by decide +kernel) (by decide +kernel) (by decide +kernel) (by decide +kernel), inl_loop, show Kh450.find Kh450.styles (codesOf "link") = none by decide +kernel]
              show _ = Except.map inlA (if (codesOf "link" == codesOf "code") = true then _ else _)
              rw [if_neg (by decide +kernel), if_neg (by decide +kernel), if_neg (by decide +kernel), if_neg (by decide +kernel), if_neg (by decide +kernel), if_neg (by decide +kernel), if_pos (by decide +kernel)]
              cases args with
              | nil => rfl
              | cons t r =>
                show (rdArgument (rdList j') "text" t).bind _ = ((stringOf t).bind _).map _
                rw [arg_text, ihs r fun x hx => List.mem_cons_of_mem _ hx]
                cases stringOf t with
                | error e => rfl
                | ok t => show ((collect (toInlineLoop f) r).map _).map _ = ((collect (toInlineLoop f) r).map _).map _; cases collect (toInlineLoop f) r <;> rfl
            · -- image
              have e := key_is (by decide +kernel) h; subst e
              rw [s3 (k1 := "text") (fo := "inline") (by decide +kernel) (by decide +kernel) (by decide +kernel) (by decide +kernel), inl_loop, show Kh450.find Kh450.styles (codesOf "image") = none by decide +kernel]
              show _ = Except.map inlA (if (codesOf "image" == codesOf "code") = true then _ else _)
              rw [if_neg (by decide +kernel), if_neg (by decide +kernel), if_neg (by decide +kernel), if_neg (by decide +kernel), if_neg (by decide +kernel), if_neg (by decide +kernel), if_neg (by decide +kernel), if_pos (by decide +kernel)]
              cases args with
              | nil => rfl
              | cons t r =>
                show (rdArgument (rdList j') "text" t).bind _ = ((stringOf t).bind _).map _
                rw [arg_text, ihs r fun x hx => List.mem_cons_of_mem _ hx]
                cases stringOf t with
                | error e => rfl
                | ok t => show ((collect (toInlineLoop f) r).map _).map _ = ((collect (toInlineLoop f) r).map _).map _; cases collect (toInlineLoop f) r <;> rfl
            · -- span
              have e := key_is (by decide +kernel) h; subst e
              rw [s3 (k1 := "class") (fo := "inline") (by decide +kernel) (by decide +kernel) (by decide +kernel) (by decide +kernel), inl_loop, show Kh450.find Kh450.styles (codesOf "span") = none by decide +kernel]
              show _ = Except.map inlA (if (codesOf "span" == codesOf "code") = true then _ else _)
              rw [if_neg (by decide +kernel), if_neg (by decide +kernel), if_neg (by decide +kernel), if_neg (by decide +kernel), if_neg (by decide +kernel), if_neg (by decide +kernel), if_neg (by decide +kernel), if_neg (by decide +kernel), if_pos (by decide +kernel)]
              cases args with
              | nil => rfl
              | cons t r =>
                show (rdArgument (rdList j') "class" t).bind _ = ((argumentsOf "class" t).bind _).map _
                rw [class_dep t (hargs t (by simp)) (by omega), ihs r fun x hx => List.mem_cons_of_mem _ hx]
                cases argumentsOf "class" t with
                | error e => rfl
                | ok names =>
                  show ((collect labelOf names).map clsA).bind _ = ((collect labelOf names).bind _).map _
                  cases collect labelOf names with
                  | error e => rfl
                  | ok c => show ((collect (toInlineLoop f) r).map _).map _ = ((collect (toInlineLoop f) r).map _).map _; cases collect (toInlineLoop f) r <;> rfl
end Bt

namespace Bt
open PySem
open Kh450 (Inline Block codesOf encodeAll collect fail toInlineLoop toBlockLoop toInlines stringOf labelOf identifierOf argumentsOf alignmentOf toRow Checked)
/-! ### blocks -/
theorem inls_eq {j j' : Nat} {l : List Kh450.Node} (h : ∀ x ∈ l, DepOk j x) (hj : j ≤ 16) (hj' : j ≤ j') : collect (rdArgument (rdList j') "inline") l = (toInlines l).map inlsA := by
  have e : inlsA = List.map inlA := funext inlsA_map
  unfold toInlines
  rw [e, collect_map]
  exact collect_congr fun x hx => (arg_inline _ x).trans (inl_eq j x 17 j' (h x hx) (by omega) hj')
/-- a part with inline elements alone -/
theorem inlPart_eq {s : String} {ws : List Str} {j j' : Nat} {n : Kh450.Node} (hd : DepOk j n) (hj : j ≤ 16) (hj' : j ≤ j') (hp : PTt.lookup ⟨(codesOf s).toArray⟩ = some ws) (ha : codesOf s ≠ codesOf "align") (ht : codesOf s ≠ codesOf "term") (hs : shOf ws = ([], ("inline" : Str), 0)) :
    rdPart (rdList j') (codesOf s) n = ((argumentsOf s n).bind toInlines).map fun c => .node (codesOf s) [] (inlsA c) "inline" := by
  cases j with
  | zero => rw [part_leaf _ hd, argsOf_leaf hd]; rfl
  | succ j =>
    obtain ⟨g, rfl⟩ : ∃ g, j' = g + 1 := ⟨j' - 1, by omega⟩
    rw [part_eq hp ha ht hs (by decide +kernel)]
    cases hargs : argumentsOf s n with
    | error e => rfl
    | ok items =>
      have hi : ∀ x ∈ items, DepOk j x := by
        rw [argsOf_is] at hargs
        split at hargs
        · split at hargs
          · cases hargs; exact depth_args hd
          · cases hargs
        · cases hargs
      show (collect (rdArgument (rdList g) "inline") items).map _ = (toInlines items).map _
      rw [inls_eq hi (by omega) (by omega)]
      cases toInlines items <;> rfl
/-- an item -/
theorem item_eq {j j' f : Nat} {n : Kh450.Node} (hd : DepOk j n) (hj' : j ≤ j') (ih : ∀ x, DepOk (j - 1) x → rdBlock (rdList (j' - 1)) x = (toBlockLoop f x).map blkA) :
    rdArgument (rdList j') "item" n = ((argumentsOf "item" n).bind fun blocks => collect (toBlockLoop f) blocks).map itemA := by
  rw [arg_part _ _ (by decide +kernel), show ("item" : Str).cps.toList = codesOf "item" by decide +kernel]
  cases j with
  | zero => rw [part_leaf _ hd, argsOf_leaf hd]; rfl
  | succ j =>
    obtain ⟨g, rfl⟩ : ∃ g, j' = g + 1 := ⟨j' - 1, by omega⟩
    rw [part_eq (ws := ["block*"]) (fo := "block") (by decide +kernel) (by decide +kernel) (by decide +kernel) (by decide +kernel) (by decide +kernel)]
    cases hargs : argumentsOf "item" n with
    | error e => rfl
    | ok items =>
      have hi : ∀ x ∈ items, DepOk j x := by
        rw [argsOf_is] at hargs
        split at hargs
        · split at hargs
          · cases hargs; exact depth_args hd
          · cases hargs
        · cases hargs
      show (collect (rdArgument (rdList g) "block") items).map _ = (collect (toBlockLoop f) items).map itemA
      have e : collect (rdArgument (rdList g) "block") items = (collect (toBlockLoop f) items).map blksA := by
        rw [show blksA = List.map blkA from funext blksA_map, collect_map]
        exact collect_congr fun x hx => (arg_block _ x).trans (ih x (hi x hx))
      rw [e]
      cases collect (toBlockLoop f) items <;> rfl
/-- an entry -/
def toEntry (f : Nat) (entry : Kh450.Node) : Checked (List Inline × List Block) := match entry with
  | .list _ (.symbol _ t :: .list _ inlines :: blocks) => if (t == codesOf "term") = true then (toInlines inlines).bind fun i => (collect (toBlockLoop f) blocks).map fun b => (i, b) else fail 8 entry.position
  | _ => fail 8 entry.position
theorem entry_eq {j j' f : Nat} {n : Kh450.Node} (hd : DepOk j n) (hj : j ≤ 16) (hj' : j ≤ j') (ih : ∀ x, DepOk (j - 1) x → rdBlock (rdList (j' - 1)) x = (toBlockLoop f x).map blkA) :
    rdArgument (rdList j') "term" n = (toEntry f n).map entryA := by
  rw [arg_part _ _ (by decide +kernel), show ("term" : Str).cps.toList = codesOf "term" by decide +kernel]
  cases j with
  | zero =>
    rw [part_leaf _ hd]
    cases n with
    | list p items => exact hd.elim
    | symbol p t => rfl
    | integer p t => rfl
    | string p t => rfl
  | succ j =>
    obtain ⟨g, rfl⟩ : ∃ g, j' = g + 1 := ⟨j' - 1, by omega⟩
    have bad : partOk (codesOf "term") n = false → (toEntry f n).map entryA = .error (8, n.position) → rdPart (rdList (g + 1)) (codesOf "term") n = (toEntry f n).map entryA := fun h e => by
      rw [e]; unfold rdPart; rw [if_neg (by rw [h]; decide)]
    cases n with
    | symbol p t => exact bad rfl rfl
    | integer p t => exact bad rfl rfl
    | string p t => exact bad rfl rfl
    | list p items =>
      cases items with
      | nil => exact bad rfl rfl
      | cons m args =>
        cases m with
        | integer p t => exact bad rfl rfl
        | string p t => exact bad rfl rfl
        | list p t => exact bad rfl rfl
        | symbol q t =>
          have e0 : partOk (codesOf "term") (.list p (.symbol q t :: args)) = (decide (t = codesOf "term") && (!decide (codesOf "term" = codesOf "term") || headList args)) := rfl
          cases args with
          | nil => exact bad (by rw [e0]; simp [headList]) rfl
          | cons a r =>
            cases a with
            | symbol p1 t1 => exact bad (by rw [e0]; simp [headList, isListN]) rfl
            | integer p1 t1 => exact bad (by rw [e0]; simp [headList, isListN]) rfl
            | string p1 t1 => exact bad (by rw [e0]; simp [headList, isListN]) rfl
            | list p1 inl =>
              by_cases h : t = codesOf "term"
              · subst h
                have hargs := depth_args hd
                have ha := hargs _ (List.mem_cons_self)
                have hinl : ∀ x ∈ inl, DepOk j x := DepOk.items ha
                unfold rdPart
                rw [if_pos (by rw [e0]; simp [headList, isListN]), show PTt.lookup ⟨(codesOf "term").toArray⟩ = some [("inlines" : Str), "block*"] by decide +kernel]
                show (rdList (g + 1) (shOf ["inlines", "block*"]) (nd p q (codesOf "term") (.list p1 inl :: r))).bind _ = _
                rw [show shOf ["inlines", "block*"] = ([("inlines" : Str)], ("block" : Str), 1) by decide +kernel, rl1 (by decide +kernel), arg_inlines]
                have e1 : collect (rdInline (rdList g)) (itemsOf (.list p1 inl)) = (toInlines inl).map inlsA := by
                  have := inls_eq (j' := g) hinl (by omega) (by omega)
                  rw [← this]
                  exact collect_congr fun x _ => (arg_inline _ x).symm
                have e2 : collect (rdArgument (rdList g) "block") r = (collect (toBlockLoop f) r).map blksA := by
                  rw [show blksA = List.map blkA from funext blksA_map, collect_map]
                  exact collect_congr fun x hx => (arg_block _ x).trans (ih x (hargs x (List.mem_cons_of_mem _ hx)))
                rw [e1, e2]
                show _ = Except.map entryA (if (codesOf "term" == codesOf "term") = true then (toInlines inl).bind fun i => (collect (toBlockLoop f) r).map fun b => (i, b) else fail 8 p)
                rw [if_pos (by decide +kernel)]
                cases toInlines inl with
                | error e => rfl
                | ok c =>
                  show (((collect (toBlockLoop f) r).map blksA).map _).bind _ = ((collect (toBlockLoop f) r).map _).map _
                  cases collect (toBlockLoop f) r with
                  | error e => rfl
                  | ok b => simp only [Except.bind, Except.map]; rw [if_neg (fun w => absurd w.1 (by decide +kernel))]; rfl
              · refine bad (by rw [e0, decide_eq_false h]; rfl) ?_
                show Except.map entryA (if (t == codesOf "term") = true then (toInlines inl).bind fun i => (collect (toBlockLoop f) r).map fun b => (i, b) else fail 8 p) = _
                rw [if_neg (fun z => h (beq_iff_eq.mp z))]; rfl
/-- a row of a table -/
theorem row_eq {j j' m : Nat} {n : Kh450.Node} (hd : DepOk j n) (hj : j ≤ 16) (hj' : j ≤ j') : rdRow (rdList j') m n = (toRow m n).map rowA := by
  unfold rdRow toRow
  cases j with
  | zero =>
    rw [argsOf_leaf hd]
    cases n with
    | list p items => exact hd.elim
    | symbol p t => rfl
    | integer p t => rfl
    | string p t => rfl
  | succ j =>
    obtain ⟨g, rfl⟩ : ∃ g, j' = g + 1 := ⟨j' - 1, by omega⟩
    rw [argsOf_is]
    cases n with
    | symbol p t => rfl
    | integer p t => rfl
    | string p t => rfl
    | list p items =>
      cases items with
      | nil => rfl
      | cons a args =>
        cases a with
        | integer p t => rfl
        | string p t => rfl
        | list p t => rfl
        | symbol q t =>
          have e0 : partOk (codesOf "row") (.list p (.symbol q t :: args)) = (decide (t = codesOf "row") && (!decide (codesOf "row" = codesOf "term") || headList args)) := rfl
          have e1 : argsOf (.list p (.symbol q t :: args)) = args := rfl
          show _ = Except.map rowA ((if t = codesOf "row" then (.ok args : Checked (List Kh450.Node)) else .error (8, p)).bind fun cells => if cells.length ≠ m then fail 9 p else collect (fun cell => (argumentsOf "cell" cell).bind toInlines) cells)
          by_cases h : t = codesOf "row"
          · subst h
            rw [if_pos (by rw [e0, decide_eq_true rfl, decide_eq_false (by decide +kernel)]; rfl), if_pos rfl, e1]
            show _ = Except.map rowA (if args.length ≠ m then fail 9 p else collect (fun cell => (argumentsOf "cell" cell).bind toInlines) args)
            by_cases hm : args.length = m
            · rw [if_pos hm, if_neg (fun z => z hm), part_is _ (ws := ["cell*"]) (by decide +kernel) (by decide +kernel) (by decide +kernel)]
              show (if codesOf "row" = codesOf "row" then rdList (g + 1) (shOf ["cell*"]) (nd p q (codesOf "row") args) else (.error (8, p) : RA)) = _
              rw [if_pos rfl, show shOf ["cell*"] = ([], ("cell" : Str), 0) by decide +kernel, rl0 (by decide +kernel)]
              have hargs := depth_args hd
              have e2 : collect (rdArgument (rdList g) "cell") args = (collect (fun cell => (argumentsOf "cell" cell).bind toInlines) args).map (List.map fun c => .node (codesOf "cell") [] (inlsA c) "inline") := by
                rw [collect_map]
                refine collect_congr fun x hx => ?_
                rw [arg_part _ _ (by decide +kernel), show ("cell" : Str).cps.toList = codesOf "cell" by decide +kernel]
                exact inlPart_eq (ws := ["inline*"]) (hargs x hx) (by omega) (by omega) (by decide +kernel) (by decide +kernel) (by decide +kernel) (by decide +kernel)
              rw [e2]
              cases collect (fun cell => (argumentsOf "cell" cell).bind toInlines) args <;> rfl
            · rw [if_neg hm, if_pos hm]; rfl
          · rw [if_neg (by rw [e0, decide_eq_false h]; exact Bool.false_ne_true), if_neg h]; rfl
end Bt

namespace Bt
open PySem
open Kh450 (Inline Block codesOf encodeAll collect fail toInlineLoop toBlockLoop toInlines stringOf labelOf identifierOf argumentsOf alignmentOf toRow Checked)
/-! ### documents -/
theorem blk_loop (f p q : Nat) (name : List Nat) (arguments : List Kh450.Node) : toBlockLoop (f + 1) (nd p q name arguments) =
      if (name == codesOf "para") = true then (toInlines arguments).map .paragraph
      else if (name == codesOf "heading") = true then (match arguments with
        | .integer q level :: id :: rest => if level < 1 ∨ 6 < level then fail 9 q else (identifierOf id).bind fun i => (toInlines rest).map (.heading level i)
        | _ => fail 8 p)
      else if (name == codesOf "code") = true then (match arguments with
        | [language, t] => (identifierOf language).bind fun l => (stringOf t).map (.code l)
        | _ => fail 8 p)
      else if (name == codesOf "formula") = true then (match arguments with
        | [id, t] => (identifierOf id).bind fun i => (stringOf t).map (.formula i)
        | _ => fail 8 p)
      else if (name == codesOf "rule") = true then (if arguments.isEmpty = true then .ok .rule else fail 8 p)
      else if (name == codesOf "quote") = true then (collect (toBlockLoop f) arguments).map .quote
      else if (name == codesOf "bullets") = true then (if arguments.isEmpty = true then fail 8 p
        else (collect (fun item => (argumentsOf "item" item).bind fun blocks => collect (toBlockLoop f) blocks) arguments).map .bullets)
      else if (name == codesOf "numbers") = true then (match arguments with
        | .integer _ start :: item :: rest => (collect (fun item => (argumentsOf "item" item).bind fun blocks => collect (toBlockLoop f) blocks) (item :: rest)).map (.numbers start)
        | _ => fail 8 p)
      else if (name == codesOf "terms") = true then (if arguments.isEmpty = true then fail 8 p else (collect (toEntry f) arguments).map .terms)
      else if (name == codesOf "table") = true then (match arguments with
        | id :: caption :: align :: row :: rows => (identifierOf id).bind fun i => (argumentsOf "caption" caption).bind fun c => (toInlines c).bind fun inlines =>
          (argumentsOf "align" align).bind fun a => (collect alignmentOf a).bind fun columns =>
            if columns.isEmpty = true then fail 8 align.position else (collect (toRow columns.length) (row :: rows)).map (.table i inlines columns)
        | _ => fail 8 p)
      else if (name == codesOf "figure") = true then (match arguments with
        | id :: target :: rest => (identifierOf id).bind fun i => (stringOf target).bind fun t => (toInlines rest).map (.figure i t)
        | _ => fail 8 p)
      else if (name == codesOf "group") = true then (match arguments with
        | classes :: rest => (argumentsOf "class" classes).bind fun names => (collect labelOf names).bind fun c => (collect (toBlockLoop f) rest).map (.group c)
        | [] => fail 8 p)
      else if (name == codesOf "note") = true then (match arguments with
        | label :: rest => (labelOf label).bind fun l => (collect (toBlockLoop f) rest).map (.note l)
        | [] => fail 8 p)
      else fail 7 p := rfl
/-- the alignments of a table -/
theorem align_eq {j j' : Nat} {n : Kh450.Node} (hd : DepOk j n) (hj' : j ≤ j') : rdArgument (rdList j') "align" n = ((argumentsOf "align" n).bind fun a => (collect alignmentOf a).bind fun columns => if columns.isEmpty = true then fail 8 n.position else .ok columns).map
    fun als => .node (codesOf "align") [] (als.map fun a => .sym (Kh450.nameIn Kh450.alignments a)) "alignment" := by
  rw [arg_part _ _ (by decide +kernel), show ("align" : Str).cps.toList = codesOf "align" by decide +kernel]
  cases j with
  | zero => rw [part_leaf _ hd, argsOf_leaf hd]; rfl
  | succ j =>
    obtain ⟨g, rfl⟩ : ∃ g, j' = g + 1 := ⟨j' - 1, by omega⟩
    rw [argsOf_is]
    have bad : partOk (codesOf "align") n = false → rdPart (rdList (g + 1)) (codesOf "align") n = .error (8, n.position) := fun h => by
      unfold rdPart; rw [if_neg (by rw [h]; decide)]
    cases n with
    | symbol p t => exact bad rfl
    | integer p t => exact bad rfl
    | string p t => exact bad rfl
    | list p items =>
      cases items with
      | nil => exact bad rfl
      | cons a args =>
        cases a with
        | integer p t => exact bad rfl
        | string p t => exact bad rfl
        | list p t => exact bad rfl
        | symbol q t =>
          have e0 : partOk (codesOf "align") (.list p (.symbol q t :: args)) = (decide (t = codesOf "align") && (!decide (codesOf "align" = codesOf "term") || headList args)) := rfl
          show _ = Except.map _ ((if t = codesOf "align" then (.ok args : Checked (List Kh450.Node)) else .error (8, p)).bind _)
          by_cases h : t = codesOf "align"
          · subst h
            unfold rdPart
            rw [if_pos (by rw [e0, decide_eq_true rfl, decide_eq_false (by decide +kernel)]; rfl), if_pos rfl, show PTt.lookup ⟨(codesOf "align").toArray⟩ = some [("alignment*" : Str)] by decide +kernel]
            show (rdList (g + 1) (shOf ["alignment*"]) (nd p q (codesOf "align") args)).bind _ = Except.map _ ((collect alignmentOf args).bind _)
            rw [show shOf ["alignment*"] = ([], ("alignment" : Str), 0) by decide +kernel, rl0 (by decide +kernel)]
            have e2 : collect (rdArgument (rdList g) "alignment") args = (collect alignmentOf args).map (List.map fun a => .sym (Kh450.nameIn Kh450.alignments a)) := by
              rw [collect_map]
              exact collect_congr fun x _ => arg_alignment _ x
            rw [e2]
            cases collect alignmentOf args with
            | error e => rfl
            | ok als =>
              cases als with
              | nil => simp only [Except.bind, Except.map]; rw [if_pos ⟨trivial, rfl⟩]; rfl
              | cons a r => simp only [Except.bind, Except.map]; rw [if_neg (fun w => by cases w.2)]; rfl
          · rw [bad (by rw [e0, decide_eq_false h]; rfl), if_neg h]; rfl
/-- a table -/
theorem tab_eq {j p q : Nat} {name : List Nat} {args : List Kh450.Node} : rdShaped (rdList (j + 1)) (some ["identifier", "caption", "align", "row+"]) (nd p q name args) = match args with
    | id :: cap :: al :: row :: rows => (rdArgument (rdList j) "identifier" id).bind fun i => (rdArgument (rdList j) "caption" cap).bind fun c => (rdArgument (rdList j) "align" al).bind fun a =>
        (collect (rdRow (rdList j) (childrenOf a).length) (row :: rows)).map fun rs => .node name [i, c, a] rs "row"
    | _ => .error (8, p) := by
  have hs : shOf ["identifier", "caption", "align", "row+"] = ([("identifier" : Str), "caption", "align"], ("row" : Str), 4) := by decide +kernel
  rw [rs_eq, hs]
  have few : ∀ l : List Kh450.Node, l.length < 4 → shFits ([("identifier" : Str), "caption", "align"], ("row" : Str), 4) l.length = false := fun l h => by
    rw [Bool.eq_false_iff]; intro z; rw [fits_iff] at z; omega
  match args with
  | [] => rw [if_pos (few _ (by simp))]
  | [a] => rw [if_pos (few _ (by simp))]
  | [a, b] => rw [if_pos (few _ (by simp))]
  | [a, b, c] => rw [if_pos (few _ (by simp))]
  | id :: cap :: al :: row :: rows =>
    rw [if_neg, if_neg (fun z => absurd z.1 (by decide +kernel)), rl_eq]
    · show ((rdArgument (rdList j) "identifier" id).bind fun y => ((rdArgument (rdList j) "caption" cap).bind fun z => ((rdArgument (rdList j) "align" al).bind fun w => (Except.ok []).map fun ys => w :: ys).map fun ys => z :: ys).map fun ys => y :: ys).bind _ = (rdArgument (rdList j) "identifier" id).bind _
      cases rdArgument (rdList j) "identifier" id with
      | error e => rfl
      | ok i =>
        show ((((rdArgument (rdList j) "caption" cap).bind fun z => ((rdArgument (rdList j) "align" al).bind fun w => (Except.ok []).map fun ys => w :: ys).map fun ys => z :: ys).map fun ys => i :: ys).bind _) = (rdArgument (rdList j) "caption" cap).bind _
        cases rdArgument (rdList j) "caption" cap with
        | error e => rfl
        | ok c =>
          show ((((rdArgument (rdList j) "align" al).bind fun w => (Except.ok []).map fun ys => w :: ys).map fun ys => c :: ys).map fun ys => i :: ys).bind _ = (rdArgument (rdList j) "align" al).bind _
          cases rdArgument (rdList j) "align" al with
          | error e => rfl
          | ok a => rfl
    · rw [Bool.not_eq_false, fits_iff]
      rcases Nat.eq_zero_or_pos rows.length with h | h
      · exact .inl (by simp [h])
      · exact .inr ⟨by simp only [List.length_cons]; omega, by decide +kernel⟩
theorem blk_eq : ∀ (j : Nat) (n : Kh450.Node) (f j' : Nat), DepOk j n → j ≤ 16 → j ≤ f → j ≤ j' → rdBlock (rdList j') n = (toBlockLoop f n).map blkA := by
  have h0 : BLt.lookup ⟨([] : List Nat).toArray⟩ = none := by decide +kernel
  have bad : ∀ (n : Kh450.Node) (f j' : Nat), symName n = [] → (toBlockLoop f n).map blkA = .error (7, n.position) → rdBlock (rdList j') n = (toBlockLoop f n).map blkA := fun n f j' e1 e3 => by
    rw [e3]
    show rdShaped (rdList j') (BLt.lookup ⟨(symName n).toArray⟩) n = _
    rw [e1, h0]; rfl
  intro j
  induction j using Nat.strongRecOn with
  | ind j IH0 =>
  cases j with
  | zero =>
    intro n f j' hd h16 hf hj
    cases n with
    | list p items => exact hd.elim
    | string p t => cases f <;> exact bad _ _ _ rfl rfl
    | symbol p t => cases f <;> exact bad _ _ _ rfl rfl
    | integer p t => cases f <;> exact bad _ _ _ rfl rfl
  | succ j =>
    have IH := IH0 j (Nat.lt_succ_self j)
    intro n f j' hd h16 hf hj
    obtain ⟨f, rfl⟩ : ∃ g, f = g + 1 := ⟨f - 1, by omega⟩
    obtain ⟨j', rfl⟩ : ∃ g, j' = g + 1 := ⟨j' - 1, by omega⟩
    cases n with
    | string p t => exact bad _ _ _ rfl rfl
    | symbol p t => exact bad _ _ _ rfl rfl
    | integer p t => exact bad _ _ _ rfl rfl
    | list p items =>
      cases items with
      | nil => exact bad _ _ _ rfl rfl
      | cons m args =>
        cases m with
        | string p t => exact bad _ _ _ rfl rfl
        | integer p t => exact bad _ _ _ rfl rfl
        | list p t => exact bad _ _ _ rfl rfl
        | symbol q name =>
          have hargs := depth_args hd
          have ihb : ∀ r : List Kh450.Node, (∀ x ∈ r, x ∈ args) → collect (rdArgument (rdList j') "block") r = (collect (toBlockLoop f) r).map blksA := fun r hr => by
            rw [show blksA = List.map blkA from funext blksA_map, collect_map]
            exact collect_congr fun x hx => (arg_block _ x).trans (IH x f j' (hargs x (hr x hx)) (by omega) (by omega) (by omega))
          have ihi : ∀ r : List Kh450.Node, (∀ x ∈ r, x ∈ args) → collect (rdArgument (rdList j') "inline") r = (toInlines r).map inlsA := fun r hr => inls_eq (fun x hx => hargs x (hr x hx)) (by omega) (by omega)
          have down : ∀ x, DepOk (j - 1) x → rdBlock (rdList (j' - 1)) x = (toBlockLoop f x).map blkA := fun x hx => IH0 (j - 1) (by omega) x f (j' - 1) hx (by omega) (by omega) (by omega)
          have ihit : ∀ r : List Kh450.Node, (∀ x ∈ r, x ∈ args) → collect (rdArgument (rdList j') "item") r = (collect (fun item => (argumentsOf "item" item).bind fun blocks => collect (toBlockLoop f) blocks) r).map itemsA := fun r hr => by
            rw [show itemsA = List.map itemA from funext itemsA_map, collect_map]
            exact collect_congr fun x hx => item_eq (hargs x (hr x hx)) (by omega) down
          have ihen : ∀ r : List Kh450.Node, (∀ x ∈ r, x ∈ args) → collect (rdArgument (rdList j') "term") r = (collect (toEntry f) r).map entriesA := fun r hr => by
            rw [show entriesA = List.map entryA from funext entriesA_map, collect_map]
            exact collect_congr fun x hx => entry_eq (hargs x (hr x hx)) (by omega) (by omega) down
          show rdShaped (rdList (j' + 1)) (BLt.lookup ⟨name.toArray⟩) (nd p q name args) = (toBlockLoop (f + 1) (nd p q name args)).map blkA
          cases hl : BLt.lookup ⟨name.toArray⟩ with
          | none =>
            have nb : ∀ s : String, BLt.lookup ⟨(codesOf s).toArray⟩ ≠ none → ¬ (name == codesOf s) = true := fun s h e => by rw [beq_iff_eq.mp e] at hl; exact h hl
            rw [blk_loop, if_neg (nb "para" (by decide +kernel)), if_neg (nb "heading" (by decide +kernel)), if_neg (nb "code" (by decide +kernel)), if_neg (nb "formula" (by decide +kernel)), if_neg (nb "rule" (by decide +kernel)), if_neg (nb "quote" (by decide +kernel)), if_neg (nb "bullets" (by decide +kernel)), if_neg (nb "numbers" (by decide +kernel)), if_neg (nb "terms" (by decide +kernel)), if_neg (nb "table" (by decide +kernel)), if_neg (nb "figure" (by decide +kernel)), if_neg (nb "group" (by decide +kernel)), if_neg (nb "note" (by decide +kernel))]
            rfl
          | some ws =>
            have hm := lookup_key hl
            simp only [BLt, List.mem_cons, List.not_mem_nil, or_false, Prod.mk.injEq] at hm
            rcases hm with ⟨h, rfl⟩ | ⟨h, rfl⟩ | ⟨h, rfl⟩ | ⟨h, rfl⟩ | ⟨h, rfl⟩ | ⟨h, rfl⟩ | ⟨h, rfl⟩ | ⟨h, rfl⟩ | ⟨h, rfl⟩ | ⟨h, rfl⟩ | ⟨h, rfl⟩ | ⟨h, rfl⟩ | ⟨h, rfl⟩
            · -- para
              have e := key_is (by decide +kernel) h; subst e
              rw [s1 (fo := "inline") (by decide +kernel) (by decide +kernel) (by decide +kernel), ihi args fun _ h => h, blk_loop, if_pos (by decide +kernel)]
              cases toInlines args <;> rfl
            · -- heading
              have e := key_is (by decide +kernel) h; subst e
              rw [s5 (k1 := "level") (k2 := "identifier") (fo := "inline") (by decide +kernel) (by decide +kernel) (by decide +kernel), blk_loop, if_neg (by decide +kernel), if_pos (by decide +kernel)]
              match args, ihi with
              | [], _ => rfl
              | [.symbol _ _], _ => rfl
              | [.integer _ _], _ => rfl
              | [.string _ _], _ => rfl
              | [.list _ _], _ => rfl
              | .symbol _ _ :: b :: r, _ => exact if_pos ⟨by decide +kernel, rfl⟩
              | .string _ _ :: b :: r, _ => exact if_pos ⟨by decide +kernel, rfl⟩
              | .list _ _ :: b :: r, _ => exact if_pos ⟨by decide +kernel, rfl⟩
              | .integer p1 l :: b :: r, ihi =>
                refine (if_neg (fun z => by cases z.2)).trans ?_
                rw [arg_level]
                show _ = Except.map blkA (if l < 1 ∨ 6 < l then fail 9 p1 else (identifierOf b).bind fun i => (toInlines r).map (.heading l i))
                show (if l < 1 ∨ 6 < l then (.error (9, p1) : RA) else .ok (.int l)).bind _ = _
                by_cases hc : l < 1 ∨ 6 < l
                · rw [if_pos hc, if_pos hc]; rfl
                · rw [if_neg hc, if_neg hc]
                  show (rdArgument (rdList j') "identifier" b).bind _ = ((identifierOf b).bind _).map _
                  rw [arg_identifier, ihi r fun x hx => List.mem_cons_of_mem _ (List.mem_cons_of_mem _ hx)]
                  cases identifierOf b with
                  | error e => rfl
                  | ok i => show ((toInlines r).map _).map _ = ((toInlines r).map _).map _; cases toInlines r <;> rfl
            · -- code
              have e := key_is (by decide +kernel) h; subst e
              rw [s4 (k1 := "identifier") (k2 := "text") (by decide +kernel) (by decide +kernel), blk_loop, if_neg (by decide +kernel), if_neg (by decide +kernel), if_pos (by decide +kernel)]
              match args with
              | [] => rfl
              | [a] => rfl
              | [a, b] =>
                show (rdArgument (rdList j') "identifier" a).bind _ = ((identifierOf a).bind _).map _
                rw [arg_identifier]
                cases identifierOf a with
                | error e => rfl
                | ok i => show (rdArgument (rdList j') "text" b).map _ = ((stringOf b).map _).map _; rw [arg_text]; cases stringOf b <;> rfl
              | a :: b :: c :: r => rfl
            · -- formula
              have e := key_is (by decide +kernel) h; subst e
              rw [s4 (k1 := "identifier") (k2 := "text") (by decide +kernel) (by decide +kernel), blk_loop, if_neg (by decide +kernel), if_neg (by decide +kernel), if_neg (by decide +kernel), if_pos (by decide +kernel)]
              match args with
              | [] => rfl
              | [a] => rfl
              | [a, b] =>
                show (rdArgument (rdList j') "identifier" a).bind _ = ((identifierOf a).bind _).map _
                rw [arg_identifier]
                cases identifierOf a with
                | error e => rfl
                | ok i => show (rdArgument (rdList j') "text" b).map _ = ((stringOf b).map _).map _; rw [arg_text]; cases stringOf b <;> rfl
              | a :: b :: c :: r => rfl
            · -- rule
              have e := key_is (by decide +kernel) h; subst e
              rw [s0 (by decide +kernel), blk_loop, if_neg (by decide +kernel : ¬ (codesOf "rule" == codesOf "para") = true), if_neg (by decide +kernel : ¬ (codesOf "rule" == codesOf "heading") = true), if_neg (by decide +kernel : ¬ (codesOf "rule" == codesOf "code") = true), if_neg (by decide +kernel : ¬ (codesOf "rule" == codesOf "formula") = true), if_pos (by decide +kernel : (codesOf "rule" == codesOf "rule") = true)]
              by_cases z : args.isEmpty = true
              · rw [if_pos z, if_pos z]; rfl
              · rw [if_neg z, if_neg z]; rfl
            · -- quote
              have e := key_is (by decide +kernel) h; subst e
              rw [s1 (fo := "block") (by decide +kernel) (by decide +kernel) (by decide +kernel), ihb args fun _ h => h, blk_loop, if_neg (by decide +kernel), if_neg (by decide +kernel), if_neg (by decide +kernel), if_neg (by decide +kernel), if_neg (by decide +kernel), if_pos (by decide +kernel)]
              cases collect (toBlockLoop f) args <;> rfl
            · -- bullets
              have e := key_is (by decide +kernel) h; subst e
              rw [s1p (fo := "item") (by decide +kernel) (by decide +kernel) (by decide +kernel), ihit args fun _ h => h, blk_loop, if_neg (by decide +kernel : ¬ (codesOf "bullets" == codesOf "para") = true), if_neg (by decide +kernel : ¬ (codesOf "bullets" == codesOf "heading") = true), if_neg (by decide +kernel : ¬ (codesOf "bullets" == codesOf "code") = true), if_neg (by decide +kernel : ¬ (codesOf "bullets" == codesOf "formula") = true), if_neg (by decide +kernel : ¬ (codesOf "bullets" == codesOf "rule") = true), if_neg (by decide +kernel : ¬ (codesOf "bullets" == codesOf "quote") = true), if_pos (by decide +kernel : (codesOf "bullets" == codesOf "bullets") = true)]
              by_cases z : args.isEmpty = true
              · rw [if_pos z, if_pos z]; rfl
              · rw [if_neg z, if_neg z]
                generalize collect (fun item => (argumentsOf "item" item).bind fun blocks => collect (toBlockLoop f) blocks) args = c
                cases c <;> rfl
            · -- numbers
              have e := key_is (by decide +kernel) h; subst e
              rw [s6 (k1 := "number") (fo := "item") (by decide +kernel) (by decide +kernel) (by decide +kernel) (by decide +kernel), blk_loop, if_neg (by decide +kernel), if_neg (by decide +kernel), if_neg (by decide +kernel), if_neg (by decide +kernel), if_neg (by decide +kernel : ¬ (codesOf "numbers" == codesOf "rule") = true), if_neg (by decide +kernel), if_neg (by decide +kernel : ¬ (codesOf "numbers" == codesOf "bullets") = true), if_pos (by decide +kernel)]
              match args, ihit with
              | [], _ => rfl
              | [.symbol _ _], _ => rfl
              | [.integer _ _], _ => rfl
              | [.string _ _], _ => rfl
              | [.list _ _], _ => rfl
              | .symbol _ _ :: b :: r, _ => rfl
              | .string _ _ :: b :: r, _ => rfl
              | .list _ _ :: b :: r, _ => rfl
              | .integer p1 l :: b :: r, ihit =>
                refine (if_neg (fun z => by cases z)).trans ?_
                show (rdArgument (rdList j') "number" (.integer p1 l)).bind _ = Except.map blkA ((collect (fun item => (argumentsOf "item" item).bind fun blocks => collect (toBlockLoop f) blocks) (b :: r)).map _)
                rw [arg_start, ihit (b :: r) fun x hx => List.mem_cons_of_mem _ hx]
                generalize collect (fun item => (argumentsOf "item" item).bind fun blocks => collect (toBlockLoop f) blocks) (b :: r) = c
                cases c <;> rfl
            · -- terms
              have e := key_is (by decide +kernel) h; subst e
              rw [s1p (fo := "term") (by decide +kernel) (by decide +kernel) (by decide +kernel), ihen args fun _ h => h, blk_loop, if_neg (by decide +kernel : ¬ (codesOf "terms" == codesOf "para") = true), if_neg (by decide +kernel : ¬ (codesOf "terms" == codesOf "heading") = true), if_neg (by decide +kernel : ¬ (codesOf "terms" == codesOf "code") = true), if_neg (by decide +kernel : ¬ (codesOf "terms" == codesOf "formula") = true), if_neg (by decide +kernel : ¬ (codesOf "terms" == codesOf "rule") = true), if_neg (by decide +kernel : ¬ (codesOf "terms" == codesOf "quote") = true), if_neg (by decide +kernel : ¬ (codesOf "terms" == codesOf "bullets") = true), if_neg (by decide +kernel : ¬ (codesOf "terms" == codesOf "numbers") = true), if_pos (by decide +kernel : (codesOf "terms" == codesOf "terms") = true)]
              by_cases z : args.isEmpty = true
              · rw [if_pos z, if_pos z]; rfl
              · rw [if_neg z, if_neg z]
                cases collect (toEntry f) args <;> rfl
            · -- table
              have e := key_is (by decide +kernel) h; subst e
              rw [tab_eq, blk_loop, if_neg (by decide +kernel), if_neg (by decide +kernel), if_neg (by decide +kernel), if_neg (by decide +kernel), if_neg (by decide +kernel : ¬ (codesOf "table" == codesOf "rule") = true), if_neg (by decide +kernel), if_neg (by decide +kernel : ¬ (codesOf "table" == codesOf "bullets") = true), if_neg (by decide +kernel), if_neg (by decide +kernel : ¬ (codesOf "table" == codesOf "terms") = true), if_pos (by decide +kernel)]
              match args, hargs with
              | [], _ => rfl
              | [a], _ => rfl
              | [a, b], _ => rfl
              | [a, b, c], _ => rfl
              | id :: cap :: al :: row :: rows, hargs =>
                show (rdArgument (rdList j') "identifier" id).bind _ = ((identifierOf id).bind _).map _
                rw [arg_identifier]
                cases identifierOf id with
                | error e => rfl
                | ok i =>
                  show (rdArgument (rdList j') "caption" cap).bind _ = ((argumentsOf "caption" cap).bind _).map _
                  rw [arg_part _ _ (by decide +kernel), show ("caption" : Str).cps.toList = codesOf "caption" by decide +kernel, inlPart_eq (ws := ["inline*"]) (hargs cap (by simp)) (by omega) (by omega) (by decide +kernel) (by decide +kernel) (by decide +kernel) (by decide +kernel)]
                  cases argumentsOf "caption" cap with
                  | error e => rfl
                  | ok cs =>
                    show ((toInlines cs).map _).bind _ = ((toInlines cs).bind _).map _
                    cases toInlines cs with
                    | error e => rfl
                    | ok c =>
                      show (rdArgument (rdList j') "align" al).bind _ = ((argumentsOf "align" al).bind _).map _
                      rw [align_eq (hargs al (by simp)) (by omega)]
                      cases argumentsOf "align" al with
                      | error e => rfl
                      | ok as =>
                        show (((collect alignmentOf as).bind _).map _).bind _ = ((collect alignmentOf as).bind _).map _
                        cases collect alignmentOf as with
                        | error e => rfl
                        | ok als =>
                          show ((if als.isEmpty = true then (fail 8 al.position : Checked _) else .ok als).map _).bind _ = Except.map blkA (if als.isEmpty = true then fail 8 al.position else _)
                          by_cases z : als.isEmpty = true
                          · rw [if_pos z, if_pos z]; rfl
                          · rw [if_neg z, if_neg z]
                            show (collect (rdRow (rdList j') (als.map fun a => Arg.sym (Kh450.nameIn Kh450.alignments a)).length) (row :: rows)).map _ = ((collect (toRow als.length) (row :: rows)).map _).map _
                            rw [List.length_map]
                            have e2 : collect (rdRow (rdList j') als.length) (row :: rows) = (collect (toRow als.length) (row :: rows)).map (List.map rowA) := by
                              rw [collect_map]
                              exact collect_congr fun x hx => row_eq (hargs x (List.mem_cons_of_mem _ (List.mem_cons_of_mem _ (List.mem_cons_of_mem _ hx)))) (by omega) (by omega)
                            rw [e2]
                            cases collect (toRow als.length) (row :: rows) <;> rfl
            · -- figure
              have e := key_is (by decide +kernel) h; subst e
              rw [s5 (k1 := "identifier") (k2 := "text") (fo := "inline") (by decide +kernel) (by decide +kernel) (by decide +kernel), blk_loop, if_neg (by decide +kernel), if_neg (by decide +kernel), if_neg (by decide +kernel), if_neg (by decide +kernel), if_neg (by decide +kernel : ¬ (codesOf "figure" == codesOf "rule") = true), if_neg (by decide +kernel), if_neg (by decide +kernel : ¬ (codesOf "figure" == codesOf "bullets") = true), if_neg (by decide +kernel), if_neg (by decide +kernel : ¬ (codesOf "figure" == codesOf "terms") = true), if_neg (by decide +kernel), if_pos (by decide +kernel)]
              match args, ihi with
              | [], _ => rfl
              | [a], _ => rfl
              | a :: b :: r, ihi =>
                refine (if_neg (fun z => absurd z.1 (by decide +kernel))).trans ?_
                rw [arg_identifier]
                show _ = ((identifierOf a).bind _).map _
                cases identifierOf a with
                | error e => rfl
                | ok i =>
                  show (rdArgument (rdList j') "text" b).bind _ = ((stringOf b).bind _).map _
                  rw [arg_text, ihi r fun x hx => List.mem_cons_of_mem _ (List.mem_cons_of_mem _ hx)]
                  cases stringOf b with
                  | error e => rfl
                  | ok t => show ((toInlines r).map _).map _ = ((toInlines r).map _).map _; cases toInlines r <;> rfl
            · -- group
              have e := key_is (by decide +kernel) h; subst e
              rw [s3 (k1 := "class") (fo := "block") (by decide +kernel) (by decide +kernel) (by decide +kernel) (by decide +kernel), blk_loop, if_neg (by decide +kernel), if_neg (by decide +kernel), if_neg (by decide +kernel), if_neg (by decide +kernel), if_neg (by decide +kernel : ¬ (codesOf "group" == codesOf "rule") = true), if_neg (by decide +kernel), if_neg (by decide +kernel : ¬ (codesOf "group" == codesOf "bullets") = true), if_neg (by decide +kernel), if_neg (by decide +kernel : ¬ (codesOf "group" == codesOf "terms") = true), if_neg (by decide +kernel), if_neg (by decide +kernel), if_pos (by decide +kernel)]
              match args, ihb, hargs with
              | [], _, _ => rfl
              | t :: r, ihb, hargs =>
                show (rdArgument (rdList j') "class" t).bind _ = ((argumentsOf "class" t).bind _).map _
                rw [class_dep t (hargs t (by simp)) (by omega), ihb r fun x hx => List.mem_cons_of_mem _ hx]
                cases argumentsOf "class" t with
                | error e => rfl
                | ok names =>
                  show ((collect labelOf names).map clsA).bind _ = ((collect labelOf names).bind _).map _
                  cases collect labelOf names with
                  | error e => rfl
                  | ok c => show ((collect (toBlockLoop f) r).map _).map _ = ((collect (toBlockLoop f) r).map _).map _; cases collect (toBlockLoop f) r <;> rfl
            · -- note
              have e := key_is (by decide +kernel) h; subst e
              rw [s3 (k1 := "label") (fo := "block") (by decide +kernel) (by decide +kernel) (by decide +kernel) (by decide +kernel), blk_loop, if_neg (by decide +kernel), if_neg (by decide +kernel), if_neg (by decide +kernel), if_neg (by decide +kernel), if_neg (by decide +kernel : ¬ (codesOf "note" == codesOf "rule") = true), if_neg (by decide +kernel), if_neg (by decide +kernel : ¬ (codesOf "note" == codesOf "bullets") = true), if_neg (by decide +kernel), if_neg (by decide +kernel : ¬ (codesOf "note" == codesOf "terms") = true), if_neg (by decide +kernel), if_neg (by decide +kernel), if_neg (by decide +kernel), if_pos (by decide +kernel)]
              match args, ihb with
              | [], _ => rfl
              | t :: r, ihb =>
                show (rdArgument (rdList j') "label" t).bind _ = ((labelOf t).bind _).map _
                rw [arg_label, ihb r fun x hx => List.mem_cons_of_mem _ hx]
                cases labelOf t with
                | error e => rfl
                | ok c => show ((collect (toBlockLoop f) r).map _).map _ = ((collect (toBlockLoop f) r).map _).map _; cases collect (toBlockLoop f) r <;> rfl
/-- the mirror is the specification -/
theorem doc_eq {d : List Nat} (hl : d.length ≤ 1000000) : rdDoc d = docA d := by
  unfold rdDoc docA Kh450.parse
  cases h : Kh450.readAll d with
  | error k rest => rfl
  | ok ns rest =>
    have hd := readAll_dep hl h
    show collect (rdBlock (rdList 16)) ns = (collect (toBlockLoop 16) ns).map blksA
    rw [show blksA = List.map blkA from funext blksA_map, collect_map]
    exact collect_congr fun x hx => blk_eq 16 x 16 16 (hd x hx) (Nat.le_refl _) (Nat.le_refl _) (Nat.le_refl _)
end Bt

namespace Bt
open PySem
open Kh450 (Block readAllLoop codesOf)
/-! ### documents read, as blocks -/
theorem all_len (total : Nat) : ∀ (fuel : Nat) (l : List Nat) (ns : List Kh450.Node) (r : List Nat), readAllLoop total fuel l = .ok ns r → ns.length ≤ fuel
  | 0, l, ns, r, h => by cases h
  | fuel + 1, l, ns, r, h => by
    unfold readAllLoop at h
    split at h
    · cases h; exact Nat.zero_le _
    · obtain ⟨n, s, h1, h2⟩ := bind_ok h
      obtain ⟨ns', s', h3, h4⟩ := bind_ok h2
      cases h4
      have ih := all_len total fuel s ns' _ h3
      rw [List.length_cons]; omega
theorem rdDoc_len {d : List Nat} {ns : List Arg} (h : rdDoc d = .ok ns) : ns.length ≤ d.length + 1 := by
  unfold rdDoc at h
  cases hr : Kh450.readAll d with
  | error k rest => rw [hr] at h; cases h
  | ok ms rest =>
    rw [hr] at h
    rw [collect_len _ h]
    exact all_len _ _ _ _ _ hr
theorem rdDoc_blks {d : List Nat} {ns : List Arg} (hl : d.length ≤ 1000000) (h : rdDoc d = .ok ns) : ∃ b, Kh450.parse d = .ok b ∧ ns = b.map blkA := by
  rw [doc_eq hl] at h
  unfold docA at h
  cases hp : Kh450.parse d with
  | error y => rw [hp] at h; cases h
  | ok b => rw [hp] at h; cases h; exact ⟨b, rfl, blksA_map b⟩
end Bt

namespace Bt
open PySem PySem.Spec PyProof.Rows L2
local macro_rules | `(tactic| walk_at "sx") => `(tactic| simp only [cxK, tTru, rLen, rListOf, rTupOf, tRet, tRetN, tChain, tRng, tCB, tCons, tNil, tC, tVar, tOp, tUn, tTest, tB, tAnd, tOr, tNot, tIfS, tSeq, tIf, tOrV, tAndV, tNotV, tCall, tSl, tPart, tNoPart, tLst, tTup, tBM, tBM0, rExtendS, iList, iTup, iSeqV, rIxL, rIxT, rSlL, rAppend, rExtend, rCat, rI0, rI, rIxS, rEq, rNe, rU, tAsg, gName, tDrop, tNext, scal, L2.start, List.map_cons, List.map_nil, List.length_cons, List.length_nil, Nat.reduceAdd, Nat.reduceSub, List.replicate_succ, List.replicate_zero, List.append_nil, List.cons_append, List.nil_append, List.getElem?_cons_zero, List.getElem?_cons_succ, Option.some.injEq, exists_eq_left', exists_eq_left, V.int.injEq, V.bl.injEq, V.str.injEq, V.ref.injEq, List.cons.injEq, and_true, true_and, exists_and_left, List.set_cons_zero, List.set_cons_succ, spN1_run, tFC, sFC, sFCAug, tMeth, tMake, sRaise, tErF, rAdd, rPop, tM1, tCallL, Option.some.injEq, HO.ins.injEq])
local macro_rules | `(tactic| walk_at "sm") => `(tactic| (repeat (first | exact Same.refl _ | assumption | (refine Same.trans ?_ (same_new (by assumption))) | (refine Same.trans ?_ (by assumption)))))
section
variable {P : Program} {w : World} {K : PySem.W.Frag} {mg : Str → Option Value} {base : Heap}
/-! ### the canonical notation -/
def shHex (n : Nat) : List Nat := if n < 16 then [if n < 10 then 48 + n else 87 + n] else [if n / 16 < 10 then 48 + n / 16 else 87 + n / 16, if n % 16 < 10 then 48 + n % 16 else 87 + n % 16]
theorem hexAt : ∀ k : Nat, k < 16 → atI (Str.ofString "0123456789abcdef").cps.toList (k : Int) = some (if k < 10 then 48 + k else 87 + k) := by decide +kernel
theorem hexLen (n : Nat) : (⟨(shHex n).toArray⟩ : Str).length ≤ 2 := by
  show (shHex n).toArray.size ≤ 2
  rw [List.size_toArray]
  unfold shHex
  split <;> simp
abbrev s_short_hex : Stmt := top 75
theorem sc_short_hex : FnScope ["number"] ["number"] (defScope s_short_hex) := ⟨rfl, rfl, rfl, by decide +kernel, rfl, by decide +kernel, by decide +kernel⟩
theorem ok_short_hex (D : Dn K mg "short_hex" s_short_hex ["number"]) (c_HEX_DIGITS : IsC mg "HEX_DIGITS" (.str "0123456789abcdef")) :
    OwnOk P w K mg base CX0 1 "short_hex" ["number"] (fun vs H Q _ => ∃ n : Nat, vs = [.int (n : Int)] ∧ n < 256 ∧ ∀ H', Same H H' → Q (.str ⟨(shHex n).toArray⟩) H') := by
  refine own_ok D sc_short_hex (fun _ _ _ _ h => by obtain ⟨_, rfl, _⟩ := h; rfl) (fun f cdv A outer s H vs Q E hr h => ⟨_, (pss_cons (ps_if (pt_cmpR op_lt (pv 0) pe_int (nomark _)) (pss_one (ps_ret (pe_ix ix_str (pe_cst (by rfl) c_HEX_DIGITS) (pv 0) (fun _ _ => rfl)))) pss_nil)
    (pss_one (ps_ret (pe_op op_add_str (pe_ix ix_str (pe_cst (by rfl) c_HEX_DIGITS) (pe_op op_fdiv (pv 0) pe_int) (fun _ _ => rfl)) (pe_ix ix_str (pe_cst (by rfl) c_HEX_DIGITS) (pe_op op_mod (pv 0) pe_int) (fun _ _ => rfl)))))), ?_⟩)
  obtain ⟨n, rfl, hn, q⟩ := h
  walk_at "sx"
  have q := q H (Same.refl H)
  unfold shHex at q
  have hl : (Str.ofString "0123456789abcdef").length ≤ sizeLine := le_line (by decide +kernel)
  by_cases h : n < 16
  · rw [if_pos h] at q
    refine ite2 (fun _ => ⟨hl, _, hexAt n h, q⟩) (fun z => absurd (decide_eq_true (by omega)) z)
  · rw [if_neg h] at q
    refine ite2 (fun z => by rw [decide_eq_true_eq] at z; omega) (fun _ => ?_)
    rw [show ((n : Int) / 16) = ((n / 16 : Nat) : Int) by omega, show ((n : Int) % 16) = ((n % 16 : Nat) : Int) by omega]
    exact ⟨⟨by decide, by decide⟩, hl, _, hexAt _ (by omega), by decide, hl, _, hexAt _ (by omega), le_line (by show 1 + 1 ≤ _; decide), q⟩
def wrByte (b : Nat) : List Nat := if b = 34 ∨ b = 92 then [92, b] else if b = 10 then [92, 110] else if b = 9 then [92, 116] else if b < 32 then [92, 117, 123] ++ shHex b ++ [125] else [b]
def spWrByte : Sp := fun vs H Q _ => ∃ (G : Hp) (n : Nat), vs = [.int (n : Int)] ∧ Same G H ∧ ∀ v G' H', Ext G H G' H' → Ls (wrByte n) v G' → Q v H'
abbrev s_write_byte : Stmt := top 74
theorem sc_write_byte : FnScope ["byte"] ["byte"] (defScope s_write_byte) := ⟨rfl, rfl, rfl, by decide +kernel, rfl, by decide +kernel, by decide +kernel⟩
theorem ok_write_byte (D : Dn K mg "write_byte" s_write_byte ["byte"]) (n_ord : mg "ord" = none) (c_LINE_FEED : IsC mg "LINE_FEED" (.int 10)) (c_TAB : IsC mg "TAB" (.int 9)) (c_SPACE : IsC mg "SPACE" (.int 32))
    (o_ascii_bytes : OwnOk P w K mg base CX0 1 "ascii_bytes" ["text"] spAscii) (o_short_hex : OwnOk P w K mg base CX0 1 "short_hex" ["number"] (fun vs H Q _ => ∃ n : Nat, vs = [.int (n : Int)] ∧ n < 256 ∧ ∀ H', Same H H' → Q (.str ⟨(shHex n).toArray⟩) H')) :
    OwnOk P w K mg base CX0 2 "write_byte" ["byte"] spWrByte := by
  refine own_ok D sc_write_byte (fun _ _ _ _ h => by obtain ⟨_, _, rfl, _⟩ := h; rfl) (fun f cdv A outer s H vs Q E hr h => ⟨_, (pss_cons (ps_if (pt_cmpR (kop_in (K := K) rfl) (pv 0) (pe_tup (pa_cons (pe_ordL 34 n_ord) (pa_cons (pe_ordL 92 n_ord) pa_nil))) (by rfl)) (pss_one (ps_ret (pe_lst (pa_cons (pe_ordL 92 n_ord) (pa_cons (pv 0) pa_nil))))) pss_nil)
    (pss_cons (ps_if (pt_cmpR op_eq (pv 0) (pe_cst (by rfl) c_LINE_FEED) (nomark _)) (pss_one (ps_ret (pe_own o_ascii_bytes (hr.mono (by omega)) rfl pass0 (pa_cons pe_str pa_nil)))) pss_nil)
    (pss_cons (ps_if (pt_cmpR op_eq (pv 0) (pe_cst (by rfl) c_TAB) (nomark _)) (pss_one (ps_ret (pe_own o_ascii_bytes (hr.mono (by omega)) rfl pass0 (pa_cons pe_str pa_nil)))) pss_nil)
    (pss_cons (ps_if (pt_cmpR op_lt (pv 0) (pe_cst (by rfl) c_SPACE) (nomark _)) (pss_one (ps_ret (pe_own o_ascii_bytes (hr.mono (by omega)) rfl pass0 (pa_cons (pe_op op_add_str (pe_op op_add_str pe_str (pe_own o_short_hex (hr.mono (by omega)) rfl pass0 (pa_cons (pv 0) pa_nil))) pe_str) pa_nil)))) pss_nil)
    (pss_one (ps_ret (pe_lst (pa_cons (pv 0) pa_nil)))))))), ?_⟩)
  obtain ⟨G, n, rfl, sG, q⟩ := h
  walk_at "sx"
  refine ⟨by decide, fun p hp => ⟨p, _, rfl, .inr (SqT.of upd_same), rfl, rfl, _, rfl, ?_⟩⟩
  have hin : inV (.int (n : Int)) [.int ((34 : Nat) : Int), .int ((92 : Nat) : Int)] = decide (n = 34 ∨ n = 92) := by
    simp only [inV, List.any_cons, List.any_nil, eqV, Bool.or_false]
    rw [Bool.eq_iff_iff]; simp; omega
  have e0 : Ext G H G (upd H p (.tup [.int ((34 : Nat) : Int), .int ((92 : Nat) : Int)])) := (Ext.refl sG).priv hp
  generalize upd H p (.tup [.int ((34 : Nat) : Int), .int ((92 : Nat) : Int)]) = H1 at e0 ⊢
  unfold wrByte at q
  rw [hin]
  simp only [Bool.false_eq_true, if_false]
  have lit : ∀ (z : Str) (l : List Nat) (H2 : Hp), Same H1 H2 → z.cps.toList = l → z.length ≤ 1000000 → (∀ v G' H', Ext G H G' H' → Ls l v G' → Q v H') → spAscii [.str z] H2 Q E0 := fun z l H2 s2 hz hl k =>
    ⟨G, z, e0.sub.trans s2, ⟨rfl, hl⟩, fun v G' H' e hv => k v G' H' ((e0.heap s2).trans e) (by have hv : Ls z.cps.toList v G' := hv; rw [hz] at hv; exact hv)⟩
  have own : ∀ (l : List Nat), (∀ v G' H', Ext G H G' H' → Ls l v G' → Q v H') → ∀ p, H1 p = none → Q (.ref p) (upd H1 p (.lst (nV l))) := fun l k p hp => k _ _ _ (e0.made hp) ⟨p, rfl, upd_same⟩
  by_cases h1 : n = 34 ∨ n = 92
  · rw [if_pos h1] at q
    rw [decide_eq_true h1]
    exact iteT ⟨by decide, own [92, n] q⟩
  rw [if_neg h1] at q
  rw [decide_eq_false h1]
  refine iteF ?_
  by_cases h2 : n = 10
  · rw [if_pos h2] at q
    refine ite2 (fun _ => lit _ _ _ (Same.refl _) (by decide +kernel) (by decide +kernel) q) (fun z => absurd (decide_eq_true (by omega)) z)
  rw [if_neg h2] at q
  refine ite2 (fun z => by rw [decide_eq_true_eq] at z; omega) (fun _ => ?_)
  by_cases h3 : n = 9
  · rw [if_pos h3] at q
    refine ite2 (fun _ => lit _ _ _ (Same.refl _) (by decide +kernel) (by decide +kernel) q) (fun z => absurd (decide_eq_true (by omega)) z)
  rw [if_neg h3] at q
  refine ite2 (fun z => by rw [decide_eq_true_eq] at z; omega) (fun _ => ?_)
  by_cases h4 : n < 32
  · rw [if_pos h4] at q
    refine ite2 (fun _ => ?_) (fun z => absurd (decide_eq_true (by omega)) z)
    have hx := hexLen n
    have a1 : (Str.ofString "\\u{").length = 3 := by decide +kernel
    have a2 : (Str.ofString "}").length = 1 := by decide +kernel
    have a3 : (Str.ofString "\\u{" ++ (⟨(shHex n).toArray⟩ : Str)).length = 3 + (⟨(shHex n).toArray⟩ : Str).length := by rw [← a1]; exact Array.size_append
    have a4 : (Str.ofString "\\u{" ++ (⟨(shHex n).toArray⟩ : Str) ++ Str.ofString "}").length = 3 + (⟨(shHex n).toArray⟩ : Str).length + 1 := by rw [← a3, ← a2]; exact Array.size_append
    refine ⟨n, rfl, by omega, fun H3 s3 => ⟨le_line (by omega), le_line (by omega), lit _ _ _ s3 ?_ (by rw [a4]; omega) q⟩⟩
    show ((Str.ofString "\\u{").cps ++ (shHex n).toArray ++ (Str.ofString "}").cps).toList = _
    rw [Array.toList_append, Array.toList_append]
    rfl
  rw [if_neg h4] at q
  refine ite2 (fun z => by rw [decide_eq_true_eq] at z; omega) (fun _ => ⟨by decide, own [n] q⟩)
/-- ascii_bytes: a new list -/
def spAsciiN : Sp := fun vs H Q _ => ∃ G z, vs = [.str z] ∧ Same G H ∧ z.length ≤ 1000000 ∧ ∀ a G' H', H a = none → Ext G H G' H' → G' a = some (.lst (nV z.cps.toList)) → Q (.ref a) H'
theorem asciiN_ok (D : Dn K mg "ascii_bytes" s_ascii_bytes ["text"]) (n_ord : mg "ord" = none) : OwnOk P w K mg base CX0 1 "ascii_bytes" ["text"] spAsciiN := by
  refine own_ok D sc_ascii_bytes (fun _ _ _ _ h => by obtain ⟨G, l, rfl, _⟩ := h; rfl) (fun f cdv A outer s H vs Q E hr h => ⟨_, (pss_one (ps_ret (pe_lc (own := [("sign", 1)]) (g := gName 1) (tt := tYes) rfl sc_ascii_bytes.nd (pi_str (pv 0)) (blkOk_by (N := ["text", "sign"]) (sc := defScope s_ascii_bytes) (by decide +kernel)) (fun _ _ _ _ _ => pg_name (i := 1) sc_ascii_bytes.nd rfl (Or.inl rfl)) (fun _ _ _ _ _ => pts_nil) (fun _ _ _ _ _ => (pe_callB call_ord (by rfl) n_ord (by decide +kernel) (pa_cons (pv 1) pa_nil)))))), ?_⟩)
  obtain ⟨G, z, rfl, sG, hlen, q⟩ := h
  refine ⟨_, rfl, z, rfl, fun F hF => lc_ofS (z := z) (R := Sg) Nm (fun _ => true) id sG (paired_sg _) (by rw [List.length_map]; exact lt_line (by rw [Array.length_toList]; exact hlen)) hF (fun _ _ _ _ _ h => h) Nm.same (fun _ => rfl) (fun c x G' H' _ e hx Q' k => k _ (Same.refl _)) (fun c x G' H' _ e hx _ Q' k => ?_) (fun G' H' ys e hF' gF hy => ?_)⟩
  · obtain rfl : x = _ := hx
    refine ⟨_, rfl, _, rfl, rfl, k _ _ _ (Ext.refl e.sub) rfl⟩
  · rw [filter_yes, List.map_id] at hy
    rw [paired_of_nV hy] at hF'
    exact q _ _ _ hF (e.pub hF hF') upd_same
theorem Ext.forget {G H G' H' : Hp} (e : Ext G H G' H') : Ext G H G H' := ⟨e.same, fun b o h => e.sub _ _ (e.up _ _ h), Same.refl _, fun _ _ h => .inl h⟩
def wrStr (t : List Nat) : List Nat := 34 :: (t.flatMap wrByte ++ [34])
theorem flat_take_le {α β : Type} (f : α → List β) (t : List α) (i : Nat) : ((t.take i).flatMap f).length ≤ (t.flatMap f).length := by
  conv => rhs; rw [← List.take_append_drop i t]
  rw [List.flatMap_append, List.length_append]; omega
def spWrStr : Sp := fun vs H Q _ => ∃ G a t, vs = [.ref a] ∧ Same G H ∧ G a = some (.tup (nV t)) ∧ (wrStr t).length ≤ 1000000 ∧ ∀ v G' H', Ext G H G' H' → Ls (wrStr t) v G' → Q v H'
abbrev s_write_string : Stmt := top 73
theorem sc_write_string : FnScope ["text", "written", "byte"] ["text"] (defScope s_write_string) := ⟨rfl, rfl, rfl, by decide +kernel, rfl, by decide +kernel, by decide +kernel⟩
theorem ok_write_string (D : Dn K mg "write_string" s_write_string ["text"]) (o_ascii_bytes : OwnOk P w K mg base CX0 1 "ascii_bytes" ["text"] spAsciiN) (o_write_byte : OwnOk P w K mg base CX0 2 "write_byte" ["byte"] spWrByte) :
    OwnOk P w K mg base CX0 3 "write_string" ["text"] spWrStr := by
  refine own_ok D sc_write_string (fun _ _ _ _ h => by obtain ⟨_, _, _, rfl, _⟩ := h; rfl) (fun f cdv A outer s H vs Q E hr h => ⟨_, (pss_cons (ps_set (i := 1) sc_write_string.nd rfl (by first | exact Or.inl rfl | exact Or.inr rfl) (pe_own o_ascii_bytes (hr.mono (by omega)) rfl pass0 (pa_cons pe_str pa_nil)))
    (pss_cons (ps_for PassesOwn.never rfl (kpi_tup (K := K) rfl (pv 0)) (pg_name (i := 2) sc_write_string.nd rfl (by first | exact Or.inl rfl | exact Or.inr rfl))
    (pss_one (ps_expr (kpe_bm (K := K) rfl PySem.F.plainAttrs_list PySem.F.slot_list_extend PySem.F.type_list_extend mt_extendS (pv 1) (pa_cons (pe_own o_write_byte (hr.mono (by omega)) rfl pass0 (pa_cons (pv 2) pa_nil)) pa_nil)))))
    (pss_one (ps_ret (pe_op op_cat (pv 1) (pe_own o_ascii_bytes (hr.mono (by omega)) rfl pass0 (pa_cons pe_str pa_nil))))))), ?_⟩)
  obtain ⟨G, a, t, rfl, sG, ha, hlen, q⟩ := h
  refine ⟨G, "\"", rfl, sG, by decide, fun c G1 H1 hc e1 hl => ?_⟩
  have hw : (nV t).length = t.length := by rw [List.length_map]
  have f1 := e1.forget
  refine ⟨_, rfl, a, rfl, ⟨_, SqT.of (f1.sub _ _ ha)⟩, for_tup (xs := nV t) (fun i σ' H' => i ≤ t.length ∧ ∃ x, σ' = [some (.ref a), some (.ref c), x] ∧ Ext G H G H' ∧ H' c = some (.lst (nV (34 :: (t.take i).flatMap wrByte))))
    ⟨Nat.zero_le _, _, rfl, f1, e1.sub _ _ hl⟩ (fun i σ' H' _ ⟨_, x, _, e, _⟩ => SqT.of (e.sub _ _ ha)) ?_ ?_⟩
  · rintro i x σ' H' hx ⟨hi, y, rfl, e, hC⟩
    obtain ⟨b, hb, rfl⟩ := nV_get hx
    have hi' : i < t.length := (List.getElem?_eq_some_iff.mp hb).1
    walk_at "sx"
    refine ⟨tyL (SqL.of hC), G, b, rfl, e.sub, fun v G2 H2 e2 hv => ?_⟩
    obtain ⟨r, rfl, hr2⟩ := hv
    walk_at "sx"
    have e3 : Ext G H G H2 := ⟨e.same.trans e2.same, e.sub.trans e2.same, Same.refl _, fun _ _ h => .inl h⟩
    have hC2 := e2.same _ _ hC
    have hle := flat_take_le wrByte t (i + 1)
    rw [take_at hb, List.flatMap_append, List.length_append] at hle
    have hlt : (t.flatMap wrByte).length ≤ 999998 := by unfold wrStr at hlen; rw [List.length_cons, List.length_append, List.length_singleton] at hlen; omega
    have e1 : [b].flatMap wrByte = wrByte b := by simp
    rw [e1] at hle
    refine ⟨_, hC2, _, .inl (e2.sub _ _ hr2), ?_, hi', e3.mut hc (sG.free hc), upd_same.trans ?_⟩
    · rw [List.length_map, List.length_map, List.length_cons]
      exact le_line (by omega)
    · rw [take_at hb, List.flatMap_append, e1, ← nV_app]; rfl
  · rintro σ' H' ⟨_, x, rfl, e, hC⟩
    walk_at "sx"
    refine ⟨G, "\"", rfl, e.sub, by decide, fun c2 G2 H2 hc2 e2 hl2 => ⟨_, rfl, _, e2.same _ _ hC, _, e2.sub _ _ hl2, ?_, fun p hp => ?_⟩⟩
    · rw [hw, List.take_length, List.length_map, List.length_map]
      unfold wrStr at hlen
      rw [List.length_cons, List.length_append] at hlen
      exact le_line (by rw [List.length_cons]; show _ + 1 ≤ _; omega)
    · have e3 : Ext G H G H2 := ⟨e.same.trans e2.same, e.sub.trans e2.same, Same.refl _, fun _ _ h => .inl h⟩
      refine q _ _ _ (e3.made hp) ⟨p, rfl, upd_same.trans ?_⟩
      rw [hw, List.take_length, ← nV_app]; rfl

end
end Bt

namespace Bt
open PySem PySem.Spec PyProof.Rows L2
/-! ### str of a number or of a text; isinstance of the class of nodes -/
theorem call_str_any {X : Cx} : CallR X (.type "str") (fun xs H Q => (∃ i, xs = [.int i] ∧ i.natAbs.log2 < 1920 ∧ Q (.str (toString i)) H) ∨ ∃ a, xs = [.str a] ∧ Q (.str a) H) := by
  intro pins s σ H xs us Q I r h
  rcases h with ⟨i, rfl, hz, q⟩ | ⟨a, rfl, q⟩
  · obtain ⟨u, rfl, t, rfl⟩ := vals1 r
    exact PySem.P.str_of_int hz ⟨.str _, H, I.tok _, ⟨_, rfl⟩, q⟩
  · obtain ⟨u, rfl, r1⟩ := vals1 r
    obtain ⟨t, rfl⟩ := (show ∃ t, u = Value.str a t from r1)
    exact PySem.P.str_of_str ⟨.str a, H, I, ⟨t, rfl⟩, q⟩
/-- what isinstance asks of an own class, also of values of three other types -/
structure IsN (K : PySem.W.Frag) (CN : Addr) : Prop where
  c : C8.InsC K CN
  tup : PySem.W.kitOne K (.type "tuple") (.ref CN) = some false
  int : PySem.W.kitOne K (.type "int") (.ref CN) = some false
  str : PySem.W.kitOne K (.type "str") (.ref CN) = some false
theorem isi_own {K : PySem.W.Frag} {H : Hp} {CN a dx : Addr} {fs : List (Str × V)} {Q : VK} (I : IsN K CN) (h : H a = some (.ins CN dx fs)) (q : Q (.bl true) H) : rIsi K [.ref a, .ref CN] H Q :=
  ⟨_, _, _, _, true, rfl, .own CN, .base (.ins h I.c.cl I.c.ha I.c.hn I.c.htk I.c.hm), I.c.me, q⟩
theorem isi_tupN {K : PySem.W.Frag} {H : Hp} {CN a : Addr} {xs : List V} {Q : VK} (I : IsN K CN) (h : H a = some (.tup xs)) (q : Q (.bl false) H) : rIsi K [.ref a, .ref CN] H Q := ⟨_, _, _, _, false, rfl, .own CN, .base (.tup h), I.tup, q⟩
theorem isi_intN {K : PySem.W.Frag} {H : Hp} {CN : Addr} {i : Int} {Q : VK} (I : IsN K CN) (q : Q (.bl false) H) : rIsi K [.int i, .ref CN] H Q := ⟨_, _, _, _, false, rfl, .own CN, .base (.int i), I.int, q⟩
theorem isi_strN {K : PySem.W.Frag} {H : Hp} {CN : Addr} {z : Str} {Q : VK} (I : IsN K CN) (q : Q (.bl false) H) : rIsi K [.str z, .ref CN] H Q := ⟨_, _, _, _, false, rfl, .own CN, .base (.str z), I.str, q⟩
theorem isi_tupT {K : PySem.W.Frag} {H : Hp} {a : Addr} {xs : List V} {Q : VK} (h : H a = some (.tup xs)) (q : Q (.bl true) H) : rIsi K [.ref a, .ty "tuple"] H Q := ⟨_, _, _, _, true, rfl, .ty _, .base (.tup h), kit_ty (by decide +kernel), q⟩
theorem isi_intT {K : PySem.W.Frag} {H : Hp} {i : Int} {Q : VK} (q : Q (.bl false) H) : rIsi K [.int i, .ty "tuple"] H Q := ⟨_, _, _, _, false, rfl, .ty _, .base (.int i), kit_ty (by decide +kernel), q⟩
theorem isi_strT {K : PySem.W.Frag} {H : Hp} {z : Str} {Q : VK} (q : Q (.bl false) H) : rIsi K [.str z, .ty "tuple"] H Q := ⟨_, _, _, _, false, rfl, .ty _, .base (.str z), kit_ty (by decide +kernel), q⟩
theorem call_isiN {X : Cx} {K : PySem.W.Frag} (h : X.K = K) : CallR X (.builtin "isinstance") (rIsi K) := h ▸ call_isi
end Bt

namespace Bt
open PySem PySem.Spec PyProof.Rows L2
local macro_rules | `(tactic| walk_at "sx") => `(tactic| simp only [cxK, tTru, rLen, rListOf, rTupOf, tRet, tRetN, tChain, tRng, tCB, tCons, tNil, tC, tVar, tOp, tUn, tTest, tB, tAnd, tOr, tNot, tIfS, tSeq, tIf, tOrV, tAndV, tNotV, tCall, tSl, tPart, tNoPart, tLst, tTup, tBM, tBM0, rExtendS, iList, iTup, iSeqV, rIxL, rIxT, rSlL, rAppend, rExtend, rCat, rI0, rI, rIxS, rEq, rNe, rU, tAsg, gName, tDrop, tNext, scal, L2.start, List.map_cons, List.map_nil, List.length_cons, List.length_nil, Nat.reduceAdd, Nat.reduceSub, List.replicate_succ, List.replicate_zero, List.append_nil, List.cons_append, List.nil_append, List.getElem?_cons_zero, List.getElem?_cons_succ, Option.some.injEq, exists_eq_left', exists_eq_left, V.int.injEq, V.bl.injEq, V.str.injEq, V.ref.injEq, List.cons.injEq, and_true, true_and, exists_and_left, List.set_cons_zero, List.set_cons_succ, spN1_run, tFC, sFC, sFCAug, tMeth, tMake, sRaise, tErF, rAdd, rPop, tM1, tCallL, Option.some.injEq, HO.ins.injEq])
local macro_rules | `(tactic| walk_at "sm") => `(tactic| (repeat (first | exact Same.refl _ | assumption | (refine Same.trans ?_ (same_new (by assumption))) | (refine Same.trans ?_ (by assumption)))))
section
variable {P : Program} {w : World} {K : PySem.W.Frag} {mg : Str → Option Value} {base : Heap}
/-! ### parts and lists, by depth -/
/-- the decimal of a number -/
def decN (n : Nat) : List Nat := ((toString (n : Int) : Str)).cps.toList
def wrArg : Nat → Arg → List Nat
  | _, .text l => wrStr l
  | _, .int n => decN n
  | _, .sym t => t
  | 0, .node _ _ _ _ => []
  | j + 1, .node s h c _ => 40 :: (Kh450.joinTexts [32] ((if s = [] then [] else [s]) ++ (h ++ c).map (wrArg j)) ++ [41])
theorem wr_text (j : Nat) (l : List Nat) : wrArg j (.text l) = wrStr l := by cases j <;> simp only [wrArg]
theorem wr_int (j : Nat) (n : Nat) : wrArg j (.int n) = decN n := by cases j <;> simp only [wrArg]
theorem wr_sym (j : Nat) (t : List Nat) : wrArg j (.sym t) = t := by cases j <;> simp only [wrArg]
theorem join_mem_le (sep : List Nat) : ∀ (ls : List (List Nat)) (x : List Nat), x ∈ ls → x.length ≤ (Kh450.joinTexts sep ls).length
  | [a], x, h => by rw [List.mem_singleton.mp h]; exact Nat.le_refl _
  | a :: b :: r, x, h => by
    show x.length ≤ (a ++ sep ++ Kh450.joinTexts sep (b :: r)).length
    rw [List.length_append, List.length_append]
    rcases List.mem_cons.mp h with rfl | h
    · omega
    · have := join_mem_le sep (b :: r) x h
      omega
theorem join_count (c : Nat) : ∀ ls : List (List Nat), ls.length ≤ (Kh450.joinTexts [c] ls).length + 1
  | [] => Nat.zero_le _
  | [a] => by show 1 ≤ _ + 1; omega
  | a :: b :: r => by
    have := join_count c (b :: r)
    show (b :: r).length + 1 ≤ (a ++ [c] ++ Kh450.joinTexts [c] (b :: r)).length + 1
    rw [List.length_append, List.length_append, List.length_singleton]
    omega
def dpA : Nat → Arg → Prop
  | _, .text _ => True
  | _, .int n => n < 2 ^ 64
  | _, .sym _ => True
  | 0, .node _ _ _ _ => False
  | j + 1, .node _ h c _ => ∀ x ∈ h ++ c, dpA j x
def spWrP (CN : Addr) (j : Nat) : Sp := fun vs H Q _ => ∃ G v n, vs = [v] ∧ Same G H ∧ ArgAt CN G n v ∧ dpA j n ∧ (wrArg j n).length ≤ 1000000 ∧ ∀ v' G' H', Ext G H G' H' → Ls (wrArg j n) v' G' → Q v' H'
theorem argsP {CN : Addr} {H : Hp} : ∀ {ns : List Arg} {vs : List V}, ArgsAt CN H ns vs → Paired (fun n v => ArgAt CN H n v) ns vs
  | [], vs, h => by
    have : vs = [] := by simpa only [ArgsAt] using h
    subst this; exact .nil
  | n :: r, vs, h => by
    obtain ⟨v, t, rfl, h1, h2⟩ := (by simpa only [ArgsAt] using h)
    exact .cons h1 (argsP h2)
theorem paired_app {α β : Type} {R : α → β → Prop} : ∀ {as : List α} {bs : List β} {cs : List α} {ds : List β}, Paired R as bs → Paired R cs ds → Paired R (as ++ cs) (bs ++ ds)
  | _, _, _, _, .nil, q => q
  | _, _, _, _, .cons h t, q => .cons h (paired_app t q)
theorem paired_len {α β : Type} {R : α → β → Prop} : ∀ {as : List α} {bs : List β}, Paired R as bs → as.length = bs.length
  | _, _, .nil => rfl
  | _, _, .cons _ t => congrArg (· + 1) (paired_len t)
def isNode : Arg → Bool
  | .node _ _ _ _ => true
  | _ => false
def spWrL (CN : Addr) (j : Nat) : Sp := fun vs H Q _ => ∃ G v n, vs = [v] ∧ Same G H ∧ ArgAt CN G n v ∧ isNode n = true ∧ dpA j n ∧ (wrArg j n).length ≤ 1000000 ∧ ∀ v' G' H', Ext G H G' H' → Ls (wrArg j n) v' G' → Q v' H'
abbrev s_write_part : Stmt := top 72
theorem sc_write_part : FnScope ["part"] ["part"] (defScope s_write_part) := ⟨rfl, rfl, rfl, by decide +kernel, rfl, by decide +kernel, by decide +kernel⟩
theorem ok_write_part {CN : Addr} {j k : Nat} (D : Dn K mg "write_part" s_write_part ["part"]) (n_isinstance : mg "isinstance" = none) (n_tuple : mg "tuple" = none) (n_str : mg "str" = none) (at_Node : mg "Node" = some (.ref CN)) (is_Node : IsN K CN)
    (o_write_list : OwnOk P w K mg base CX0 (k + 4) "write_list" ["node"] (spWrL CN j)) (o_write_string : OwnOk P w K mg base CX0 3 "write_string" ["text"] spWrStr) (o_ascii_bytes : OwnOk P w K mg base CX0 1 "ascii_bytes" ["text"] spAscii) :
    OwnOk P w K mg base CX0 (k + 5) "write_part" ["part"] (spWrP CN j) := by
  refine own_ok D sc_write_part (fun _ _ _ _ h => by obtain ⟨_, _, _, rfl, _⟩ := h; rfl) (fun f cdv A outer s H vs Q E hr h => ⟨_, (pss_cons (ps_if (pt_val (pe_callB (call_isiN (K := K) rfl) (by rfl) n_isinstance (by decide +kernel) (pa_cons (pv 0) (pa_cons (pe_glob (v := .ref _) (by rfl) at_Node rfl) pa_nil)))) (pss_one (ps_ret (pe_own o_write_list (hr.mono (by omega)) rfl pass0 (pa_cons (pv 0) pa_nil)))) pss_nil)
    (pss_cons (ps_if (pt_val (pe_callB (call_isiN (K := K) rfl) (by rfl) n_isinstance (by decide +kernel) (pa_cons (pv 0) (pa_cons (pe_bltn (v := .ty "tuple") (by rfl) n_tuple (by decide +kernel) rfl) pa_nil)))) (pss_one (ps_ret (pe_own o_write_string (hr.mono (by omega)) rfl pass0 (pa_cons (pv 0) pa_nil)))) pss_nil)
    (pss_one (ps_ret (pe_own o_ascii_bytes (hr.mono (by omega)) rfl pass0 (pa_cons (pe_callTy call_str_any (by rfl) n_str (by decide +kernel) (pa_cons (pv 0) pa_nil)) pa_nil)))))), ?_⟩)
  obtain ⟨G, v, n, rfl, sG, hn, hd, hlen, q⟩ := h
  walk_at "sx"
  cases n with
  | text l =>
    obtain ⟨b, rfl, hb⟩ := (by simpa only [ArgAt] using hn)
    rw [wr_text] at hlen q
    exact isi_tupN is_Node (sG _ _ hb) ⟨_, rfl, iteF (isi_tupT (sG _ _ hb) ⟨_, rfl, iteT ⟨G, b, l, rfl, sG, hb, hlen, q⟩⟩)⟩
  | int i =>
    obtain rfl := (show v = .int (i : Int) by simpa only [ArgAt] using hn)
    rw [wr_int] at hlen q
    refine isi_intN is_Node ⟨_, rfl, iteF (isi_intT ⟨_, rfl, iteF (.inl ⟨_, rfl, ?_, ⟨G, _, sG, ⟨rfl, ?_⟩, q⟩⟩)⟩)⟩
    · have hi : i < 2 ^ 64 := by cases j <;> exact hd
      have : Nat.log2 i < 65 := by
        by_cases h0 : i = 0
        · subst h0; decide
        · exact (Nat.log2_lt h0).mpr (by omega)
      show Nat.log2 (Int.natAbs (i : Int)) < 1920
      rw [Int.natAbs_natCast]; omega
    · unfold decN at hlen
      rw [Array.length_toList] at hlen
      exact hlen
  | sym t =>
    obtain rfl := (show v = .str ⟨t.toArray⟩ by simpa only [ArgAt] using hn)
    rw [wr_sym] at hlen q
    exact isi_strN is_Node ⟨_, rfl, iteF (isi_strT ⟨_, rfl, iteF (.inr ⟨_, rfl, ⟨G, _, sG, ⟨rfl, by show t.toArray.size ≤ _; rw [List.size_toArray]; exact hlen⟩, q⟩⟩)⟩)⟩
  | node s h c ho =>
    obtain ⟨a, dx, hb, cb, hv, cv, rfl, h1, h2, h3, h4, h5⟩ := (by simpa only [ArgAt] using hn)
    exact isi_own is_Node (sG _ _ h1) ⟨_, rfl, iteT ⟨G, _, _, rfl, sG, hn, rfl, hd, hlen, q⟩⟩
theorem lsSq {H : Hp} : ∀ {ls : List (List Nat)} {vs : List V}, Paired (fun l v => Ls l v H) ls vs → Paired (fun l v => Sq l v H) ls vs
  | _, _, .nil => .nil
  | _, _, .cons h t => .cons (Ls.sq h) (lsSq t)
def wrEnd (F : Addr) (Q : VK) : Hp → Prop := fun H1 => spAscii [.str "("] H1 (fun x4 H1 => 1 ≤ sizeLine ∧ ∀ p, H1 p = none → spJoined [.ref F, .ref p] (upd H1 p (.lst [.int 32])) (fun y H2 => ∃ l, x4 = .ref l ∧ ∃ x, y = .ref x ∧ ∃ x5, H2 l = some (.lst x5) ∧ ∃ x6, H2 x = some (.lst x6) ∧ x5.length + x6.length ≤ sizeLine ∧
  ∀ p, H2 p = none → spAscii [.str ")"] (upd H2 p (.lst (x5 ++ x6))) (fun y H2 => ∃ x, y = .ref x ∧ ∃ x7, H2 p = some (.lst x7) ∧ ∃ x8, H2 x = some (.lst x8) ∧ x7.length + x8.length ≤ sizeLine ∧ ∀ p, H2 p = none → Q (.ref p) (upd H2 p (.lst (x7 ++ x8)))) E0) E0) E0
theorem wr_end {G H G3 H3 : Hp} {F : Addr} {Q : VK} {ps : List (List Nat)} (e : Ext G H G3 H3) (hF : Sqs ps (.ref F) G3) (hlen : (40 :: (Kh450.joinTexts [32] ps ++ [41])).length ≤ 1000000)
    (q : ∀ v G' H', Ext G H G' H' → Ls (40 :: (Kh450.joinTexts [32] ps ++ [41])) v G' → Q v H') : wrEnd F Q H3 := by
  rw [List.length_cons, List.length_append, List.length_singleton] at hlen
  refine ⟨G3, "(", e.sub, ⟨rfl, by decide⟩, fun v4 G4 H4 e4 hv4 => ⟨by decide, fun p hp => ?_⟩⟩
  obtain ⟨l, rfl, hl⟩ := hv4
  have e5 := (e.trans e4).made (o := .lst [V.int 32]) hp
  have up5 : Same G3 (upd G4 p (.lst [V.int 32])) := e4.up.trans (same_new ((e.trans e4).gnone hp))
  refine ⟨upd G4 p (.lst [V.int 32]), (ps, [32]), e5.sub, ⟨_, _, rfl, ?_, ⟨p, rfl, upd_same⟩, by show (Kh450.joinTexts [32] ps).length ≤ _; omega⟩, fun y G6 H6 e6 hy => ?_⟩
  · obtain ⟨a, vs, ea, ha, hp2⟩ := hF
    exact ⟨a, vs, ea, up5 _ _ ha, paired_same (fun _ _ _ _ s h => h.same s) up5 hp2⟩
  obtain ⟨x, rfl, hx⟩ := hy
  have e6' := e5.trans e6
  have hx : G6 x = some (.lst (nV (Kh450.joinTexts [32] ps))) := hx
  have hl : G4 l = some (.lst (nV [40])) := hl
  refine ⟨l, rfl, x, rfl, _, e6.same _ _ (same_new hp _ _ (e4.sub _ _ hl)), _, e6.sub _ _ hx, ?_, fun p2 hp2 => ?_⟩
  · rw [List.length_map, List.length_map, List.length_singleton]; exact le_line (by omega)
  have e7 := e6'.made (o := .lst (nV [40] ++ nV (Kh450.joinTexts [32] ps))) hp2
  refine ⟨_, ")", e7.sub, ⟨rfl, by decide⟩, fun v8 G8 H8 e8 hv8 => ?_⟩
  obtain ⟨x8, rfl, hx8⟩ := hv8
  have hx8 : G8 x8 = some (.lst (nV [41])) := hx8
  refine ⟨x8, rfl, _, e8.same _ _ upd_same, _, e8.sub _ _ hx8, ?_, fun p3 hp3 => ?_⟩
  · rw [List.length_append, List.length_map, List.length_map, List.length_map, List.length_singleton, List.length_singleton]; exact le_line (by omega)
  · have e9 := (e7.trans e8).made (o := .lst (nV [40] ++ nV (Kh450.joinTexts [32] ps) ++ nV [41])) hp3
    refine q _ _ _ e9 ⟨p3, rfl, upd_same.trans ?_⟩
    rw [← nV_app, ← nV_app]; rfl
abbrev s_write_list : Stmt := top 71
theorem sc_write_list : FnScope ["node", "parts", "part"] ["node"] (defScope s_write_list) := ⟨rfl, rfl, rfl, by decide +kernel, rfl, by decide +kernel, by decide +kernel⟩
theorem wr_list0 {CN : Addr} (D : Dn K mg "write_list" s_write_list ["node"]) : OwnOk P w K mg base CX0 4 "write_list" ["node"] (spWrL CN 0) := by
  refine own_ok D sc_write_list (fun _ _ _ _ h => by obtain ⟨_, _, _, rfl, _⟩ := h; rfl) (fun f cdv A outer s H vs Q E hr h => ?_)
  exfalso
  obtain ⟨G, v, n, rfl, sG, hn, hi, hd, _⟩ := h
  cases n with
  | node s h c ho => exact (show False from hd)
  | _ => cases hi
theorem ok_write_list {CN : Addr} {j k : Nat} (D : Dn K mg "write_list" s_write_list ["node"]) (q_Node_symbol : Kf K CN "symbol") (q_Node_head : Kf K CN "head") (q_Node_children : Kf K CN "children") (c_SPACE : IsC mg "SPACE" (.int 32))
    (o_write_part : OwnOk P w K mg base CX0 (k + 5) "write_part" ["part"] (spWrP CN j)) (o_ascii_bytes : OwnOk P w K mg base CX0 1 "ascii_bytes" ["text"] spAscii) (o_joined : OwnOk P w K mg base CX0 1 "joined" ["texts", "separator"] spJoined) :
    OwnOk P w K mg base CX0 (k + 6) "write_list" ["node"] (spWrL CN (j + 1)) := by
  refine own_ok D sc_write_list (fun _ _ _ _ h => by obtain ⟨_, _, _, rfl, _⟩ := h; rfl) (fun f cdv A outer s H vs Q E hr h => ⟨_, (pss_cons (ps_setLc (i := 1) (own := [("part", 2)]) (g := gName 2) (tt := tYes) rfl sc_write_list.nd rfl rfl (sw_true rfl rfl rfl (by decide +kernel)) (kpi_list (K := K) rfl (pe_op op_cat (pe_fc (K := K) rfl q_Node_head (pv 0)) (pe_fc (K := K) rfl q_Node_children (pv 0)))) (blkOk_by (N := ["node", "parts", "part"]) (sc := defScope s_write_list) (by decide +kernel)) (fun _ _ _ _ _ => pg_name (i := 2) sc_write_list.nd rfl (Or.inl rfl)) (fun _ _ _ _ _ => pts_nil) (fun _ _ _ _ _ => (pe_own o_write_part (hr.mono (by omega)) rfl pass0 (pa_cons (pv 2) pa_nil))))
    (pss_cons (ps_if (kpt_truth (K := K) rfl (pe_fc (K := K) rfl q_Node_symbol (pv 0))) (pss_one (ps_expr (kpe_bm (K := K) rfl PySem.F.plainAttrs_list PySem.F.slot_list_insert PySem.F.type_list_insert mt_insert (pv 1) (pa_cons pe_int (pa_cons (pe_own o_ascii_bytes (hr.mono (by omega)) rfl pass0 (pa_cons (pe_fc (K := K) rfl q_Node_symbol (pv 0)) pa_nil)) pa_nil))))) pss_nil)
    (pss_one (ps_ret (pe_op op_cat (pe_op op_cat (pe_own o_ascii_bytes (hr.mono (by omega)) rfl pass0 (pa_cons pe_str pa_nil)) (pe_own o_joined (hr.mono (by omega)) rfl pass0 (pa_cons (pv 1) (pa_cons (pe_lst (pa_cons (pe_cst (by rfl) c_SPACE) pa_nil)) pa_nil)))) (pe_own o_ascii_bytes (hr.mono (by omega)) rfl pass0 (pa_cons pe_str pa_nil))))))), ?_⟩)
  obtain ⟨G, v, n, rfl, sG, hn, hi, hd, hlen, q⟩ := h
  cases n with
  | text l => cases hi
  | int l => cases hi
  | sym l => cases hi
  | node s h c ho =>
  have hd : ∀ x ∈ h ++ c, dpA j x := hd
  unfold wrArg at hlen q
  obtain ⟨a, dx, hb, cb, hv, cv, rfl, h1, h2, h3, h4, h5⟩ := (by simpa only [ArgAt] using hn)
  walk_at "sx"
  have hpc : Paired (fun n v => ArgAt CN G n v) (h ++ c) (hv ++ cv) := paired_app (argsP h4) (argsP h5)
  have hsum : ((if s = [] then [] else [s]) ++ (h ++ c).map (wrArg j)).length ≤ 1000000 ∧ ∀ x ∈ (if s = [] then [] else [s]) ++ (h ++ c).map (wrArg j), x.length ≤ 1000000 := by
    have a1 := join_count 32 ((if s = [] then [] else [s]) ++ (h ++ c).map (wrArg j))
    have a2 := join_mem_le [32] ((if s = [] then [] else [s]) ++ (h ++ c).map (wrArg j))
    rw [List.length_cons, List.length_append, List.length_singleton] at hlen
    exact ⟨by omega, fun x hx => by have := a2 x hx; omega⟩
  have hcnt : hv.length + cv.length ≤ 1000000 := by
    have a1 := hsum.1
    have a2 := paired_len (argsP h4)
    have a3 := paired_len (argsP h5)
    rw [List.length_append, List.length_map, List.length_append] at a1
    omega
  have a2 := paired_len (argsP h4)
  have a3 := paired_len (argsP h5)
  have hs1 : s.length ≤ 1000000 := by
    by_cases hs : s = []
    · rw [hs]; exact Nat.zero_le _
    · exact hsum.2 s (List.mem_append_left _ (by rw [if_neg hs]; exact List.mem_singleton.mpr rfl))
  have hcnt3 : (h ++ c).length ≤ 1000000 := by rw [List.length_append]; omega
  have cat : ∀ R : VK, (∀ p, H p = none → R (.ref p) (upd H p (.lst (hv ++ cv)))) → tOp rCat (tFC CN (tVar 0) "head") (tFC CN (tVar 0) "children") [some (.ref a), none, none] H R := fun R k => by
    walk_at "sx"
    exact ⟨dx, _, sG _ _ h1, _, rfl, dx, _, sG _ _ h1, _, rfl, hb, rfl, cb, rfl, hv, sG _ _ h2, cv, sG _ _ h3, le_line hcnt, k⟩
  refine cat _ fun p hp => ⟨p, rfl, ⟨_, SqL.of upd_same⟩, fun F hF => lc_of (R := fun n v G => ArgAt CN G n v) Ls (fun _ => true) (wrArg j) (SqL.of upd_same) (((Ext.refl sG).priv hp).sub) hpc (by rw [← paired_len hpc, List.length_append]; exact lt_line (by omega)) hF
    (fun n v _ _ s h => ArgAt.same s n v h) (fun _ _ _ _ s h => h.same s) (fun _ => rfl) (fun m x G2 H2 hm e hx Q' k => k _ (Same.refl _)) (fun m x G2 H2 hm e hx _ Q' k => ?_) (fun G2 H2 ys e hFl gF hy => ?_)⟩
  · refine ⟨_, rfl, G2, x, m, rfl, e.sub, hx, hd m hm, hsum.2 _ (List.mem_append_right _ (List.mem_map_of_mem hm)), k⟩
  · rw [filter_yes] at hy
    have e' : Ext G H G2 H2 := ((Ext.refl sG).priv hp).trans e
    have hFH : H F = none := (same_new hp).free hF
    have hys := paired_len hy
    rw [List.length_map] at hys
    have hcnt2 : (h ++ c).length ≤ 1000000 := by rw [List.length_append]; omega
    refine ⟨dx, _, e'.same _ _ (sG _ _ h1), _, rfl, decide (s ≠ []), ⟨le_line (by show s.toArray.size ≤ _; rw [List.size_toArray]; exact hs1), ?_⟩, ?_⟩
    · show _ = ((s.toArray.size : Int) != 0)
      rw [List.size_toArray]
      cases s <;> simp
      omega
    by_cases hs : s = []
    · subst hs
      refine iteF (wr_end (ps := (h ++ c).map (wrArg j)) (e'.pub hFH hFl) ⟨F, ys, rfl, upd_same, paired_same (fun _ _ _ _ s h => h.same s) (same_new gF) (lsSq hy)⟩ (by simpa using hlen) (fun v G' H' e hv => q v G' H' e (by simpa using hv)))
    · rw [decide_eq_true hs]
      rw [if_neg hs] at hlen q
      refine iteT ⟨tyL (SqL.of hFl), dx, _, e'.same _ _ (sG _ _ h1), _, rfl, G2, _, e'.sub, ⟨rfl, by show s.toArray.size ≤ _; rw [List.size_toArray]; exact hs1⟩, fun v7 G7 H7 e7 hv7 => ⟨F, rfl, ys, 0, v7, ⟨rfl, rfl⟩, e7.same _ _ hFl, lt_line (by rw [← hys]; exact hcnt3), by decide, by decide, ?_⟩⟩
      have g7 := e7.stay gF hFl
      have e8 := (e'.trans e7).mut (o := .lst (v7 :: ys)) hFH g7
      refine wr_end (ps := s :: (h ++ c).map (wrArg j)) (e8.pub hFH upd_same) ⟨F, v7 :: ys, rfl, upd_same, ?_⟩ (by simpa using hlen) (fun v G' H' e hv => q v G' H' e (by simpa using hv))
      exact paired_same (fun _ _ _ _ s h => h.same s) (same_new g7) (.cons (Ls.sq hv7) (lsSq (paired_same (fun _ _ _ _ s h => h.same s) e7.up hy)))

end
end Bt

namespace Bt
open PySem PySem.Spec PyProof.Rows L2
local macro_rules | `(tactic| walk_at "sx") => `(tactic| simp only [cxK, tTru, rLen, rListOf, rTupOf, tRet, tRetN, tChain, tRng, tCB, tCons, tNil, tC, tVar, tOp, tUn, tTest, tB, tAnd, tOr, tNot, tIfS, tSeq, tIf, tOrV, tAndV, tNotV, tCall, tSl, tPart, tNoPart, tLst, tTup, tBM, tBM0, rExtendS, iList, iTup, iSeqV, rIxL, rIxT, rSlL, rAppend, rExtend, rCat, rI0, rI, rIxS, rEq, rNe, rU, tAsg, gName, tDrop, tNext, scal, L2.start, List.map_cons, List.map_nil, List.length_cons, List.length_nil, Nat.reduceAdd, Nat.reduceSub, List.replicate_succ, List.replicate_zero, List.append_nil, List.cons_append, List.nil_append, List.getElem?_cons_zero, List.getElem?_cons_succ, Option.some.injEq, exists_eq_left', exists_eq_left, V.int.injEq, V.bl.injEq, V.str.injEq, V.ref.injEq, List.cons.injEq, and_true, true_and, exists_and_left, List.set_cons_zero, List.set_cons_succ, spN1_run, tFC, sFC, sFCAug, tMeth, tMake, sRaise, tErF, rAdd, rPop, tM1, tCallL, Option.some.injEq, HO.ins.injEq])
local macro_rules | `(tactic| walk_at "sm") => `(tactic| (repeat (first | exact Same.refl _ | assumption | (refine Same.trans ?_ (same_new (by assumption))) | (refine Same.trans ?_ (by assumption)))))
section
variable {P : Program} {w : World} {K : PySem.W.Frag} {mg : Str → Option Value} {base : Heap}
/-! ### all depths; write_nodes -/
theorem wr_all {CN : Addr} (D_write_list : Dn K mg "write_list" s_write_list ["node"]) (D_write_part : Dn K mg "write_part" s_write_part ["part"]) (n_isinstance : mg "isinstance" = none) (n_tuple : mg "tuple" = none) (n_str : mg "str" = none) (at_Node : mg "Node" = some (.ref CN)) (is_Node : IsN K CN)
    (q_Node_symbol : Kf K CN "symbol") (q_Node_head : Kf K CN "head") (q_Node_children : Kf K CN "children") (c_SPACE : IsC mg "SPACE" (.int 32)) (o_write_string : OwnOk P w K mg base CX0 3 "write_string" ["text"] spWrStr) (o_ascii_bytes : OwnOk P w K mg base CX0 1 "ascii_bytes" ["text"] spAscii)
    (o_joined : OwnOk P w K mg base CX0 1 "joined" ["texts", "separator"] spJoined) : ∀ j : Nat, OwnOk P w K mg base CX0 (2 * j + 4) "write_list" ["node"] (spWrL CN j) ∧ OwnOk P w K mg base CX0 (2 * j + 5) "write_part" ["part"] (spWrP CN j)
  | 0 => by
    have a := wr_list0 (P := P) (w := w) (base := base) (CN := CN) D_write_list
    exact ⟨a, ok_write_part (k := 0) D_write_part n_isinstance n_tuple n_str at_Node is_Node a o_write_string o_ascii_bytes⟩
  | j + 1 => by
    obtain ⟨_, o_part⟩ := wr_all D_write_list D_write_part n_isinstance n_tuple n_str at_Node is_Node q_Node_symbol q_Node_head q_Node_children c_SPACE o_write_string o_ascii_bytes o_joined j
    have a := ok_write_list (k := 2 * j) D_write_list q_Node_symbol q_Node_head q_Node_children c_SPACE o_part o_ascii_bytes o_joined
    exact ⟨a, ok_write_part (k := 2 * j + 2) D_write_part n_isinstance n_tuple n_str at_Node is_Node a o_write_string o_ascii_bytes⟩
def spWrNs (CN : Addr) (j : Nat) : Sp := fun vs H Q _ => ∃ G b xs ns, vs = [.ref b] ∧ Same G H ∧ G b = some (.lst xs) ∧ ArgsAt CN G ns xs ∧ (∀ n ∈ ns, isNode n = true ∧ dpA j n) ∧ (Kh450.joinTexts [10] (ns.map (wrArg j))).length ≤ 900000 ∧
  ∀ v G' H', Ext G H G' H' → Ls (Kh450.joinTexts [10] (ns.map (wrArg j))) v G' → Q v H'
abbrev s_write_nodes : Stmt := top 70
theorem sc_write_nodes : FnScope ["nodes", "node"] ["nodes"] (defScope s_write_nodes) := ⟨rfl, rfl, rfl, by decide +kernel, rfl, by decide +kernel, by decide +kernel⟩
theorem ok_write_nodes {CN : Addr} (D : Dn K mg "write_nodes" s_write_nodes ["nodes"]) (c_LINE_FEED : IsC mg "LINE_FEED" (.int 10)) (o_write_list : OwnOk P w K mg base CX0 36 "write_list" ["node"] (spWrL CN 16)) (o_joined : OwnOk P w K mg base CX0 1 "joined" ["texts", "separator"] spJoined) :
    OwnOk P w K mg base CX0 37 "write_nodes" ["nodes"] (spWrNs CN 16) := by
  refine own_ok D sc_write_nodes (fun _ _ _ _ h => by obtain ⟨_, _, _, _, rfl, _⟩ := h; rfl) (fun f cdv A outer s H vs Q E hr h => ⟨_, (pss_one (ps_ret (pe_own o_joined (hr.mono (by omega)) rfl pass0 (pa_cons (pe_lc (own := [("node", 1)]) (g := gName 1) (tt := tYes) rfl sc_write_nodes.nd (kpi_list (K := K) rfl (pv 0)) (blkOk_by (N := ["nodes", "node"]) (sc := defScope s_write_nodes) (by decide +kernel)) (fun _ _ _ _ _ => pg_name (i := 1) sc_write_nodes.nd rfl (Or.inl rfl)) (fun _ _ _ _ _ => pts_nil) (fun _ _ _ _ _ => (pe_own o_write_list (hr.mono (by omega)) rfl pass0 (pa_cons (pv 1) pa_nil)))) (pa_cons (pe_lst (pa_cons (pe_cst (by rfl) c_LINE_FEED) pa_nil)) pa_nil))))), ?_⟩)
  obtain ⟨G, b, xs, ns, rfl, sG, hb, hx, hok, hlen, q⟩ := h
  have hc := join_count 10 (ns.map (wrArg 16))
  have hm := join_mem_le [10] (ns.map (wrArg 16))
  rw [List.length_map] at hc
  refine ⟨_, rfl, b, rfl, ⟨_, SqL.of (sG _ _ hb)⟩, fun F hF => lc_of (R := fun n v G => ArgAt CN G n v) Ls (fun _ => true) (wrArg 16) (SqL.of (sG _ _ hb)) sG (argsP hx) (by rw [← paired_len (argsP hx)]; exact lt_line (by omega)) hF
    (fun n v _ _ s h => ArgAt.same s n v h) (fun _ _ _ _ s h => h.same s) (fun _ => rfl) (fun m x G2 H2 hm e hx Q' k => k _ (Same.refl _)) (fun m x G2 H2 hm0 e hx _ Q' k => ?_) (fun G2 H2 ys e hFl gF hy => ?_)⟩
  · exact ⟨_, rfl, G2, x, m, rfl, e.sub, hx, (hok m hm0).1, (hok m hm0).2, by have := hm _ (List.mem_map_of_mem hm0); omega, k⟩
  · rw [filter_yes] at hy
    have e1 := e.pub hF hFl
    walk_at "sx"
    refine ⟨by decide, fun p hp => ?_⟩
    have e2 := e1.made (o := .lst [V.int 10]) hp
    have up : Same G2 (upd (upd G2 F (.lst ys)) p (.lst [V.int 10])) := (same_new gF).trans (same_new (e1.gnone hp))
    exact ⟨_, (ns.map (wrArg 16), [10]), e2.sub, ⟨_, _, rfl, ⟨F, ys, rfl, same_new (e1.gnone hp) _ _ upd_same, paired_same (fun _ _ _ _ s h => h.same s) up (lsSq hy)⟩, ⟨p, rfl, upd_same⟩, by show (Kh450.joinTexts [10] (ns.map (wrArg 16))).length ≤ _; omega⟩, fun v G' H' e3 hv => q v G' H' (e2.trans e3) hv⟩
/-! ### canonical -/
open LamX
theorem Lr.grow2 {l : List Nat} {v : V} {H H' : Hp} (h : Lr K l v H) (e : ExtN H H') : Lr K l v H' := let ⟨a, z, q⟩ := h; ⟨a, z, sqL_up (fun b o h1 h2 => e b o h1 h2) q⟩
def canA (d : List Nat) : List Int := match rdDoc d with
  | .error _ => [-20]
  | .ok ns => ((Kh450.joinTexts [10] (ns.map (wrArg 16))).length :: Kh450.joinTexts [10] (ns.map (wrArg 16))).map Int.ofNat
def spCan (K : PySem.W.Frag) (T : List (Addr × Str)) : Sp := fun vs H Q _ => ∃ (v : V) (d : List Nat), vs = [v] ∧ Lr K d v H ∧ Tabs T H ∧ d.length ≤ 1000 ∧ (∀ x ∈ d, x < 256) ∧ (∀ ns, rdDoc d = .ok ns → (∀ n ∈ ns, isNode n = true ∧ dpA 16 n) ∧ (Kh450.joinTexts [10] (ns.map (wrArg 16))).length ≤ 900000) ∧
  ∀ (p : Addr) H', H' p = some (.lst ((canA d).map V.int)) → Q (.ref p) H'
end
end Bt

namespace Bt
open PySem
open Kh450 (Inline Block codesOf encodeAll encodeUtf8 writeCharacter writeString writeInlineLoop writeBlockLoop writeInlines formOf form separated hexDigits writeNat writeNatLoop)
/-! ### what is written is what the specification writes -/
theorem sep_join : ∀ l : List (List Nat), separated l = Kh450.joinTexts [32] l
  | [] => rfl
  | [a] => rfl
  | a :: b :: r => by
    show a ++ [32] ++ separated (b :: r) = a ++ [32] ++ Kh450.joinTexts [32] (b :: r)
    rw [sep_join (b :: r)]
theorem hex_is : ∀ c : Nat, c < 32 → shHex c = if c = 0 then [48] else hexDigits 6 c := by decide +kernel
theorem enc_big {c : Nat} (h : 128 ≤ c) : ∀ b ∈ encodeUtf8 c, 128 ≤ b := by
  intro b hb
  unfold encodeUtf8 at hb
  split at hb
  · omega
  · split at hb
    · simp only [List.mem_cons, List.not_mem_nil, or_false] at hb; omega
    · split at hb
      · simp only [List.mem_cons, List.not_mem_nil, or_false] at hb; omega
      · simp only [List.mem_cons, List.not_mem_nil, or_false] at hb; omega
theorem wr_big : ∀ l : List Nat, (∀ b ∈ l, 128 ≤ b) → l.flatMap wrByte = l
  | [], _ => rfl
  | a :: r, h => by
    have ha := h a (by simp)
    rw [List.flatMap_cons, wr_big r fun b hb => h b (by simp [hb])]
    unfold wrByte
    rw [if_neg (by omega), if_neg (by omega), if_neg (by omega), if_neg (by omega)]; rfl
theorem enc_one {c : Nat} (h : c < 128) : encodeUtf8 c = [c] := by unfold encodeUtf8; rw [if_pos h]
theorem wr_char (c : Nat) : (encodeUtf8 c).flatMap wrByte = writeCharacter c := by
  by_cases h : c < 128
  · rw [enc_one h]
    show wrByte c ++ [] = _
    rw [List.append_nil]
    unfold wrByte writeCharacter
    by_cases h1 : c = 34
    · subst h1; rfl
    by_cases h2 : c = 92
    · subst h2; rfl
    rw [if_neg (by omega), if_neg h1, if_neg h2, enc_one h]
    by_cases h5 : c < 32
    · rw [hex_is c h5]
    · rw [if_neg h5, if_neg h5]
  · rw [wr_big _ (enc_big (by omega))]
    unfold writeCharacter
    rw [if_neg (by omega), if_neg (by omega), if_neg (by omega), if_neg (by omega), if_neg (by omega)]
theorem wr_string (t : List Nat) : wrStr (encodeAll t) = writeString t := by
  unfold wrStr writeString encodeAll
  rw [List.flatMap_assoc]
  rw [show (fun c => (encodeUtf8 c).flatMap wrByte) = writeCharacter from funext wr_char]
  rfl
theorem dig_core : ∀ (f g n : Nat) (ds : List Char), n < f → n < 10 ^ g → 1 ≤ g → (Nat.toDigitsCore 10 f n ds).map Char.toNat = writeNatLoop g n ++ ds.map Char.toNat
  | 0, _, _, _, h, _, _ => by omega
  | f + 1, 0, _, _, _, _, h => by omega
  | f + 1, g + 1, n, ds, h, hg, _ => by
    have dc : (Nat.digitChar (n % 10)).toNat = 48 + n % 10 := by
      have : n % 10 < 10 := Nat.mod_lt _ (by decide)
      generalize n % 10 = m at this
      have all : ∀ m : Nat, m < 10 → (Nat.digitChar m).toNat = 48 + m := by decide
      exact all m this
    unfold Nat.toDigitsCore writeNatLoop
    by_cases h0 : n < 10
    · rw [if_pos (by omega), if_pos h0, List.map_cons, dc, Nat.mod_eq_of_lt h0]; rfl
    · rw [if_neg (by omega), if_neg h0]
      have hg1 : 1 ≤ g := by
        cases g with
        | zero => rw [Nat.zero_add, Nat.pow_one] at hg; omega
        | succ g => omega
      rw [dig_core f g (n / 10) _ (by omega) (by rw [Nat.pow_succ] at hg; omega) hg1, List.map_cons, dc, List.append_assoc]; rfl
theorem dec_is {n : Nat} (h : n < 10 ^ 20) : decN n = writeNat n := by
  unfold decN
  have e := PySem.W.KIN.signs_num n
  refine e.trans ?_
  unfold Nat.toDigits writeNat
  rw [dig_core (n + 1) 20 n [] (by omega) h (by decide)]
  exact List.append_nil _
theorem dpA_int {j n : Nat} (h : dpA j (.int n)) : n < 10 ^ 20 := by
  have : n < 2 ^ 64 := by cases j <;> exact h
  exact Nat.lt_trans this (by decide)
theorem wr_tx (j : Nat) (t : List Nat) : wrArg j (tx t) = writeString t := by unfold tx; rw [wr_text, wr_string]
theorem map_tx (j : Nat) (ts : List (List Nat)) : (ts.map tx).map (wrArg j) = ts.map writeString := by rw [List.map_map]; exact List.map_congr_left fun t _ => wr_tx j t
theorem codes_ne {s : String} (h : codesOf s ≠ []) (j : Nat) (hd ch : List Arg) (ho : Str) : wrArg (j + 1) (.node (codesOf s) hd ch ho) = formOf s ((hd ++ ch).map (wrArg j)) := by
  unfold wrArg
  rw [if_neg h]
  unfold formOf form
  rw [sep_join]; rfl
theorem wr_cls {j : Nat} {cs : List (List Nat)} (h : dpA j (clsA cs)) : wrArg j (clsA cs) = formOf "class" (cs.map writeString) := by
  cases j with
  | zero => exact (show False from h).elim
  | succ j => unfold clsA; rw [codes_ne (by decide +kernel), List.nil_append, map_tx]
theorem wr_inl : ∀ (j : Nat) (x : Inline) (f : Nat), dpA j (inlA x) → j + 1 ≤ f → wrArg j (inlA x) = writeInlineLoop f x := by
  intro j
  induction j with
  | zero =>
    intro x f hd hf
    obtain ⟨f, rfl⟩ : ∃ g, f = g + 1 := ⟨f - 1, by omega⟩
    cases x <;> first | exact (show False from hd).elim | exact wr_tx _ _
  | succ j IH =>
    intro x f hd hf
    obtain ⟨f, rfl⟩ : ∃ g, f = g + 1 := ⟨f - 1, by omega⟩
    have kids : ∀ ch : List Inline, (∀ y ∈ inlsA ch, dpA j y) → (inlsA ch).map (wrArg j) = ch.map (writeInlineLoop f) := fun ch h => by
      rw [inlsA_map] at h ⊢
      rw [List.map_map]
      exact List.map_congr_left fun y hy => IH y f (h _ (List.mem_map_of_mem hy)) (by omega)
    cases x with
    | text c => exact wr_tx _ _
    | code c => unfold inlA; rw [codes_ne (by decide +kernel)]; show formOf _ [wrArg j (tx c)] = _; rw [wr_tx]; rfl
    | math c => unfold inlA; rw [codes_ne (by decide +kernel)]; show formOf _ [wrArg j (tx c)] = _; rw [wr_tx]; rfl
    | lineBreak => unfold inlA; rw [codes_ne (by decide +kernel)]; rfl
    | noteReference c => unfold inlA; rw [codes_ne (by decide +kernel)]; show formOf _ [wrArg j (tx c)] = _; rw [wr_tx]; rfl
    | reference c => unfold inlA; rw [codes_ne (by decide +kernel)]; show formOf _ [wrArg j (tx c)] = _; rw [wr_tx]; rfl
    | citation ks => unfold inlA; rw [codes_ne (by decide +kernel), List.nil_append, map_tx]; rfl
    | styled s ch =>
      have hk : ∀ y ∈ inlsA ch, dpA j y := fun y hy => hd y (List.mem_append_right _ hy)
      unfold inlA
      show wrArg (j + 1) _ = form (Kh450.nameIn Kh450.styles s) (ch.map (writeInlineLoop f))
      unfold wrArg
      rw [if_neg (by cases s <;> decide +kernel), List.nil_append, kids ch hk]
      unfold form
      rw [sep_join]; rfl
    | link t ch =>
      have hk : ∀ y ∈ inlsA ch, dpA j y := fun y hy => hd y (List.mem_append_right _ hy)
      unfold inlA; rw [codes_ne (by decide +kernel), List.map_append, kids ch hk]
      show formOf _ (wrArg j (tx t) :: _) = _; rw [wr_tx]; rfl
    | image t ch =>
      have hk : ∀ y ∈ inlsA ch, dpA j y := fun y hy => hd y (List.mem_append_right _ hy)
      unfold inlA; rw [codes_ne (by decide +kernel), List.map_append, kids ch hk]
      show formOf _ (wrArg j (tx t) :: _) = _; rw [wr_tx]; rfl
    | span cs ch =>
      have hk : ∀ y ∈ inlsA ch, dpA j y := fun y hy => hd y (List.mem_append_right _ hy)
      have hc : dpA j (clsA cs) := hd _ (List.mem_append_left _ (List.mem_singleton.mpr rfl))
      unfold inlA; rw [codes_ne (by decide +kernel), List.map_append, kids ch hk]
      show formOf _ (wrArg j (clsA cs) :: _) = _; rw [wr_cls hc]; rfl
theorem wr_inls {j : Nat} {ch : List Inline} (h : ∀ y ∈ inlsA ch, dpA j y) (hj : j ≤ 16) : (inlsA ch).map (wrArg j) = writeInlines ch := by
  unfold writeInlines
  rw [inlsA_map] at h ⊢
  rw [List.map_map]
  exact List.map_congr_left fun y hy => wr_inl j y 17 (h _ (List.mem_map_of_mem hy)) (by omega)
theorem itm (j f : Nat) {items : List (List Block)} (hk : ∀ y ∈ itemsA items, dpA j y) (kids : ∀ (i : Nat), i ≤ j → ∀ ch : List Block, (∀ y ∈ blksA ch, dpA i y) → (blksA ch).map (wrArg i) = ch.map (writeBlockLoop f)) :
    (itemsA items).map (wrArg j) = items.map fun item => formOf "item" (item.map (writeBlockLoop f)) := by
  rw [itemsA_map] at hk ⊢
  rw [List.map_map]
  refine List.map_congr_left fun x hx => ?_
  have h1 := hk _ (List.mem_map_of_mem hx)
  cases j with
  | zero => exact (show False from h1).elim
  | succ i =>
    have h2 : ∀ y ∈ blksA x, dpA i y := fun y hy => h1 y (List.mem_append_right _ hy)
    show wrArg (i + 1) (itemA x) = _
    unfold itemA
    rw [codes_ne (by decide +kernel), List.nil_append, kids i (by omega) x h2]
theorem wr_blk : ∀ (j : Nat) (b : Block) (f : Nat), dpA j (blkA b) → j ≤ f → j ≤ 16 → wrArg j (blkA b) = writeBlockLoop f b := by
  intro j
  induction j using Nat.strongRecOn with
  | ind j IH =>
  intro b f hd hf hj
  cases j with
  | zero => cases b <;> exact (show False from hd).elim
  | succ j =>
  obtain ⟨f, rfl⟩ : ∃ g, f = g + 1 := ⟨f - 1, by omega⟩
  have kids : ∀ (i : Nat), i ≤ j → ∀ ch : List Block, (∀ y ∈ blksA ch, dpA i y) → (blksA ch).map (wrArg i) = ch.map (writeBlockLoop f) := fun i hi ch h => by
    rw [blksA_map] at h ⊢
    rw [List.map_map]
    exact List.map_congr_left fun y hy => IH i (by omega) y f (h _ (List.mem_map_of_mem hy)) (by omega) (by omega)
  cases b with
  | paragraph c =>
    have hk : ∀ y ∈ inlsA c, dpA j y := fun y hy => hd y (List.mem_append_right _ hy)
    unfold blkA; rw [codes_ne (by decide +kernel), List.nil_append, wr_inls hk (by omega)]; rfl
  | heading l i c =>
    have hk : ∀ y ∈ inlsA c, dpA j y := fun y hy => hd y (List.mem_append_right _ hy)
    have hl : dpA j (.int l) := hd _ (List.mem_append_left _ (by simp))
    unfold blkA; rw [codes_ne (by decide +kernel), List.map_append, wr_inls hk (by omega)]
    show formOf _ (wrArg j (.int l) :: wrArg j (tx i) :: _) = _; rw [wr_tx, wr_int, dec_is (dpA_int hl)]; rfl
  | code l c => unfold blkA; rw [codes_ne (by decide +kernel)]; show formOf _ [wrArg j (tx l), wrArg j (tx c)] = _; rw [wr_tx, wr_tx]; rfl
  | formula l c => unfold blkA; rw [codes_ne (by decide +kernel)]; show formOf _ [wrArg j (tx l), wrArg j (tx c)] = _; rw [wr_tx, wr_tx]; rfl
  | rule => unfold blkA; rw [codes_ne (by decide +kernel)]; rfl
  | quote ch =>
    have hk : ∀ y ∈ blksA ch, dpA j y := fun y hy => hd y (List.mem_append_right _ hy)
    unfold blkA; rw [codes_ne (by decide +kernel), List.nil_append, kids j (Nat.le_refl _) ch hk]; rfl
  | bullets items =>
    have hk : ∀ y ∈ itemsA items, dpA j y := fun y hy => hd y (List.mem_append_right _ hy)
    unfold blkA; rw [codes_ne (by decide +kernel), List.nil_append, itm j f hk kids]; rfl
  | numbers s items =>
    have hk : ∀ y ∈ itemsA items, dpA j y := fun y hy => hd y (List.mem_append_right _ hy)
    have hl : dpA j (.int s) := hd _ (List.mem_append_left _ (by simp))
    unfold blkA; rw [codes_ne (by decide +kernel), List.map_append, itm j f hk kids]
    show formOf _ (wrArg j (.int s) :: _) = _; rw [wr_int, dec_is (dpA_int hl)]; rfl
  | terms es =>
    have hk : ∀ y ∈ entriesA es, dpA j y := fun y hy => hd y (List.mem_append_right _ hy)
    unfold blkA; rw [codes_ne (by decide +kernel), List.nil_append]
    show formOf _ _ = formOf "terms" _
    congr 1
    rw [entriesA_map] at hk ⊢
    rw [List.map_map]
    refine List.map_congr_left fun e he => ?_
    have h1 := hk _ (List.mem_map_of_mem he)
    cases j with
    | zero => exact (show False from h1).elim
    | succ i =>
      have h2 : dpA i (.node [] [] (inlsA e.1) "inline") := h1 _ (List.mem_append_left _ (by simp))
      have h3 : ∀ y ∈ blksA e.2, dpA i y := fun y hy => h1 y (List.mem_append_right _ hy)
      show wrArg (i + 1) (entryA e) = _
      unfold entryA
      rw [codes_ne (by decide +kernel), List.map_append, kids i (by omega) e.2 h3]
      show formOf _ (wrArg i (.node [] [] (inlsA e.1) "inline") :: _) = _
      cases i with
      | zero => exact (show False from h2).elim
      | succ i =>
        have h4 : ∀ y ∈ inlsA e.1, dpA i y := fun y hy => h2 y (List.mem_append_right _ hy)
        have : wrArg (i + 1) (.node [] [] (inlsA e.1) "inline") = [40] ++ separated (writeInlines e.1) ++ [41] := by
          unfold wrArg
          rw [if_pos rfl, List.nil_append, List.nil_append, wr_inls h4 (by omega), sep_join]; rfl
        rw [this]; rfl
  | table id cap als rows =>
    have hc : dpA j (.node (codesOf "caption") [] (inlsA cap) "inline") := hd _ (List.mem_append_left _ (by simp))
    have hk : ∀ y ∈ rows.map rowA, dpA j y := fun y hy => hd y (List.mem_append_right _ hy)
    unfold blkA; rw [codes_ne (by decide +kernel), List.map_append]
    cases j with
    | zero => exact (show False from hc).elim
    | succ i =>
      have h4 : ∀ y ∈ inlsA cap, dpA i y := fun y hy => hc y (List.mem_append_right _ hy)
      have e1 : wrArg (i + 1) (.node (codesOf "caption") [] (inlsA cap) "inline") = formOf "caption" (writeInlines cap) := by
        rw [codes_ne (by decide +kernel), List.nil_append, wr_inls h4 (by omega)]
      have e2 : wrArg (i + 1) (.node (codesOf "align") [] (als.map fun a => Arg.sym (Kh450.nameIn Kh450.alignments a)) "alignment") = formOf "align" (als.map (Kh450.nameIn Kh450.alignments)) := by
        rw [codes_ne (by decide +kernel), List.nil_append, List.map_map]
        congr 1
        exact List.map_congr_left fun a _ => wr_sym i _
      have e3 : (rows.map rowA).map (wrArg (i + 1)) = rows.map fun row => formOf "row" (row.map fun cell => formOf "cell" (writeInlines cell)) := by
        rw [List.map_map]
        refine List.map_congr_left fun r hr => ?_
        have h1 := hk _ (List.mem_map_of_mem hr)
        show wrArg (i + 1) (rowA r) = _
        unfold rowA at h1 ⊢
        rw [codes_ne (by decide +kernel), List.nil_append, List.map_map]
        congr 1
        refine List.map_congr_left fun c hc => ?_
        have h2 : dpA i (.node (codesOf "cell") [] (inlsA c) "inline") := h1 _ (List.mem_append_right _ (List.mem_map_of_mem hc))
        show wrArg i _ = _
        cases i with
        | zero => exact (show False from h2).elim
        | succ i =>
          have h5 : ∀ y ∈ inlsA c, dpA i y := fun y hy => h2 y (List.mem_append_right _ hy)
          rw [codes_ne (by decide +kernel), List.nil_append, wr_inls h5 (by omega)]
      rw [e3]
      show formOf _ (wrArg (i + 1) (tx id) :: wrArg (i + 1) (.node (codesOf "caption") [] (inlsA cap) "inline") :: wrArg (i + 1) (.node (codesOf "align") [] (als.map fun a => Arg.sym (Kh450.nameIn Kh450.alignments a)) "alignment") :: _) = _
      rw [wr_tx, e1, e2]; rfl
  | figure id t cap =>
    have hk : ∀ y ∈ inlsA cap, dpA j y := fun y hy => hd y (List.mem_append_right _ hy)
    unfold blkA; rw [codes_ne (by decide +kernel), List.map_append, wr_inls hk (by omega)]
    show formOf _ (wrArg j (tx id) :: wrArg j (tx t) :: _) = _; rw [wr_tx, wr_tx]; rfl
  | group cs ch =>
    have hk : ∀ y ∈ blksA ch, dpA j y := fun y hy => hd y (List.mem_append_right _ hy)
    have hc : dpA j (clsA cs) := hd _ (List.mem_append_left _ (List.mem_singleton.mpr rfl))
    unfold blkA; rw [codes_ne (by decide +kernel), List.map_append, kids j (Nat.le_refl _) ch hk]
    show formOf _ (wrArg j (clsA cs) :: _) = _; rw [wr_cls hc]; rfl
  | note l ch =>
    have hk : ∀ y ∈ blksA ch, dpA j y := fun y hy => hd y (List.mem_append_right _ hy)
    unfold blkA; rw [codes_ne (by decide +kernel), List.map_append, kids j (Nat.le_refl _) ch hk]
    show formOf _ (wrArg j (tx l) :: _) = _; rw [wr_tx]; rfl
theorem write_join : ∀ l : List (List Nat), Kh450.joinTexts [10] l = match l with
    | [] => []
    | first :: rest => first ++ rest.flatMap fun b => 10 :: b
  | [] => rfl
  | [a] => by show a = a ++ []; rw [List.append_nil]
  | a :: b :: r => by
    show a ++ [10] ++ Kh450.joinTexts [10] (b :: r) = a ++ (10 :: b ++ r.flatMap fun b => 10 :: b)
    rw [write_join (b :: r), List.append_assoc]; rfl
/-- the program's notation of a document is the specification's -/
theorem write_is {d : List Block} (h : ∀ n ∈ d.map blkA, dpA 16 n) : Kh450.joinTexts [10] ((d.map blkA).map (wrArg 16)) = Kh450.write d := by
  rw [write_join, List.map_map]
  have : d.map (wrArg 16 ∘ blkA) = d.map Kh450.writeBlock := List.map_congr_left fun b hb => wr_blk 16 b 17 (h _ (List.mem_map_of_mem hb)) (by decide) (Nat.le_refl _)
  rw [this]; rfl
end Bt

namespace Bt
open PySem
open Kh450 (Read readNode readList readString readAllLoop skipSpace maxDepth collect encodeAll encodeUtf8 takeWhile isDigit isLower isSymbolPart)
/-! ### what is read is written in so many bytes -/
mutual
def szN : Kh450.Node → Nat
  | .symbol _ t => t.length + 1
  | .integer _ v => (decN v).length + 1
  | .string _ t => (wrStr (encodeAll t)).length + 1
  | .list _ items => 3 + szNs items
def szNs : List Kh450.Node → Nat
  | [] => 0
  | n :: r => szN n + szNs r
end
def ND : Nat → Kh450.Node → Prop
  | _, .integer _ v => v < 2 ^ 64
  | 0, .list _ _ => False
  | j + 1, .list _ items => ∀ m ∈ items, ND j m
  | _, _ => True
theorem nat_len : ∀ (g n : Nat), (Kh450.writeNatLoop g n).length ≤ g
  | 0, _ => Nat.le_refl _
  | g + 1, n => by
    unfold Kh450.writeNatLoop
    split
    · show 1 ≤ g + 1; omega
    · have := nat_len g (n / 10)
      rw [List.length_append, List.length_singleton]; omega
theorem dec_len {n : Nat} (h : n < 2 ^ 64) : (decN n).length ≤ 20 := by rw [dec_is (Nat.lt_trans h (by decide))]; exact nat_len 20 n
theorem twk_all (p : Nat → Bool) : ∀ l : List Nat, ∀ x ∈ (takeWhile p l).1, p x = true
  | [], x, h => by cases h
  | b :: r, x, h => by
    unfold takeWhile at h
    split at h
    · rename_i hb
      rcases List.mem_cons.mp h with rfl | h
      · exact hb
      · exact twk_all p r x h
    · cases h
theorem tw_len (p : Nat → Bool) : ∀ l : List Nat, (takeWhile p l).1.length + (takeWhile p l).2.length = l.length
  | [] => rfl
  | b :: r => by
    have := tw_len p r
    unfold takeWhile
    split
    · simp only [List.length_cons]; omega
    · simp
theorem fold_lt : ∀ (l : List Nat) (a : Nat), (∀ x ∈ l, isDigit x = true) → l.foldl (fun n d => 10 * n + (d - 48)) a + 1 ≤ (a + 1) * 10 ^ l.length
  | [], a, _ => by simp
  | d :: r, a, h => by
    have hd := h d (by simp)
    have : d ≤ 57 := by simp [isDigit] at hd; omega
    have ih := fold_lt r (10 * a + (d - 48)) fun x hx => h x (by simp [hx])
    rw [List.foldl_cons, List.length_cons, Nat.pow_succ]
    refine Nat.le_trans ih ?_
    rw [show (a + 1) * (10 ^ r.length * 10) = (10 * a + 10) * 10 ^ r.length by rw [Nat.mul_comm (10 ^ r.length) 10, ← Nat.mul_assoc]; congr 1; omega]
    exact Nat.mul_le_mul_right _ (by omega)
theorem string_cnt : ∀ (fuel : Nat) (l : List Nat) {t : Kh450.Text} {r : List Nat}, readString fuel l = .ok t r → t.length + r.length + 1 ≤ l.length
  | fuel, [], t, r, h => by unfold readString at h; cases h
  | 0, a :: l, t, r, h => by unfold readString at h; cases h
  | fuel + 1, b :: rest, t, r, h => by
    unfold readString at h
    split at h
    · injection h with h1 h2; subst h1 h2; simp
    · split at h
      · split at h
        · cases h
        · split at h
          · cases h
          · rename_i c s e
            obtain ⟨a, s', e2, e3⟩ := bind_ok h
            injection e3 with e4 e3; subst e3 e4
            have := string_cnt fuel _ e2
            have := escape_lt e
            simp only [List.length_cons]; omega
      · split at h
        · cases h
        · split at h
          · cases h
          · rename_i c s e
            obtain ⟨a, s', e2, e3⟩ := bind_ok h
            injection e3 with e4 e3; subst e3 e4
            have := string_cnt fuel _ e2
            have := decode_lt e
            simp only [List.length_cons] at *; omega
theorem byte_len (b : Nat) : (wrByte b).length ≤ 6 := by
  unfold wrByte
  have h : (shHex b).length ≤ 2 := by unfold shHex; split <;> simp
  split
  · show 2 ≤ 6; decide
  · split
    · show 2 ≤ 6; decide
    · split
      · show 2 ≤ 6; decide
      · split
        · rw [List.length_append, List.length_append]; show 3 + _ + 1 ≤ 6; omega
        · show 1 ≤ 6; decide
theorem flat_le {f : Nat → List Nat} {k : Nat} (h : ∀ b, (f b).length ≤ k) : ∀ l : List Nat, (l.flatMap f).length ≤ k * l.length
  | [] => by simp
  | a :: r => by
    have := flat_le h r
    have := h a
    rw [List.flatMap_cons, List.length_append, List.length_cons, Nat.mul_add, Nat.mul_one]; omega
theorem enc_len4 (c : Nat) : (encodeUtf8 c).length ≤ 4 := by
  unfold encodeUtf8
  split
  · show 1 ≤ 4; decide
  · split
    · show 2 ≤ 4; decide
    · split
      · show 3 ≤ 4; decide
      · show 4 ≤ 4; decide
theorem str_len (t : List Nat) : (wrStr (encodeAll t)).length ≤ 24 * t.length + 2 := by
  unfold wrStr encodeAll
  have h1 := flat_le byte_len (t.flatMap encodeUtf8)
  have h2 := flat_le enc_len4 t
  rw [List.length_cons, List.length_append, List.length_singleton]; omega
theorem list_sz {rn : List Nat → Read Kh450.Node} {Pn : Kh450.Node → Prop} (hn : ∀ l n r, rn l = .ok n r → Pn n ∧ szN n + 25 * r.length ≤ 25 * l.length) :
    ∀ (fuel : Nat) (l : List Nat) (ns : List Kh450.Node) (r : List Nat), readList rn fuel l = .ok ns r → (∀ n ∈ ns, Pn n) ∧ szNs ns + 25 * r.length + 25 ≤ 25 * l.length
  | 0, l, ns, r, h => by unfold readList at h; cases h
  | fuel + 1, l, ns, r, h => by
    have hs := skip_len false l
    unfold readList at h
    split at h
    · cases h
    · rename_i rest e
      cases h
      rw [e] at hs
      simp only [List.length_cons] at hs
      exact ⟨fun n hn => (by cases hn), by show 0 + _ + 25 ≤ _; omega⟩
    · rename_i other h1 h2
      obtain ⟨a, s', e2, e3⟩ := bind_ok h
      obtain ⟨a', s'', e4, e5⟩ := bind_ok e3
      cases e5
      have q1 := hn _ _ _ e2
      have q2 := list_sz hn fuel _ _ _ e4
      refine ⟨fun n hn => ?_, by show szN a + szNs a' + _ + 25 ≤ _; omega⟩
      rcases List.mem_cons.mp hn with rfl | hn
      · exact q1.1
      · exact q2.1 n hn
theorem node_sz (total : Nat) : ∀ (depth : Nat) (l : List Nat) (n : Kh450.Node) (r : List Nat), readNode total depth l = .ok n r → ND depth n ∧ szN n + 25 * r.length ≤ 25 * l.length
  | depth, [], n, r, h => by cases depth <;> cases h
  | depth, b :: rest, n, r, h => by
    rw [node_eq] at h
    split at h
    · cases depth with
      | zero => cases h
      | succ depth =>
        obtain ⟨items, s, h1, h2⟩ := bind_ok h
        cases h2
        have := list_sz (Pn := ND depth) (fun l n r h => node_sz total depth l n r h) _ _ _ _ h1
        refine ⟨this.1, ?_⟩
        show 3 + szNs items + _ ≤ _
        rw [List.length_cons]; omega
    · split at h
      · obtain ⟨t, s, h1, h2⟩ := bind_ok h
        cases h2
        have c := string_cnt _ _ h1
        have e := str_len t
        refine ⟨by cases depth <;> exact True.intro, ?_⟩
        show (wrStr (encodeAll t)).length + 1 + _ ≤ _
        rw [List.length_cons]; omega
      · split at h
        · rename_i hb
          simp only at h
          split at h
          · cases h
          · rename_i hh
            cases h
            have h6 : (takeWhile isDigit (b :: rest)).1.length ≤ 6 := by omega
            have f := fold_lt (takeWhile isDigit (b :: rest)).1 0 (twk_all isDigit _)
            have p6 : 10 ^ (takeWhile isDigit (b :: rest)).1.length ≤ 10 ^ 6 := Nat.pow_le_pow_right (by decide) h6
            have hv : (takeWhile isDigit (b :: rest)).1.foldl (fun n d => 10 * n + (d - 48)) 0 < 2 ^ 64 := by omega
            have hl := tw2_lt (p := isDigit) rest hb
            refine ⟨by cases depth <;> exact hv, ?_⟩
            have := dec_len hv
            show (decN _).length + 1 + _ ≤ _
            omega
        · split at h
          · rename_i hb
            cases h
            have hl := tw_len isSymbolPart (b :: rest)
            have h2 := tw2_lt (p := isSymbolPart) (b := b) rest (by simp only [isSymbolPart, hb, Bool.true_or])
            refine ⟨by cases depth <;> exact True.intro, ?_⟩
            show (takeWhile isSymbolPart (b :: rest)).1.length + 1 + _ ≤ _
            omega
          · cases h
theorem all_sz (total : Nat) : ∀ (fuel : Nat) (l : List Nat) (ns : List Kh450.Node) (r : List Nat), readAllLoop total fuel l = .ok ns r → (∀ n ∈ ns, ND 16 n) ∧ szNs ns ≤ 25 * l.length
  | 0, l, ns, r, h => by cases h
  | fuel + 1, l, ns, r, h => by
    have hs := skip_len false l
    unfold readAllLoop at h
    split at h
    · cases h; exact ⟨fun n hn => (by cases hn), Nat.zero_le _⟩
    · obtain ⟨n, s, h1, h2⟩ := bind_ok h
      obtain ⟨ns', s', h3, h4⟩ := bind_ok h2
      cases h4
      have q1 := node_sz total 16 _ _ _ h1
      have q2 := all_sz total fuel s ns' _ h3
      refine ⟨fun m hm => ?_, by show szN n + szNs ns' ≤ _; omega⟩
      rcases List.mem_cons.mp hm with rfl | hm
      · exact q1.1
      · exact q2.1 m hm
end Bt

namespace Bt
open PySem
open Kh450 (collect encodeAll)
/-! ### what the program reads is written in no more bytes than the notation's size -/
def sumBy {α : Type} (f : α → Nat) : List α → Nat
  | [] => 0
  | a :: r => f a + sumBy f r
theorem sz_sum : ∀ l : List Kh450.Node, szNs l = sumBy szN l
  | [] => rfl
  | a :: r => by show szN a + szNs r = szN a + sumBy szN r; rw [sz_sum r]
theorem sumBy_app {α : Type} (f : α → Nat) : ∀ a b : List α, sumBy f (a ++ b) = sumBy f a + sumBy f b
  | [], b => by simp [sumBy]
  | x :: r, b => by
    show f x + sumBy f (r ++ b) = f x + sumBy f r + sumBy f b
    rw [sumBy_app f r b]; omega
theorem sumBy_zip {α β : Type} (f : β → Nat) : ∀ (ks : List α) (as : List β), sumBy (fun y => f y.2) (ks.zip as) = sumBy f (as.take (ks.zip as).length)
  | [], as => by simp [sumBy]
  | k :: ks, [] => by simp [sumBy]
  | k :: ks, a :: as => by
    show f a + sumBy (fun y => f y.2) (ks.zip as) = f a + sumBy f (as.take (ks.zip as).length)
    rw [sumBy_zip f ks as]
def wz (j : Nat) (a : Arg) : Nat := (wrArg j a).length + 1
def Good (j : Nat) (n : Kh450.Node) (a : Arg) : Prop := dpA j a ∧ wz j a ≤ szN n
theorem collect_good {α : Type} {f : α → RA} {wt : α → Nat} {j : Nat} : ∀ {l : List α} {bs : List Arg}, (∀ m b, m ∈ l → f m = .ok b → dpA j b ∧ wz j b ≤ wt m) → collect f l = .ok bs → (∀ b ∈ bs, dpA j b) ∧ sumBy (wz j) bs ≤ sumBy wt l
  | [], bs, _, h => by cases h; exact ⟨fun b hb => (by cases hb), Nat.le_refl _⟩
  | a :: r, bs, hg, h => by
    have h : (f a).bind (fun y => (collect f r).map fun ys => y :: ys) = .ok bs := h
    cases e1 : f a with
    | error y => rw [e1] at h; cases h
    | ok b =>
      rw [e1] at h
      cases e2 : collect f r with
      | error y => rw [e2] at h; cases h
      | ok bs' =>
        rw [e2] at h
        cases h
        have q1 := hg a b (by simp) e1
        have q2 := collect_good (fun m b hm => hg m b (by simp [hm])) e2
        refine ⟨fun x hx => ?_, by show wz j b + sumBy (wz j) bs' ≤ wt a + sumBy wt r; omega⟩
        rcases List.mem_cons.mp hx with rfl | hx
        · exact q1.1
        · exact q2.1 x hx
theorem join_le : ∀ ls : List (List Nat), (Kh450.joinTexts [32] ls).length ≤ sumBy (fun x => x.length + 1) ls
  | [] => Nat.le_refl _
  | [a] => by show a.length ≤ a.length + 1 + 0; omega
  | a :: b :: r => by
    have := join_le (b :: r)
    show (a ++ [32] ++ Kh450.joinTexts [32] (b :: r)).length ≤ a.length + 1 + sumBy (fun x => x.length + 1) (b :: r)
    rw [List.length_append, List.length_append, List.length_singleton]; omega
theorem sum_map (j : Nat) : ∀ l : List Arg, sumBy (fun x : List Nat => x.length + 1) (l.map (wrArg j)) = sumBy (wz j) l
  | [] => rfl
  | a :: r => by show (wrArg j a).length + 1 + sumBy _ (r.map (wrArg j)) = _; rw [sum_map j r]; rfl
theorem node_wz (j : Nat) (s : List Nat) (h c : List Arg) (ho : Str) : wz (j + 1) (.node s h c ho) ≤ 3 + ((if s = [] then 0 else s.length + 1) + (sumBy (wz j) h + sumBy (wz j) c)) := by
  show (40 :: (Kh450.joinTexts [32] ((if s = [] then [] else [s]) ++ (h ++ c).map (wrArg j)) ++ [41])).length + 1 ≤ _
  have a := join_le ((if s = [] then [] else [s]) ++ (h ++ c).map (wrArg j))
  rw [sumBy_app, sum_map, sumBy_app] at a
  have b : sumBy (fun x : List Nat => x.length + 1) (if s = [] then [] else [s]) = if s = [] then 0 else s.length + 1 := by
    by_cases hs : s = []
    · rw [if_pos hs, if_pos hs]; rfl
    · rw [if_neg hs, if_neg hs]; rfl
  rw [b] at a
  rw [List.length_cons, List.length_append, List.length_singleton]
  omega
def IsL (n : Kh450.Node) : Prop := ∃ p items, n = .list p items
/-- the term of a term list is a list where it is asked for -/
def ShOk (s : Shp) (n : Kh450.Node) : Prop := (∀ y ∈ s.1.zip (argsOf n), y.1 = ("inlines" : Str) → IsL y.2) ∧ s.2.1 ≠ ("inlines" : Str)
def RL (j : Nat) : Prop := ∀ J s n a, IsL n → ShOk s n → ND j n → rdList J s n = .ok a → isNode a = true ∧ Good j n a
theorem lookup_memK {α β : Type} [BEq α] [LawfulBEq α] {k : α} {v : β} : ∀ {l : List (α × β)}, l.lookup k = some v → (k, v) ∈ l
  | (a, b) :: r, h => by
    unfold List.lookup at h
    split at h
    · rename_i e
      cases h
      rw [eq_of_beq e]; exact List.mem_cons_self
    · exact List.mem_cons_of_mem _ (lookup_memK h)
theorem zip_fst {α β : Type} {y : α × β} : ∀ {a : List α} {b : List β}, y ∈ a.zip b → y.1 ∈ a := fun h => (List.of_mem_zip (a := y.1) (b := y.2) h).1
theorem bl_no : ∀ p ∈ BLt, ("inlines" : Str) ∉ (shOf p.2).1 ∧ (shOf p.2).2.1 ≠ ("inlines" : Str) := by decide +kernel
theorem il_no : ∀ p ∈ ILt, ("inlines" : Str) ∉ (shOf p.2).1 ∧ (shOf p.2).2.1 ≠ ("inlines" : Str) := by decide +kernel
theorem pt_no : ∀ p ∈ PTt, (("inlines" : Str) ∉ (shOf p.2).1 ∨ (p.1 = ⟨(Kh450.codesOf "term").toArray⟩ ∧ (shOf p.2).1 = [("inlines" : Str)])) ∧ (shOf p.2).2.1 ≠ ("inlines" : Str) := by decide +kernel
theorem nd_str {j p : Nat} {t : List Nat} : dpA j (.text t) := by cases j <;> exact True.intro
theorem good_str {j p : Nat} {t : List Nat} : Good j (.string p t) (.text (encodeAll t)) := ⟨nd_str (p := p), by unfold wz; rw [wr_text]; exact Nat.le_refl _⟩
theorem sym_list {n : Kh450.Node} (h : ¬ IsL n) : symName n = [] := by
  cases n with
  | list p items => exact absurd ⟨p, items, rfl⟩ h
  | _ => rfl
theorem shaped_good {j J : Nat} (H : RL j) {sh : Option (List Str)} {n : Kh450.Node} {a : Arg} (hn : sh ≠ none → IsL n) (hs : ∀ ws, sh = some ws → ("inlines" : Str) ∉ (shOf ws).1 ∧ (shOf ws).2.1 ≠ ("inlines" : Str)) (hd : ND j n) (h : rdShaped (rdList J) sh n = .ok a) : isNode a = true ∧ Good j n a := by
  unfold rdShaped at h
  cases sh with
  | none => cases h
  | some ws =>
    simp only at h
    split at h
    · cases h
    · split at h
      · cases h
      · have q := hs ws rfl
        exact H J _ n a (hn (by simp)) ⟨fun y hy e => absurd (e ▸ zip_fst hy) q.1, q.2⟩ hd h
theorem block_good {j J : Nat} (H : RL j) {n : Kh450.Node} {a : Arg} (hd : ND j n) (h : rdBlock (rdList J) n = .ok a) : isNode a = true ∧ Good j n a := by
  refine shaped_good H (fun z => ?_) (fun ws e => bl_no _ (lookup_memK e)) hd h
  by_cases hl : IsL n
  · exact hl
  · rw [sym_list hl] at z
    exact absurd (by decide +kernel) z
theorem inline_good {j J : Nat} (H : RL j) {n : Kh450.Node} {a : Arg} (hd : ND j n) (h : rdInline (rdList J) n = .ok a) : Good j n a := by
  have other : rdShaped (rdList J) (ILt.lookup ⟨(symName n).toArray⟩) n = .ok a → Good j n a := fun h => by
    refine (shaped_good H (fun z => ?_) (fun ws e => il_no _ (lookup_memK e)) hd h).2
    by_cases hl : IsL n
    · exact hl
    · rw [sym_list hl] at z
      exact absurd (by decide +kernel) z
  cases n with
  | string p t => cases h; exact good_str
  | symbol p t => exact other h
  | integer p t => exact other h
  | list p t => exact other h
theorem part_list {z : List Nat} {n : Kh450.Node} (h : partOk z n = true) : IsL n := by
  unfold partOk at h
  split at h
  · exact ⟨_, _, rfl⟩
  · cases h
theorem part_sh {z : List Nat} {n : Kh450.Node} (h : partOk z n = true) : ShOk (shOf ((PTt.lookup ⟨z.toArray⟩).getD [])) n := by
  cases e : PTt.lookup ⟨z.toArray⟩ with
  | none => exact ⟨fun y hy => absurd (zip_fst hy) (by simp [shOf]), by decide +kernel⟩
  | some ws =>
    have q := pt_no _ (lookup_memK e)
    refine ⟨fun y hy e1 => ?_, q.2⟩
    rcases q.1 with q1 | ⟨q1, q2⟩
    · exact absurd (e1 ▸ zip_fst hy) q1
    · have hz : z = Kh450.codesOf "term" := by
        have q1 : (⟨z.toArray⟩ : Str) = ⟨(Kh450.codesOf "term").toArray⟩ := q1
        have := (str_eq_list _ _).mp q1
        exact this
      unfold partOk at h
      split at h
      · rename_i p t args
        rw [hz] at h
        have h2 : headList args = true := by simpa using (Bool.and_eq_true_iff.mp h).2
        have hy : y ∈ ([("inlines" : Str)] : List Str).zip args := by
          have hy : y ∈ (shOf ws).1.zip args := hy
          rw [show (shOf ws).1 = [("inlines" : Str)] from q2] at hy
          exact hy
        cases args with
        | nil => cases hy
        | cons m r =>
          have hy : y = (("inlines" : Str), m) := by simpa using hy
          rw [hy]
          have h3 : isListN m = true := h2
          cases m with
          | list p items => exact ⟨_, _, rfl⟩
          | _ => cases h3
      · cases h
theorem part_good {j J : Nat} (H : RL j) {z : List Nat} {n : Kh450.Node} {a : Arg} (hd : ND j n) (h : rdPart (rdList J) z n = .ok a) : Good j n a := by
  unfold rdPart at h
  split at h
  · rename_i hp
    cases e : rdList J (shOf ((PTt.lookup ⟨z.toArray⟩).getD [])) n with
    | error y => rw [e] at h; cases h
    | ok part =>
      rw [e] at h
      have h : (if z = Kh450.codesOf "align" ∧ childrenOf part = [] then (.error (8, n.position) : RA) else .ok part) = .ok a := h
      split at h
      · cases h
      · cases h
        exact (H J _ n a (part_list hp) (part_sh hp) hd e).2
  · cases h
theorem row_good {j J m : Nat} (H : RL j) {n : Kh450.Node} {a : Arg} (hd : ND j n) (h : rdRow (rdList J) m n = .ok a) : Good j n a := by
  unfold rdRow at h
  split at h
  · split at h
    · exact part_good H hd h
    · cases h
  · cases h
theorem arg_good {j J : Nat} (IH : ∀ i, i ≤ j → RL i) {k : Str} {n : Kh450.Node} {a : Arg} (hk : k = ("inlines" : Str) → IsL n) (hd : ND j n) (h : rdArgument (rdList J) k n = .ok a) : Good j n a := by
  have H := IH j (Nat.le_refl _)
  unfold rdArgument at h
  split at h
  · exact (block_good H hd h).2
  split at h
  · exact inline_good H hd h
  split at h
  · rename_i hki
    have hk := hk hki
    cases n with
    | list p items =>
      cases j with
      | zero => exact hd.elim
      | succ i =>
        have hd : ∀ m ∈ items, ND i m := hd
        cases e : collect (rdInline (rdList J)) (itemsOf (.list p items)) with
        | error y => rw [e] at h; cases h
        | ok c =>
          rw [e] at h
          cases h
          have q := collect_good (j := i) (wt := szN) (fun m b hm hb => inline_good (IH i (by omega)) (hd m hm) hb) e
          refine ⟨fun x hx => q.1 x (by simpa using hx), ?_⟩
          have w := node_wz i [] [] c "inline"
          rw [if_pos rfl] at w
          have s := sz_sum items
          show wz (i + 1) (.node [] [] c "inline") ≤ 3 + szNs items
          have q2 : sumBy (wz i) c ≤ sumBy szN items := q.2
          have z : sumBy (wz i) [] = 0 := rfl
          omega
    | symbol p t => obtain ⟨_, _, z⟩ := hk; cases z
    | integer p t => obtain ⟨_, _, z⟩ := hk; cases z
    | string p t => obtain ⟨_, _, z⟩ := hk; cases z
  split at h
  · cases n with
    | string p t =>
      unfold rdStr at h
      simp only at h
      split at h
      · cases h; exact good_str
      · cases h
    | symbol p t => cases h
    | integer p t => cases h
    | list p t => cases h
  have int : ∀ p v, n = .integer p v → a = .int v → Good j n a := fun p v e1 e2 => by
    subst e1 e2
    have hv : v < 2 ^ 64 := by cases j <;> exact hd
    exact ⟨by cases j <;> exact hv, by unfold wz; rw [wr_int]; exact Nat.le_refl _⟩
  split at h
  · unfold rdLevel at h
    cases n with
    | integer p v =>
      simp only at h
      split at h
      · cases h
      · cases h; exact int p v rfl rfl
    | symbol p t => cases h
    | string p t => cases h
    | list p t => cases h
  split at h
  · unfold rdStart at h
    cases n with
    | integer p v => cases h; exact int p v rfl rfl
    | symbol p t => cases h
    | string p t => cases h
    | list p t => cases h
  split at h
  · unfold rdAlign at h
    cases n with
    | symbol p t =>
      simp only at h
      split at h
      · cases h
        exact ⟨by cases j <;> exact True.intro, by unfold wz; rw [wr_sym]; exact Nat.le_refl _⟩
      · cases h
    | integer p t => cases h
    | string p t => cases h
    | list p t => cases h
  · exact part_good H hd h
theorem sz_ge (n : Kh450.Node) (p : Nat) (items : List Kh450.Node) (h : n = .list p items) : (if symName n = [] then 0 else (symName n).length + 1) + szNs (argsOf n) + 3 ≤ szN n := by
  subst h
  show _ ≤ 3 + szNs items
  cases items with
  | nil => show 0 + 0 + 3 ≤ 3 + 0; decide
  | cons m r =>
    show _ + szNs r + 3 ≤ 3 + (szN m + szNs r)
    have : (if symName (.list p (m :: r)) = [] then 0 else (symName (.list p (m :: r))).length + 1) ≤ szN m := by
      cases m with
      | symbol q t =>
        show (if t = [] then 0 else t.length + 1) ≤ t.length + 1
        split <;> omega
      | integer q t =>
        have z : symName (.list p (.integer q t :: r)) = [] := rfl
        rw [z, if_pos rfl]; exact Nat.zero_le _
      | string q t =>
        have z : symName (.list p (.string q t :: r)) = [] := rfl
        rw [z, if_pos rfl]; exact Nat.zero_le _
      | list q t =>
        have z : symName (.list p (.list q t :: r)) = [] := rfl
        rw [z, if_pos rfl]; exact Nat.zero_le _
    omega
theorem rl_good : ∀ j, RL j := by
  intro j
  induction j using Nat.strongRecOn with
  | ind j IH =>
  intro J s n a hl hs hd h
  obtain ⟨p, items, rfl⟩ := hl
  cases j with
  | zero => exact hd.elim
  | succ j =>
  cases J with
  | zero => cases h
  | succ J =>
  have hd : ∀ m ∈ items, ND j m := hd
  have IH' : ∀ i, i ≤ j → RL i := fun i hi => IH i (by omega)
  have hm : ∀ m ∈ argsOf (.list p items), ND j m := fun m hm => hd m (List.mem_of_mem_drop hm)
  unfold rdList at h
  cases e1 : collect (fun y : Str × Kh450.Node => rdArgument (rdList J) y.1 y.2) (s.1.zip (argsOf (.list p items))) with
  | error y => rw [e1] at h; cases h
  | ok head =>
    rw [e1] at h
    have q1 := collect_good (j := j) (wt := fun y : Str × Kh450.Node => szN y.2) (fun y b hy hb => arg_good IH' (hs.1 y hy) (hm y.2 (List.of_mem_zip (a := y.1) (b := y.2) hy).2) hb) e1
    rw [sumBy_zip] at q1
    have hlen := collect_len _ e1
    have tl : ∀ c, (if s.2.1 = ("row" : Str) then collect (rdRow (rdList J) ((head.getLast?.map childrenOf).getD []).length) ((argsOf (.list p items)).drop head.length)
        else collect (rdArgument (rdList J) s.2.1) ((argsOf (.list p items)).drop head.length)) = .ok c → (∀ b ∈ c, dpA j b) ∧ sumBy (wz j) c ≤ sumBy szN ((argsOf (.list p items)).drop head.length) := fun c hc => by
      split at hc
      · exact collect_good (wt := szN) (fun m b hm2 hb => row_good (IH' j (Nat.le_refl _)) (hm m (List.mem_of_mem_drop hm2)) hb) hc
      · exact collect_good (wt := szN) (fun m b hm2 hb => arg_good IH' (fun z => absurd z hs.2) (hm m (List.mem_of_mem_drop hm2)) hb) hc
    have h : ((if s.2.1 = ("row" : Str) then collect (rdRow (rdList J) ((head.getLast?.map childrenOf).getD []).length) ((argsOf (.list p items)).drop head.length)
        else collect (rdArgument (rdList J) s.2.1) ((argsOf (.list p items)).drop head.length)).map fun c => Arg.node (symName (.list p items)) head c s.2.1) = .ok a := h
    generalize (if s.2.1 = ("row" : Str) then collect (rdRow (rdList J) ((head.getLast?.map childrenOf).getD []).length) ((argsOf (.list p items)).drop head.length)
        else collect (rdArgument (rdList J) s.2.1) ((argsOf (.list p items)).drop head.length)) = R at h tl
    cases R with
    | error y => cases h
    | ok c =>
      cases h
      have q2 := tl c rfl
      refine ⟨rfl, fun x hx => ?_, ?_⟩
      · rcases List.mem_append.mp hx with hx | hx
        · exact q1.1 x hx
        · exact q2.1 x hx
      · have w := node_wz j (symName (.list p items)) head c s.2.1
        have g := sz_ge (.list p items) p items rfl
        have e := sz_sum (argsOf (.list p items))
        have e2 : sumBy szN (argsOf (.list p items)) = sumBy szN ((argsOf (.list p items)).take head.length) + sumBy szN ((argsOf (.list p items)).drop head.length) := by
          rw [← sumBy_app, List.take_append_drop]
        rw [← hlen] at q1
        have q11 := q1.2
        have q22 := q2.2
        show wz (j + 1) (Arg.node (symName (.list p items)) head c s.2.1) ≤ szN (.list p items)
        omega
/-- what canonical asks of what was read -/
theorem doc_sum {d : List Nat} (hl : d.length ≤ 1000) {ns : List Arg} (h : rdDoc d = .ok ns) : (∀ n ∈ ns, isNode n = true ∧ dpA 16 n) ∧ sumBy (wz 16) ns ≤ 25000 := by
  unfold rdDoc at h
  cases hr : Kh450.readAll d with
  | error k rest => rw [hr] at h; cases h
  | ok ms rest =>
    rw [hr] at h
    have z := all_sz _ _ _ _ _ hr
    have q := collect_good (j := 16) (wt := szN) (fun m b hm hb => (block_good (rl_good 16) (z.1 m hm) hb).2) h
    have nd : ∀ n ∈ ns, isNode n = true := by
      have go : ∀ (l : List Kh450.Node) (bs : List Arg), (∀ m ∈ l, ND 16 m) → collect (rdBlock (rdList 16)) l = .ok bs → ∀ b ∈ bs, isNode b = true := by
        intro l
        induction l with
        | nil => intro bs _ h b hb; cases h; cases hb
        | cons m r ih =>
          intro bs hm h b hb
          have h : (rdBlock (rdList 16) m).bind (fun y => (collect (rdBlock (rdList 16)) r).map fun ys => y :: ys) = .ok bs := h
          cases e1 : rdBlock (rdList 16) m with
          | error y => rw [e1] at h; cases h
          | ok b1 =>
            rw [e1] at h
            cases e2 : collect (rdBlock (rdList 16)) r with
            | error y => rw [e2] at h; cases h
            | ok bs' =>
              rw [e2] at h
              cases h
              rcases List.mem_cons.mp hb with rfl | hb
              · exact (block_good (rl_good 16) (hm m (by simp)) e1).1
              · exact ih bs' (fun x hx => hm x (by simp [hx])) e2 b hb
      exact go ms ns z.1 h
    refine ⟨fun n hn => ⟨nd n hn, q.1 n hn⟩, ?_⟩
    have z2 := z.2
    rw [sz_sum] at z2
    have q2 := q.2
    omega
theorem join10_le : ∀ ls : List (List Nat), (Kh450.joinTexts [10] ls).length ≤ sumBy (fun x => x.length + 1) ls
  | [] => Nat.le_refl _
  | [a] => by show a.length ≤ a.length + 1 + 0; omega
  | a :: b :: r => by
    have := join10_le (b :: r)
    show (a ++ [10] ++ Kh450.joinTexts [10] (b :: r)).length ≤ a.length + 1 + sumBy (fun x => x.length + 1) (b :: r)
    rw [List.length_append, List.length_append, List.length_singleton]; omega
theorem doc_fits {d : List Nat} (hl : d.length ≤ 1000) {ns : List Arg} (h : rdDoc d = .ok ns) : (∀ n ∈ ns, isNode n = true ∧ dpA 16 n) ∧ (Kh450.joinTexts [10] (ns.map (wrArg 16))).length ≤ 900000 := by
  have q := doc_sum hl h
  have j1 := join10_le (ns.map (wrArg 16))
  rw [sum_map] at j1
  exact ⟨q.1, by have := q.2; omega⟩
theorem doc_ok {d : List Nat} (hl : d.length ≤ 1000000) {b : Kh450.Document} (h : Kh450.parse d = .ok b) : rdDoc d = .ok (b.map blkA) := by
  rw [doc_eq hl]; unfold docA; rw [h]; show Except.ok (blksA b) = _; rw [blksA_map]
/-- what canonical answers is what the specification asks -/
theorem can_is (l : List Int) (hl : l.length ≤ 600) : (PyKh450.canonical l).map L2.V.int = (canA (l.map Int.toNat)).map L2.V.int := by
  have hlen : (l.map Int.toNat).length ≤ 1000 := by rw [List.length_map]; omega
  have e : PyKh450.canonical l = Kh450Neutral.integers (Kh450.answer (.canonical (l.map Int.toNat))) := rfl
  rw [e]
  unfold canA
  show (Kh450Neutral.integers (Kh450.withTree (l.map Int.toNat) fun d => Kh450.bytesResult (Kh450.write d))).map L2.V.int = _
  unfold Kh450.withTree
  cases h : Kh450.parse (l.map Int.toNat) with
  | error y =>
    have : rdDoc (l.map Int.toNat) = .error y := by rw [doc_eq (by omega)]; unfold docA; rw [h]; rfl
    rw [this]; rfl
  | ok d =>
    have hd := doc_ok (by omega) h
    have q := doc_fits hlen hd
    rw [hd]
    show ((((Kh450.write d).length : Nat) : Int) :: (Kh450.write d).map Int.ofNat).map L2.V.int = (((Kh450.joinTexts [10] ((d.map blkA).map (wrArg 16))).length :: Kh450.joinTexts [10] ((d.map blkA).map (wrArg 16))).map Int.ofNat).map L2.V.int
    rw [write_is fun n hn => (q.1 n hn).2]; rfl
end Bt

namespace Bt
open PySem PySem.Spec PyProof.Rows L2
/-! ### parts of lists -/
theorem cutC_take (xs : List V) (i j : Nat) : cutV xs (some (i : Int)) (some (j : Int)) = (xs.take j).drop i := by
  unfold cutV
  rw [HT.sIx_nat, HT.sIx_nat, List.drop_take]
  by_cases hi : i ≤ xs.length
  · rw [Nat.min_eq_left hi]
    by_cases hj : j ≤ xs.length
    · rw [Nat.min_eq_left hj]
    · rw [Nat.min_eq_right (by omega), List.take_of_length_le (by rw [List.length_drop]; omega), List.take_of_length_le (by rw [List.length_drop]; omega)]
  · rw [show min i xs.length = xs.length by omega, List.drop_of_length_le (Nat.le_refl xs.length), List.drop_of_length_le (show xs.length ≤ i by omega), List.take_nil, List.take_nil]
theorem cutC_to (xs : List V) (j : Nat) : cutV xs none (some (j : Int)) = xs.take j := by
  unfold cutV
  rw [HT.sIx_none, HT.sIx_nat, List.drop_zero, Nat.sub_zero]
  by_cases hj : j ≤ xs.length
  · rw [Nat.min_eq_left hj]
  · rw [Nat.min_eq_right (by omega), List.take_of_length_le (Nat.le_refl _), List.take_of_length_le (by omega)]
theorem cutC_from (xs : List V) (i : Nat) : cutV xs (some (i : Int)) none = xs.drop i := by
  unfold cutV
  rw [HT.sIx_none, HT.sIx_nat]
  by_cases hi : i ≤ xs.length
  · rw [Nat.min_eq_left hi, List.take_of_length_le (by rw [List.length_drop]; omega)]
  · rw [Nat.min_eq_right (by omega), List.drop_of_length_le (Nat.le_refl _), List.take_nil, List.drop_of_length_le (by omega)]
theorem pairC_take {α β : Type} {R : α → β → Prop} : ∀ (n : Nat) {as : List α} {bs : List β}, Paired R as bs → Paired R (as.take n) (bs.take n)
  | 0, _, _, _ => by rw [List.take_zero, List.take_zero]; exact .nil
  | n + 1, _, _, .nil => .nil
  | n + 1, _, _, .cons h t => .cons h (pairC_take n t)
theorem pairC_drop {α β : Type} {R : α → β → Prop} : ∀ (n : Nat) {as : List α} {bs : List β}, Paired R as bs → Paired R (as.drop n) (bs.drop n)
  | 0, _, _, h => h
  | n + 1, _, _, .nil => .nil
  | n + 1, _, _, .cons _ t => pairC_drop n t
theorem paired_get {α β : Type} {R : α → β → Prop} {as : List α} {vs : List β} {i : Nat} {a : α} (h : Paired R as vs) (ha : as[i]? = some a) : ∃ v, vs[i]? = some v ∧ R a v := by
  have hl := Paired.length h
  have hi : i < vs.length := by have := (List.getElem?_eq_some_iff.mp ha).1; omega
  obtain ⟨a', h1, h2⟩ := Paired.at h (List.getElem?_eq_getElem hi)
  rw [ha] at h1
  cases h1
  exact ⟨_, List.getElem?_eq_getElem hi, h2⟩
theorem args_snoc {CN : Addr} {H : Hp} {ns : List Arg} {vs : List V} {a : Arg} {v : V} (h : ArgsAt CN H ns vs) (ha : ArgAt CN H a v) : ArgsAt CN H (ns ++ [a]) (vs ++ [v]) := ArgsAt.paired ((argsP h).snoc ha)
theorem pairC_app {α β : Type} {R : α → β → Prop} : ∀ {as bs : List α} {xs ys : List β}, Paired R as xs → Paired R bs ys → Paired R (as ++ bs) (xs ++ ys)
  | _, _, _, _, .nil, h => h
  | _, _, _, _, .cons a t, h => .cons a (pairC_app t h)
theorem args_app {CN : Addr} {H : Hp} {ns ms : List Arg} {vs ws : List V} (h : ArgsAt CN H ns vs) (h2 : ArgsAt CN H ms ws) : ArgsAt CN H (ns ++ ms) (vs ++ ws) := ArgsAt.paired (pairC_app (argsP h) (argsP h2))
theorem args_take {CN : Addr} {H : Hp} {ns : List Arg} {vs : List V} (h : ArgsAt CN H ns vs) (n : Nat) : ArgsAt CN H (ns.take n) (vs.take n) := ArgsAt.paired (pairC_take n (argsP h))
theorem args_drop {CN : Addr} {H : Hp} {ns : List Arg} {vs : List V} (h : ArgsAt CN H ns vs) (n : Nat) : ArgsAt CN H (ns.drop n) (vs.drop n) := ArgsAt.paired (pairC_drop n (argsP h))
end Bt

namespace Bt
open PySem
open Kh450 (Inline Block codesOf encodeAll Edit joinEdit differenceLoop commonTable nextRow)
/-! ### the table of common lengths -/
def tabE (xs ys : List (List Nat)) (i j : Nat) : Nat := ((commonTable xs ys).getD i []).getD j 0
theorem getD_drop1 {α : Type} (l : List α) (k : Nat) (d : α) : (l.drop 1).getD k d = l.getD (k + 1) d := by
  cases l with
  | nil => rfl
  | cons a r => rfl
theorem row_at (x : List Nat) : ∀ (ys : List (List Nat)) (below : List Nat) (j : Nat) (y : List Nat), ys[j]? = some y → (nextRow x ys below).getD j 0 = if (x == y) = true then below.getD (j + 1) 0 + 1 else max (below.getD j 0) ((nextRow x ys below).getD (j + 1) 0)
  | [], _, _, _, h => by cases h
  | z :: ys, below, 0, y, h => by
    cases h
    rfl
  | z :: ys, below, j + 1, y, h => by
    have ih := row_at x ys (below.drop 1) j y h
    show (nextRow x ys (below.drop 1)).getD j 0 = if (x == y) = true then below.getD (j + 1 + 1) 0 + 1 else max (below.getD (j + 1) 0) ((nextRow x ys (below.drop 1)).getD (j + 1) 0)
    rw [ih, getD_drop1, getD_drop1]
theorem row_end (x : List Nat) : ∀ (ys : List (List Nat)) (below : List Nat), (nextRow x ys below).getD ys.length 0 = 0
  | [], _ => rfl
  | z :: ys, below => row_end x ys (below.drop 1)
theorem headD_getD {α : Type} (l : List α) (d : α) : l.headD d = l.getD 0 d := by cases l <;> rfl
theorem tabE_zero (x : List Nat) (xs ys : List (List Nat)) (j : Nat) : tabE (x :: xs) ys 0 j = (nextRow x ys ((commonTable xs ys).getD 0 [])).getD j 0 := by
  unfold tabE
  rw [← headD_getD (commonTable xs ys)]; rfl
theorem tabE_succ (x : List Nat) (xs ys : List (List Nat)) (i j : Nat) : tabE (x :: xs) ys (i + 1) j = tabE xs ys i j := rfl
theorem tab_rec : ∀ (xs ys : List (List Nat)) (i j : Nat) (x y : List Nat), xs[i]? = some x → ys[j]? = some y → tabE xs ys i j = if (x == y) = true then tabE xs ys (i + 1) (j + 1) + 1 else max (tabE xs ys (i + 1) j) (tabE xs ys i (j + 1))
  | [], _, _, _, _, _, h, _ => by cases h
  | a :: xs, ys, 0, j, x, y, h, hy => by
    cases h
    rw [tabE_zero, row_at a ys _ j y hy, tabE_zero]; rfl
  | a :: xs, ys, i + 1, j, x, y, h, hy => tab_rec xs ys i j x y h hy
theorem tab_bot : ∀ (xs ys : List (List Nat)) (j : Nat), tabE xs ys xs.length j = 0
  | [], ys, j => by
    show (List.replicate (ys.length + 1) 0).getD j 0 = 0
    rw [List.getD_eq_getElem?_getD, List.getElem?_replicate]
    split <;> rfl
  | a :: xs, ys, j => tab_bot xs ys j
theorem tab_right : ∀ (xs ys : List (List Nat)) (i : Nat), tabE xs ys i ys.length = 0
  | [], ys, 0 => tab_bot [] ys _
  | [], ys, i + 1 => rfl
  | a :: xs, ys, 0 => by rw [tabE_zero]; exact row_end a ys _
  | a :: xs, ys, i + 1 => tab_right xs ys i
/-! ### steps: a kind (0 kept, 1 removed, 2 inserted) and a block -/
def stepsL (tb : Nat → Nat → Nat) : Nat → Nat → Nat → List (List Nat × Block) → List (List Nat × Block) → List (Nat × Block)
  | 0, _, _, _, _ => []
  | f + 1, i, j, xs, ys => match xs, ys with
    | [], [] => []
    | x :: xs', [] => (1, x.2) :: stepsL tb f (i + 1) j xs' []
    | [], y :: ys' => (2, y.2) :: stepsL tb f i (j + 1) [] ys'
    | x :: xs', y :: ys' => if (x.1 == y.1) = true then (0, x.2) :: stepsL tb f (i + 1) (j + 1) xs' ys'
      else if tb i (j + 1) ≤ tb (i + 1) j then (1, x.2) :: stepsL tb f (i + 1) j xs' (y :: ys')
      else (2, y.2) :: stepsL tb f i (j + 1) (x :: xs') ys'
def edit1 (s : Nat × Block) : Edit := if s.1 = 0 then .keep 1 else if s.1 = 1 then .remove 1 else .insert [s.2]
theorem steps_edits (table : List (List Nat)) : ∀ (f i j : Nat) (xs ys : List (List Nat × Block)), differenceLoop table f i j xs ys = (stepsL (fun p q => (table.getD p []).getD q 0) f i j xs ys).foldr (fun s r => joinEdit (edit1 s) r) []
  | 0, _, _, _, _ => rfl
  | f + 1, i, j, [], [] => rfl
  | f + 1, i, j, x :: xs', [] => by
    show joinEdit (.remove 1) (differenceLoop table f (i + 1) j xs' []) = joinEdit (edit1 (1, x.2)) _
    rw [steps_edits table f]; rfl
  | f + 1, i, j, [], y :: ys' => by
    show joinEdit (.insert [y.2]) (differenceLoop table f i (j + 1) [] ys') = joinEdit (edit1 (2, y.2)) _
    rw [steps_edits table f]; rfl
  | f + 1, i, j, x :: xs', y :: ys' => by
    show (if (x.1 == y.1) = true then joinEdit (.keep 1) (differenceLoop table f (i + 1) (j + 1) xs' ys')
      else if (table.getD i []).getD (j + 1) 0 ≤ (table.getD (i + 1) []).getD j 0 then joinEdit (.remove 1) (differenceLoop table f (i + 1) j xs' (y :: ys'))
      else joinEdit (.insert [y.2]) (differenceLoop table f i (j + 1) (x :: xs') ys')) = _
    rw [steps_edits table f, steps_edits table f, steps_edits table f]
    simp only [stepsL]
    split
    · rfl
    · split <;> rfl
theorem steps_left (tb : Nat → Nat → Nat) : ∀ (f i j : Nat) (xs : List (List Nat × Block)), xs.length ≤ f → stepsL tb f i j xs [] = xs.map fun x => (1, x.2)
  | 0, i, j, [], _ => rfl
  | 0, i, j, x :: xs, h => by simp at h
  | f + 1, i, j, [], _ => rfl
  | f + 1, i, j, x :: xs, h => by
    show (1, x.2) :: stepsL tb f (i + 1) j xs [] = _
    rw [steps_left tb f (i + 1) j xs (by simpa using h)]; rfl
theorem steps_right (tb : Nat → Nat → Nat) : ∀ (f i j : Nat) (ys : List (List Nat × Block)), ys.length ≤ f → stepsL tb f i j [] ys = ys.map fun y => (2, y.2)
  | 0, i, j, [], _ => rfl
  | 0, i, j, y :: ys, h => by simp at h
  | f + 1, i, j, [], _ => rfl
  | f + 1, i, j, y :: ys, h => by
    show (2, y.2) :: stepsL tb f i (j + 1) [] ys = _
    rw [steps_right tb f i (j + 1) ys (by simpa using h)]; rfl
theorem steps_len (tb : Nat → Nat → Nat) : ∀ (f i j : Nat) (xs ys : List (List Nat × Block)), (stepsL tb f i j xs ys).length ≤ xs.length + ys.length
  | 0, _, _, _, _ => Nat.zero_le _
  | f + 1, i, j, [], [] => Nat.zero_le _
  | f + 1, i, j, x :: xs', [] => by
    have := steps_len tb f (i + 1) j xs' []
    show (stepsL tb f (i + 1) j xs' []).length + 1 ≤ _
    simp only [List.length_cons, List.length_nil] at *; omega
  | f + 1, i, j, [], y :: ys' => by
    have := steps_len tb f i (j + 1) [] ys'
    show (stepsL tb f i (j + 1) [] ys').length + 1 ≤ _
    simp only [List.length_cons, List.length_nil] at *; omega
  | f + 1, i, j, x :: xs', y :: ys' => by
    have h1 := steps_len tb f (i + 1) (j + 1) xs' ys'
    have h2 := steps_len tb f (i + 1) j xs' (y :: ys')
    have h3 := steps_len tb f i (j + 1) (x :: xs') ys'
    simp only [stepsL]
    simp only [List.length_cons] at *
    split
    · simp only [List.length_cons]; omega
    · split <;> simp only [List.length_cons] <;> omega
/-! ### steps of one kind that follow one another are one edit -/
def groups : Nat → List (Nat × Block) → List (Nat × List Block)
  | 0, _ => []
  | _ + 1, [] => []
  | f + 1, s :: r => (s.1, s.2 :: (r.takeWhile fun t => decide (t.1 = s.1)).map (·.2)) :: groups f (r.dropWhile fun t => decide (t.1 = s.1))
def editOf (g : Nat × List Block) : Edit := if g.1 = 0 then .keep g.2.length else if g.1 = 1 then .remove g.2.length else .insert g.2
def kindE : Edit → Nat
  | .keep _ => 0
  | .remove _ => 1
  | .insert _ => 2
def kd3 (k : Nat) : Nat := if k = 0 then 0 else if k = 1 then 1 else 2
theorem kind_editOf (g : Nat × List Block) : kindE (editOf g) = kd3 g.1 := by
  unfold editOf kd3
  split
  · rfl
  · split <;> rfl
theorem join_new (s : Nat × Block) (r : List Edit) (h : ∀ e ∈ r.head?, kindE e ≠ kd3 s.1) : joinEdit (edit1 s) r = editOf (s.1, [s.2]) :: r := by
  unfold edit1 editOf kd3 at *
  cases r with
  | nil =>
    split
    · rfl
    · split <;> rfl
  | cons e r =>
    have h := h e rfl
    split
    · rename_i c
      rw [if_pos c] at h
      cases e with
      | keep n => exact absurd rfl h
      | _ => rfl
    · rename_i c
      rw [if_neg c] at h
      split
      · rename_i c2
        rw [if_pos c2] at h
        cases e with
        | remove n => exact absurd rfl h
        | _ => rfl
      · rename_i c2
        rw [if_neg c2] at h
        cases e with
        | insert n => exact absurd rfl h
        | _ => rfl
theorem join_same (s : Nat × Block) (bs : List Block) (r : List Edit) : joinEdit (edit1 s) (editOf (s.1, bs) :: r) = editOf (s.1, s.2 :: bs) :: r := by
  unfold edit1 editOf
  by_cases c : s.1 = 0
  · simp only [if_pos c, joinEdit, List.length_cons]; rw [Nat.add_comm]
  · by_cases c2 : s.1 = 1
    · simp only [if_neg c, if_pos c2, joinEdit, List.length_cons]; rw [Nat.add_comm]
    · simp only [if_neg c, if_neg c2, joinEdit, List.singleton_append]
theorem foldr_run (k : Nat) (R : List Edit) (hR : ∀ e ∈ R.head?, kindE e ≠ kd3 k) : ∀ (b : Block) (run : List (Nat × Block)), (∀ t ∈ run, t.1 = k) → ((k, b) :: run).foldr (fun s r => joinEdit (edit1 s) r) R = editOf (k, b :: run.map (·.2)) :: R
  | b, [], _ => join_new (k, b) R hR
  | b, (k', b') :: run, h => by
    obtain rfl : k' = k := h _ List.mem_cons_self
    have ih := foldr_run k' R hR b' run fun t ht => h t (List.mem_cons_of_mem _ ht)
    show joinEdit (edit1 (k', b)) (((k', b') :: run).foldr (fun s r => joinEdit (edit1 s) r) R) = _
    rw [ih]
    exact join_same (k', b) _ R
theorem groups_head : ∀ (f : Nat) (r : List (Nat × Block)), ∀ g ∈ (groups f r).head?, ∃ t ∈ r.head?, t.1 = g.1
  | 0, _, g, h => by cases h
  | f + 1, [], g, h => by cases h
  | f + 1, s :: r, g, h => by
    have h : some (s.1, s.2 :: (r.takeWhile fun t => decide (t.1 = s.1)).map (·.2)) = some g := h
    cases h
    exact ⟨s, rfl, rfl⟩
theorem dropWhile_head {α : Type} (p : α → Bool) : ∀ (l : List α), ∀ x ∈ (l.dropWhile p).head?, p x = false
  | [], x, h => by cases h
  | a :: r, x, h => by
    by_cases hp : p a = true
    · rw [List.dropWhile_cons_of_pos hp] at h; exact dropWhile_head p r x h
    · rw [List.dropWhile_cons_of_neg hp] at h
      cases h
      exact Bool.eq_false_iff.mpr hp
theorem mem_takeWhile' {α : Type} (p : α → Bool) : ∀ (l : List α), ∀ x ∈ l.takeWhile p, p x = true
  | [], x, h => by cases h
  | a :: r, x, h => by
    by_cases hp : p a = true
    · rw [List.takeWhile_cons_of_pos hp] at h
      rcases List.mem_cons.mp h with rfl | h
      · exact hp
      · exact mem_takeWhile' p r x h
    · rw [List.takeWhile_cons_of_neg hp] at h; cases h
def kdOk (s : Nat × Block) : Prop := s.1 < 3
theorem steps_kd (tb : Nat → Nat → Nat) : ∀ (f i j : Nat) (xs ys : List (List Nat × Block)), ∀ s ∈ stepsL tb f i j xs ys, s.1 < 3
  | 0, _, _, _, _, s, h => by cases h
  | f + 1, i, j, [], [], s, h => by cases h
  | f + 1, i, j, x :: xs', [], s, h => by
    rcases List.mem_cons.mp (show s ∈ (1, x.2) :: stepsL tb f (i + 1) j xs' [] from h) with rfl | h
    · simp
    · exact steps_kd tb f _ _ _ _ s h
  | f + 1, i, j, [], y :: ys', s, h => by
    rcases List.mem_cons.mp (show s ∈ (2, y.2) :: stepsL tb f i (j + 1) [] ys' from h) with rfl | h
    · simp
    · exact steps_kd tb f _ _ _ _ s h
  | f + 1, i, j, x :: xs', y :: ys', s, h => by
    simp only [stepsL] at h
    split at h
    · rcases List.mem_cons.mp h with rfl | h
      · simp
      · exact steps_kd tb f _ _ _ _ s h
    · split at h
      · rcases List.mem_cons.mp h with rfl | h
        · simp
        · exact steps_kd tb f _ _ _ _ s h
      · rcases List.mem_cons.mp h with rfl | h
        · simp
        · exact steps_kd tb f _ _ _ _ s h
theorem kd3_of {k : Nat} (h : k < 3) : kd3 k = k := by
  unfold kd3
  split
  · omega
  · split <;> omega
theorem groups_edits : ∀ (f : Nat) (l : List (Nat × Block)), (∀ s ∈ l, s.1 < 3) → l.length ≤ f → l.foldr (fun s r => joinEdit (edit1 s) r) [] = (groups f l).map editOf
  | 0, [], _, _ => rfl
  | 0, s :: r, _, h => by simp at h
  | f + 1, [], _, _ => rfl
  | f + 1, (k, b) :: r, hk, h => by
    have hlen : (r.dropWhile fun t => decide (t.1 = k)).length ≤ r.length := (List.dropWhile_sublist _).length_le
    have hk2 : ∀ s ∈ r.dropWhile (fun t => decide (t.1 = k)), s.1 < 3 := fun s hs => hk s (List.mem_cons_of_mem _ ((List.dropWhile_sublist _).mem hs))
    have ih := groups_edits f (r.dropWhile fun t => decide (t.1 = k)) hk2 (by simp only [List.length_cons] at h; omega)
    have e : (k, b) :: r = ((k, b) :: r.takeWhile fun t => decide (t.1 = k)) ++ r.dropWhile fun t => decide (t.1 = k) := by
      rw [List.cons_append, List.takeWhile_append_dropWhile]
    show ((k, b) :: r).foldr _ [] = editOf (k, b :: (r.takeWhile fun t => decide (t.1 = k)).map (·.2)) :: (groups f (r.dropWhile fun t => decide (t.1 = k))).map editOf
    conv => lhs; rw [e]
    rw [List.foldr_append, ih]
    refine foldr_run k _ (fun e he => ?_) b _ fun t ht => of_decide_eq_true (mem_takeWhile' _ _ t ht)
    rw [List.head?_map] at he
    cases hg : (groups f (r.dropWhile fun t => decide (t.1 = k))).head? with
    | none => rw [hg] at he; cases he
    | some g =>
      rw [hg] at he
      cases he
      obtain ⟨t, ht, e2⟩ := groups_head f _ g hg
      have h3 := of_decide_eq_false (dropWhile_head _ _ t ht)
      have ht2 : t ∈ r.dropWhile (fun t => decide (t.1 = k)) := List.mem_of_mem_head? ht
      rw [kind_editOf, kd3_of (by rw [← e2]; exact hk2 t ht2), kd3_of (hk _ List.mem_cons_self), ← e2]
      exact h3
/-- the steps of two documents, and their edits -/
def keyed (l : List Block) : List (List Nat × Block) := l.map fun x => (Kh450.writeBlock x, x)
def stepsD (a b : List Block) : List (Nat × Block) := stepsL (tabE (a.map Kh450.writeBlock) (b.map Kh450.writeBlock)) (a.length + b.length + 1) 0 0 (keyed a) (keyed b)
theorem dif_edits (a b : List Block) : Kh450.difference a b = (groups (stepsD a b).length (stepsD a b)).map editOf := by
  rw [← groups_edits _ (stepsD a b) (fun s hs => steps_kd _ _ _ _ _ _ s hs) (Nat.le_refl _)]
  unfold Kh450.difference stepsD
  simp only [List.map_map]
  rw [steps_edits]; rfl
end Bt

namespace Bt
open PySem PySem.Spec PyProof.Rows L2
/-! ### == of lists and tuples of numbers -/
def dN (l : List Nat) : List PyData := l.map fun n : Nat => PyData.int (n : Int)
theorem dp_all {K : PySem.W.Frag} {H : Hp} : ∀ l : List Nat, DpAll K H (nV l) (dN l)
  | [] => .nil
  | n :: r => .cons (.int _) (dp_all r)
theorem dN_cons (n : Nat) (r : List Nat) : dN (n :: r) = .int (n : Int) :: dN r := rfl
theorem eqv_dN : ∀ a b : List Nat, PyData.eqvAll (dN a) (dN b) = decide (a = b)
  | [], [] => by simp [dN, PyData.eqvAll]
  | [], y :: ys => by rw [dN_cons]; simp [dN, PyData.eqvAll]
  | x :: xs, [] => by rw [dN_cons]; simp [dN, PyData.eqvAll]
  | x :: xs, y :: ys => by
    rw [dN_cons, dN_cons, PyData.eqvAll, eqv_dN xs ys, PyData.eqv, Bool.eq_iff_iff, Bool.and_eq_true, decide_eq_true_eq, decide_eq_true_eq, beq_iff_eq, List.cons.injEq]
    constructor
    · rintro ⟨h, h2⟩; exact ⟨by omega, h2⟩
    · rintro ⟨h, h2⟩; exact ⟨by omega, h2⟩
theorem lay_dN : ∀ l : List Nat, PyData.canLayAll0 (dN l) = true
  | [] => by simp [dN, PyData.canLayAll0]
  | n :: r => by rw [dN_cons, PyData.canLayAll0, lay_dN r]; simp [PyData.canLay0]
theorem dep_dN : ∀ l : List Nat, PyData.depthAll (dN l) = 0
  | [] => by simp [dN, PyData.depthAll]
  | n :: r => by rw [dN_cons, PyData.depthAll, dep_dN r]; simp [PyData.depth]
theorem shp_l (l : List Nat) : SeqAt.shaped (.list (dN l)) = true := by
  simp [SeqAt.shaped, PyData.canLay0, lay_dN, PyData.depth, dep_dN]
theorem shp_t (l : List Nat) : SeqAt.shaped (.tuple (dN l)) = true := by
  simp [SeqAt.shaped, PyData.canLay0, lay_dN, PyData.depth, dep_dN]
theorem eqd_l {K : PySem.W.Frag} {H : Hp} {Q : VK} {a b : Addr} {l m : List Nat} (h1 : SqL K H a (nV l)) (h2 : SqL K H b (nV m)) (q : Q (.bl (decide (l = m))) H) : rEqD K (.ref a) (.ref b) H Q :=
  ⟨_, _, .lst h1 (dp_all l), .lst h2 (dp_all m), shp_l l, shp_l m, by rw [PyData.eqv, eqv_dN]; exact q⟩
theorem eqd_t {K : PySem.W.Frag} {H : Hp} {Q : VK} {a b : Addr} {l m : List Nat} (h1 : SqT K H a (nV l)) (h2 : SqT K H b (nV m)) (q : Q (.bl (decide (l = m))) H) : rEqD K (.ref a) (.ref b) H Q :=
  ⟨_, _, .tup h1 (dp_all l), .tup h2 (dp_all m), shp_t l, shp_t m, by rw [PyData.eqv, eqv_dN]; exact q⟩
theorem ned_t {K : PySem.W.Frag} {H : Hp} {Q : VK} {a b : Addr} {l m : List Nat} (h1 : SqT K H a (nV l)) (h2 : SqT K H b (nV m)) (q : Q (.bl (!decide (l = m))) H) : rNeD K (.ref a) (.ref b) H Q :=
  ⟨_, _, .tup h1 (dp_all l), .tup h2 (dp_all m), shp_t l, shp_t m, by rw [PyData.eqv, eqv_dN]; exact q⟩
end Bt

namespace Bt
open PySem PySem.Spec PyProof.Rows L2
local macro_rules | `(tactic| walk_at "sx") => `(tactic| simp only [cxK, tTru, rLen, rListOf, rTupOf, tRet, tRetN, tChain, tRng, tCB, tCons, tNil, tC, tVar, tOp, tUn, tTest, tB, tAnd, tOr, tNot, tIfS, tSeq, tIf, tOrV, tAndV, tNotV, tCall, tSl, tPart, tNoPart, tLst, tTup, tBM, tBM0, rExtendS, iList, iTup, iSeqV, rIxL, rIxT, rSlL, rAppend, rExtend, rCat, rI0, rI, rIxS, rEq, rNe, rU, tAsg, gName, tDrop, tNext, scal, L2.start, List.map_cons, List.map_nil, List.length_cons, List.length_nil, Nat.reduceAdd, Nat.reduceSub, List.replicate_succ, List.replicate_zero, List.append_nil, List.cons_append, List.nil_append, List.getElem?_cons_zero, List.getElem?_cons_succ, Option.some.injEq, exists_eq_left', exists_eq_left, V.int.injEq, V.bl.injEq, V.str.injEq, V.ref.injEq, List.cons.injEq, and_true, true_and, exists_and_left, List.set_cons_zero, List.set_cons_succ, spN1_run, tFC, sFC, sFCAug, tMeth, tMake, sRaise, tErF, rAdd, rPop, tM1, tCallL, Option.some.injEq, HO.ins.injEq])
local macro_rules | `(tactic| walk_at "sm") => `(tactic| (repeat (first | exact Same.refl _ | assumption | (refine Same.trans ?_ (same_new (by assumption))) | (refine Same.trans ?_ (by assumption)))))
section
variable {P : Program} {w : World} {K : PySem.W.Frag} {mg : Str → Option Value} {base : Heap}
/-! ### steps and edits -/
open LamX
open Kh450 (Block codesOf)
theorem mk_node {CN : Addr} {G H : Hp} (sG : Same G H) {z : List Nat} {h c : List Arg} {o : Str} {hb cb : Addr} {hv cv : List V} {Q : VK} (h1 : G hb = some (.lst hv)) (h2 : G cb = some (.lst cv)) (h3 : ArgsAt CN G h hv) (h4 : ArgsAt CN G c cv)
    (q : ∀ v' G' H', Ext G H G' H' → ArgAt CN G' (.node z h c o) v' → Q v' H') : ∀ R dxn, H R = none → H dxn = none → dxn ≠ R → spNode CN [.ref R, .str ⟨z.toArray⟩, .ref hb, .ref cb, .str o] (upd (upd H dxn (.own R)) R (.ins CN dxn [])) (fun v H2 => v = .non ∧ Q (.ref R) H2) E0 := fun R dxn hR hdx ne => by
  refine ⟨R, dxn, _, .ref hb, .ref cb, o, rfl, upd_same, rfl, ?_⟩
  rw [upd_upd]
  have e6 := (Ext.refl sG).made (p := dxn) (o := .own R) hdx
  have hR6 : upd H dxn (.own R) R = none := (upd_ne ne.symm).trans hR
  have e7 := e6.made (p := R) (o := .ins CN dxn (ndF ⟨z.toArray⟩ (.ref hb) (.ref cb) o)) hR6
  have up : Same G (upd (upd G dxn (.own R)) R (.ins CN dxn (ndF ⟨z.toArray⟩ (.ref hb) (.ref cb) o))) := (same_new (sG.free hdx)).trans (same_new (e6.gnone hR6))
  refine q (.ref R) _ _ e7 ?_
  simp only [ArgAt]
  exact ⟨R, dxn, hb, cb, hv, cv, rfl, upd_same, up _ _ h1, up _ _ h2, ArgsAt.same up _ _ h3, ArgsAt.same up _ _ h4⟩
def spLeaf (CN : Addr) : Sp := fun vs H Q _ => ∃ (G : Hp) (z : List Nat) (b : Addr) (h : List Arg) (hv : List V), vs = [.str ⟨z.toArray⟩, .ref b] ∧ Same G H ∧ G b = some (.lst hv) ∧ ArgsAt CN G h hv ∧ ∀ v' G' H', Ext G H G' H' → ArgAt CN G' (.node z h [] "") v' → Q v' H'
abbrev s_leaf : Stmt := top 38
theorem sc_leaf : FnScope ["symbol", "head"] ["symbol", "head"] (defScope s_leaf) := ⟨rfl, rfl, rfl, by decide +kernel, rfl, by decide +kernel, by decide +kernel⟩
theorem ok_leaf {CN : Addr} (D : Dn K mg "leaf" s_leaf ["symbol", "head"]) (k_Node : OwnI P w K mg base CX0 1 "Node" CN ["self", "symbol", "head", "children", "holds"] (spNode CN)) :
    OwnOk P w K mg base CX0 3 "leaf" ["symbol", "head"] (spLeaf CN) := by
  refine own_ok D sc_leaf (fun _ _ _ _ h => by obtain ⟨_, _, _, _, _, rfl, _⟩ := h; rfl) (fun f cdv A outer s H vs Q E hr h => ⟨_, (pss_one (ps_ret (pe_new k_Node (hr.mono (by omega)) rfl pass0 (pa_cons (pv 0) (pa_cons (pv 1) (pa_cons (pe_lst pa_nil) (pa_cons pe_str pa_nil))))))), ?_⟩)
  obtain ⟨G, z, b, h, hv, rfl, sG, hb, hh, q⟩ := h
  walk_at "sx"
  refine ⟨by decide, fun p hp => ?_⟩
  have e1 := (Ext.refl sG).made (o := .lst []) hp
  have up := e1.up
  exact mk_node (c := []) e1.sub (up _ _ hb) upd_same (ArgsAt.same up _ _ hh) (by simp only [ArgsAt]) fun v' G' H' e ha => q v' G' H' (e1.trans e) ha
def stS (k : Nat) : Str := if k = 0 then "keep" else if k = 1 then "remove" else "insert"
def stL (k : Nat) : List Nat := if k = 0 then codesOf "keep" else if k = 1 then codesOf "remove" else codesOf "insert"
theorem stS_is (k : Nat) : stS k = ⟨(stL k).toArray⟩ := by
  unfold stS stL
  split
  · decide +kernel
  · split <;> decide +kernel
theorem stS_inj {k l : Nat} (hk : k < 3) (hl : l < 3) : decide (V.str (stS k) = V.str (stS l)) = decide (k = l) := by
  have : ∀ k < 3, ∀ l < 3, decide (stS k = stS l) = decide (k = l) := by decide +kernel
  rw [← this k hk l hl]
  exact dec_eq ⟨fun z => V.str.inj z, fun z => by rw [z]⟩
theorem stS_ins {k : Nat} (hk : k < 3) : decide (V.str (stS k) = V.str (Str.ofString "insert")) = decide (k = 2) := stS_inj (l := 2) hk (by decide)
def stF (z : Str) (b : V) : List (Str × V) := [("symbol", .str z), ("block", b)]
theorem st_sym {z : Str} {b : V} : (stF z b).lookup ("symbol" : Str) = some (V.str z) := rfl
theorem st_blk {z : Str} {b : V} : (stF z b).lookup ("block" : Str) = some b := rfl
def SpAt (CP CN : Addr) (s : Nat × Block) (v : V) (H : Hp) : Prop := ∃ a dx bv, v = .ref a ∧ H a = some (.ins CP dx (stF (stS s.1) bv)) ∧ ArgAt CN H (blkA s.2) bv
theorem SpAt.same {CP CN : Addr} (s : Nat × Block) (v : V) (H H' : Hp) (z : Same H H') (h : SpAt CP CN s v H) : SpAt CP CN s v H' := let ⟨a, dx, b, e, q, r⟩ := h; ⟨a, dx, b, e, z _ _ q, ArgAt.same z _ _ r⟩
def spStepI (CP : Addr) : Sp := fun vs H Q _ => ∃ a dx x y, vs = [.ref a, x, y] ∧ H a = some (.ins CP dx []) ∧ Q .non (upd H a (.ins CP dx [("symbol", x), ("block", y)]))
abbrev s_Step_init : Stmt := inClass (top 77) 0
theorem sc_Step_init : FnScope ["self", "symbol", "block"] ["self", "symbol", "block"] (defScope s_Step_init) := ⟨rfl, rfl, rfl, by decide +kernel, rfl, by decide +kernel, by decide +kernel⟩
theorem ok_Step_init {CP : Addr} (D : DnI K mg "Step" "Step.__init__" CP s_Step_init ["self", "symbol", "block"]) (q_Step_symbol : Kf K CP "symbol") (q_Step_block : Kf K CP "block") :
    OwnI P w K mg base CX0 1 "Step" CP ["self", "symbol", "block"] (spStepI CP) := by
  refine ini_ok D sc_Step_init (fun _ _ _ _ h => by obtain ⟨_, _, _, _, rfl, _⟩ := h; rfl) (fun f cdv A outer s H vs Q E hr h => ⟨_, (pss_cons (ps_fc (K := K) rfl q_Step_symbol (pv 0) (pv 1))
    (pss_one (ps_fc (K := K) rfl q_Step_block (pv 0) (pv 2)))), ?_⟩)
  obtain ⟨a, dx, x, y, rfl, ha, q⟩ := h
  walk_at "sx"
  refine ⟨dx, [], ha, by decide, dx, _, upd_same, (put_len (n := 0) (Nat.le_refl _) (by decide)).2, ?_⟩
  rw [upd_upd]
  exact q
/-- a step is made -/
theorem mk_step {CP CN : Addr} {G H : Hp} (sG : Same G H) {k : Nat} {b : Block} {bv : V} {Q : VK} (hb : ArgAt CN G (blkA b) bv) (q : ∀ v' G' H', Ext G H G' H' → SpAt CP CN (k, b) v' G' → Q v' H') :
    ∀ R dxn, H R = none → H dxn = none → dxn ≠ R → spStepI CP [.ref R, .str (stS k), bv] (upd (upd H dxn (.own R)) R (.ins CP dxn [])) (fun v H2 => v = .non ∧ Q (.ref R) H2) E0 := fun R dxn hR hdx ne => by
  refine ⟨R, dxn, _, _, rfl, upd_same, rfl, ?_⟩
  rw [upd_upd]
  have e6 := (Ext.refl sG).made (p := dxn) (o := .own R) hdx
  have hR6 : upd H dxn (.own R) R = none := (upd_ne ne.symm).trans hR
  have e7 := e6.made (p := R) (o := .ins CP dxn (stF (stS k) bv)) hR6
  have up : Same G (upd (upd G dxn (.own R)) R (.ins CP dxn (stF (stS k) bv))) := (same_new (sG.free hdx)).trans (same_new (e6.gnone hR6))
  exact q (.ref R) _ _ e7 ⟨R, dxn, bv, rfl, upd_same, ArgAt.same up _ _ hb⟩
/-- an edit as a node -/
def editN (g : Nat × List Block) : Arg := if g.1 = 2 then .node (codesOf "insert") [] (g.2.map blkA) "block" else .node (stL g.1) [.int g.2.length] [] ""
def spEditOf (CN : Addr) : Sp := fun vs H Q _ => ∃ (G : Hp) (k : Nat) (bs : List Block) (b : Addr) (xs : List V), vs = [.str (stS k), .ref b] ∧ k < 3 ∧ Same G H ∧ G b = some (.lst xs) ∧ ArgsAt CN G (bs.map blkA) xs ∧ ∀ v' G' H', Ext G H G' H' → ArgAt CN G' (editN (k, bs)) v' → Q v' H'
abbrev s_edit_of : Stmt := top 82
theorem sc_edit_of : FnScope ["symbol", "blocks"] ["symbol", "blocks"] (defScope s_edit_of) := ⟨rfl, rfl, rfl, by decide +kernel, rfl, by decide +kernel, by decide +kernel⟩
theorem ok_edit_of {CN : Addr} (D : Dn K mg "edit_of" s_edit_of ["symbol", "blocks"]) (n_len : mg "len" = none) (k_Node : OwnI P w K mg base CX0 1 "Node" CN ["self", "symbol", "head", "children", "holds"] (spNode CN)) (o_leaf : OwnOk P w K mg base CX0 3 "leaf" ["symbol", "head"] (spLeaf CN)) :
    OwnOk P w K mg base CX0 4 "edit_of" ["symbol", "blocks"] (spEditOf CN) := by
  refine own_ok D sc_edit_of (fun _ _ _ _ h => by obtain ⟨_, _, _, _, _, rfl, _⟩ := h; rfl) (fun f cdv A outer s H vs Q E hr h => ⟨_, (pss_cons (ps_if (pt_cmpR op_eq (pv 0) pe_str (nomark _)) (pss_one (ps_ret (pe_new k_Node (hr.mono (by omega)) rfl pass0 (pa_cons (pv 0) (pa_cons (pe_lst pa_nil) (pa_cons (pv 1) (pa_cons pe_str pa_nil))))))) pss_nil)
    (pss_one (ps_ret (pe_own o_leaf (hr.mono (by omega)) rfl pass0 (pa_cons (pv 0) (pa_cons (pe_lst (pa_cons (pe_callB (kcall_len (K := K) rfl) (by rfl) n_len PySem.boot_len (pa_cons (pv 1) pa_nil)) pa_nil)) pa_nil)))))), ?_⟩)
  obtain ⟨G, k, bs, b, xs, rfl, hk, sG, hb, hx, q⟩ := h
  have hxl := hx.len
  rw [List.length_map] at hxl
  walk_at "sx"
  rw [show decide (stS k = Str.ofString "insert") = decide (k = 2) from (dec_eq ⟨fun z => by rw [z], fun z => V.str.inj z⟩).trans (stS_ins hk)]
  unfold editN at q
  by_cases h2 : k = 2
  · rw [decide_eq_true h2]
    rw [if_pos h2] at q
    subst h2
    refine iteT ⟨by decide, fun p hp => ?_⟩
    have e1 := (Ext.refl sG).made (o := .lst []) hp
    have up := e1.up
    exact mk_node (z := codesOf "insert") (h := []) e1.sub upd_same (up _ _ hb) (by simp only [ArgsAt]) (ArgsAt.same up _ _ hx) fun v' G' H' e ha => q v' G' H' (e1.trans e) ha
  · rw [decide_eq_false h2]
    rw [if_neg h2] at q
    refine iteF ⟨xs, .inl (SqL.of (sG _ _ hb)), by decide, fun p hp => ?_⟩
    have e1 := (Ext.refl sG).made (o := .lst [.int (xs.length : Int)]) hp
    rw [stS_is]
    refine ⟨_, stL k, p, [.int bs.length], _, rfl, e1.sub, upd_same, ?_, fun v' G' H' e ha => q v' G' H' (e1.trans e) ha⟩
    simp only [ArgsAt, ArgAt]
    exact ⟨_, [], by rw [hxl], rfl, rfl⟩
theorem tw_at {α : Type} (p : α → Bool) : ∀ (r : List α) (j : Nat) (t : α), j ≤ (r.takeWhile p).length → r[j]? = some t → (p t = true ↔ j < (r.takeWhile p).length)
  | [], j, t, _, h => by cases h
  | a :: r, 0, t, _, h => by
    cases h
    by_cases hp : p a = true
    · rw [List.takeWhile_cons_of_pos hp]; simp [hp]
    · rw [List.takeWhile_cons_of_neg hp]; simp [hp]
  | a :: r, j + 1, t, hj, h => by
    by_cases hp : p a = true
    · rw [List.takeWhile_cons_of_pos hp] at hj ⊢
      have := tw_at p r j t (by simpa using hj) h
      rw [this]; simp
    · rw [List.takeWhile_cons_of_neg hp] at hj; simp at hj
theorem drop_tw {α : Type} (p : α → Bool) : ∀ r : List α, r.drop (r.takeWhile p).length = r.dropWhile p
  | [] => rfl
  | a :: r => by
    by_cases hp : p a = true
    · rw [List.takeWhile_cons_of_pos hp, List.dropWhile_cons_of_pos hp]; exact drop_tw p r
    · rw [List.takeWhile_cons_of_neg hp, List.dropWhile_cons_of_neg hp]; rfl
theorem take_tw {α : Type} (p : α → Bool) : ∀ r : List α, r.take (r.takeWhile p).length = r.takeWhile p
  | [] => rfl
  | a :: r => by
    by_cases hp : p a = true
    · rw [List.takeWhile_cons_of_pos hp]; show a :: _ = _; rw [take_tw p r]
    · rw [List.takeWhile_cons_of_neg hp]; rfl
theorem paired_um3 {α β γ : Type} {R : β → γ → Prop} {g : α → β} : ∀ {l : List α} {vs : List γ}, Paired R (l.map g) vs → Paired (fun a v => R (g a) v) l vs
  | [], _, h => by cases h; exact .nil
  | a :: r, _, h => by
    cases h with
    | cons h t => exact .cons h (paired_um3 t)
theorem paired_um2 {α β γ : Type} {R : β → γ → Prop} {g : α → β} : ∀ {l : List α} {vs : List γ}, Paired (fun a v => R (g a) v) l vs → Paired R (l.map g) vs
  | _, _, .nil => .nil
  | _, _, .cons h t => .cons h (paired_um2 t)
theorem while_gen {t : TT} {u : TS} {D : Ends} {σ : L2.St} {H : Hp} (h : ∀ D', D' = D → tWhile t u D' σ H) : tWhile t u D σ H := h D rfl
def spJoined2 (CP CN : Addr) : Sp := fun vs H Q _ => ∃ (G : Hp) (b : Addr) (xs : List V) (ss : List (Nat × Block)), vs = [.ref b] ∧ Same G H ∧ G b = some (.lst xs) ∧ Paired (fun s v => SpAt CP CN s v G) ss xs ∧ (∀ s ∈ ss, s.1 < 3) ∧ ss.length ≤ 1000000 ∧
  ∀ v' G' H', Ext G H G' H' → (∃ F ys, v' = .ref F ∧ G' F = some (.lst ys) ∧ ArgsAt CN G' ((groups ss.length ss).map editN) ys) → Q v' H'
abbrev s_joined_edits : Stmt := top 81
theorem sc_joined_edits : FnScope ["steps", "edits", "start", "end", "step"] ["steps"] (defScope s_joined_edits) := ⟨rfl, rfl, rfl, by decide +kernel, rfl, by decide +kernel, by decide +kernel⟩
theorem ok_joined_edits {CP CN : Addr} (D : Dn K mg "joined_edits" s_joined_edits ["steps"]) (n_len : mg "len" = none) (q_Step_symbol : Kf K CP "symbol") (q_Step_block : Kf K CP "block") (o_edit_of : OwnOk P w K mg base CX0 4 "edit_of" ["symbol", "blocks"] (spEditOf CN)) :
    OwnOk P w K mg base CX0 5 "joined_edits" ["steps"] (spJoined2 CP CN) := by
  refine own_ok D sc_joined_edits (fun _ _ _ _ h => by obtain ⟨_, _, _, _, rfl, _⟩ := h; rfl) (fun f cdv A outer s H vs Q E hr h => ⟨_, (pss_cons (ps_set (i := 1) sc_joined_edits.nd rfl (by first | exact Or.inl rfl | exact Or.inr rfl) (pe_lst pa_nil))
    (pss_cons (ps_set (i := 2) sc_joined_edits.nd rfl (by first | exact Or.inl rfl | exact Or.inr rfl) pe_int)
    (pss_cons (ps_while PassesOwn.never (pt_cmpR op_lt (pv 2) (pe_callB (kcall_len (K := K) rfl) (by rfl) n_len PySem.boot_len (pa_cons (pv 0) pa_nil)) (nomark _)) (pss_cons (ps_set (i := 3) sc_joined_edits.nd rfl (by first | exact Or.inl rfl | exact Or.inr rfl) (pe_op op_add (pv 2) pe_int))
    (pss_cons (ps_while PassesOwn.never (PW.pt (pw_and (pt_cmpR op_lt (pv 3) (pe_callB (kcall_len (K := K) rfl) (by rfl) n_len PySem.boot_len (pa_cons (pv 0) pa_nil)) (nomark _)) (pw_and1 (pt_cmpR op_eq (pe_fc (K := K) rfl q_Step_symbol (pe_ix (kix_list (K := K) rfl) (pv 0) (pv 3) (fun _ _ => rfl))) (pe_fc (K := K) rfl q_Step_symbol (pe_ix (kix_list (K := K) rfl) (pv 0) (pv 2) (fun _ _ => rfl))) (nomark _))))) (pss_one (ps_aug (i := 3) sc_joined_edits.nd rfl (by first | exact Or.inl rfl | exact Or.inr rfl) pe_int ip_add)))
    (pss_cons (ps_expr (kpe_bm (K := K) rfl PySem.F.plainAttrs_list PySem.F.slot_list_append PySem.F.type_list_append mt_append (pv 1) (pa_cons (pe_own o_edit_of (hr.mono (by omega)) rfl pass0 (pa_cons (pe_fc (K := K) rfl q_Step_symbol (pe_ix (kix_list (K := K) rfl) (pv 0) (pv 2) (fun _ _ => rfl))) (pa_cons (pe_lc (own := [("step", 4)]) (g := gName 4) (tt := tYes) rfl sc_joined_edits.nd (kpi_list (K := K) rfl (pe_slice (ksl_list (K := K) rfl) (pv 0) (po_some (pv 2)) (po_some (pv 3)))) (blkOk_by (N := ["steps", "edits", "start", "end", "step"]) (sc := defScope s_joined_edits) (by decide +kernel)) (fun _ _ _ _ _ => pg_name (i := 4) sc_joined_edits.nd rfl (Or.inl rfl)) (fun _ _ _ _ _ => pts_nil) (fun _ _ _ _ _ => (pe_fc (K := K) rfl q_Step_block (pv 4)))) pa_nil))) pa_nil)))
    (pss_one (ps_set (i := 2) sc_joined_edits.nd rfl (by first | exact Or.inl rfl | exact Or.inr rfl) (pv 3)))))))
    (pss_one (ps_ret (pv 1)))))), ?_⟩)
  obtain ⟨G, b, xs, ss, rfl, sG, hb, hx, hk, hlen, q⟩ := h
  have hxl := Paired.length hx
  walk_at "sx"
  refine ⟨by decide, fun F hF => ?_⟩
  have e0 : Ext G H G (upd H F (.lst [])) := (Ext.refl sG).priv hF
  refine ⟨fun m σ' H' => ∃ G' st f done ys x3 x4, m = ss.length - st ∧ st ≤ ss.length ∧ σ' = [some (.ref b), some (.ref F), some (.int ((st : Nat) : Int)), x3, x4] ∧ Ext G H G' H' ∧ G' F = none ∧ H' F = some (.lst ys) ∧ ArgsAt CN G' (done.map editN) ys ∧ (ss.drop st).length ≤ f ∧ groups ss.length ss = done ++ groups f (ss.drop st) ∧ done.length ≤ st,
    ⟨_, G, 0, ss.length, [], [], _, _, rfl, Nat.zero_le _, rfl, e0, sG.free hF, upd_same, by simp only [List.map_nil, ArgsAt], by simp, by rw [List.drop_zero]; rfl, Nat.zero_le _⟩, ?_⟩
  rintro m σ' H' ⟨G', st, f, done, ys, x3, x4, rfl, hst, rfl, e, gF, hFl, hys, hf, hg, hdl⟩
  have hbH := e.sub _ _ (e.up _ _ hb)
  walk_at "sx"
  refine ⟨_, .inl (SqL.of hbH), ?_⟩
  by_cases hlt : st < ss.length
  · refine ite2 (fun _ => ?_) (fun z => absurd (decide_eq_true (by omega)) z)
    obtain ⟨s, hs⟩ : ∃ s, ss[st]? = some s := ⟨_, List.getElem?_eq_getElem hlt⟩
    have hdr : ss.drop st = s :: ss.drop (st + 1) := by rw [List.drop_eq_getElem_cons hlt, (List.getElem?_eq_some_iff.mp hs).2]
    have hks := hk s (List.mem_of_getElem? hs)
    obtain ⟨f, rfl⟩ : ∃ g, f = g + 1 := ⟨f - 1, by rw [hdr] at hf; simp only [List.length_cons] at hf; omega⟩
    rw [hdr] at hg hf
    have hrl : (ss.drop (st + 1)).length = ss.length - (st + 1) := List.length_drop
    have hat : ∀ j t, (ss.drop (st + 1))[j]? = some t → ss[st + 1 + j]? = some t := fun j t h => by rw [List.getElem?_drop] at h; exact h
    have hrm : ∀ t ∈ ss.drop (st + 1), t.1 < 3 := fun t ht => hk t (List.mem_of_mem_drop ht)
    generalize hr : ss.drop (st + 1) = r at *
    have hruneq : ∃ run, run = r.takeWhile fun t => decide (t.1 = s.1) := ⟨_, rfl⟩
    obtain ⟨run, hrun⟩ := hruneq
    have hrunl : run.length ≤ r.length := by rw [hrun]; exact (List.takeWhile_sublist _).length_le
    obtain ⟨v, hv, a, dx, bv, rfl, ha, hbv⟩ := paired_get hx hs
    refine ⟨fun σ2 H2 => ∃ G2 st2 f2 done2 ys2 y3 y4, st < st2 ∧ st2 ≤ ss.length ∧ σ2 = [some (.ref b), some (.ref F), some (.int ((st2 : Nat) : Int)), y3, y4] ∧ Ext G H G2 H2 ∧ G2 F = none ∧ H2 F = some (.lst ys2) ∧ ArgsAt CN G2 (done2.map editN) ys2 ∧ (ss.drop st2).length ≤ f2 ∧ groups ss.length ss = done2 ++ groups f2 (ss.drop st2) ∧ done2.length ≤ st2,
      fun σ2 H2 ⟨G2, st2, f2, done2, ys2, y3, y4, h1, h2, h3, h4, h5, h6, h7, h8, h9, h10⟩ => ⟨_, by omega, G2, st2, rfl, h2, f2, done2, ys2, y3, y4, h3, h4, h5, h6, h7, h8, h9, h10⟩, ?_⟩
    refine while_gen fun D' hD' => ?_
    refine ⟨fun m2 σ2 H2 => ∃ j, m2 = r.length - j ∧ j ≤ run.length ∧ σ2 = [some (.ref b), some (.ref F), some (.int ((st : Nat) : Int)), some (.int ((st + 1 + j : Nat) : Int)), x4] ∧ H2 = H', ⟨_, 0, rfl, Nat.zero_le _, rfl, rfl⟩, ?_⟩
    rintro m2 σ2 H2 ⟨j, rfl, hj, rfl, rfl⟩
    have hj2 : run.length ≤ r.length := hrunl
    -- when the inner loop is over
    have fin : j = run.length → D'.nx [some (.ref b), some (.ref F), some (.int ((st : Nat) : Int)), some (.int ((st + 1 + j : Nat) : Int)), x4] H2 := fun hjr => by
      subst hD'
      subst hjr
      walk_at "sx"
      refine ⟨tyL (SqL.of hFl), xs, SqL.of hbH, _, atI_nat hv, a, rfl, dx, _, e.sub _ _ (e.up _ _ ha), _, st_sym, ?_⟩
      have hsl : (ss.take (st + 1 + run.length)).drop st = s :: run := by
        rw [List.drop_take, hdr, show st + 1 + run.length - st = run.length + 1 by omega, List.take_succ_cons, hrun, take_tw]
      have hpx : Paired (fun s v => SpAt CP CN s v G') (s :: run) ((xs.take (st + 1 + run.length)).drop st) := by
        rw [← hsl]
        exact pairC_drop _ (pairC_take _ (paired_same SpAt.same e.up hx))
      have hplen := Paired.length hpx
      rw [List.length_cons] at hplen
      refine ⟨_, rfl, _, rfl, _, rfl, _, rfl, _, rfl, b, xs, rfl, SqL.of hbH, fun p hp => ⟨p, rfl, ⟨_, SqL.of upd_same⟩, fun F2 hF2 => ?_⟩⟩
      rw [cutC_take]
      have e3 : Ext G H G' (upd H2 p (.lst ((xs.take (st + 1 + run.length)).drop st))) := e.priv hp
      have hFp : F ≠ p := ne_of_none hFl hp
      have hF3 : (upd H2 p (.lst ((xs.take (st + 1 + run.length)).drop st))) F = some (.lst ys) := (upd_ne hFp).trans hFl
      have hp3 : (upd H2 p (.lst ((xs.take (st + 1 + run.length)).drop st))) p = some (.lst ((xs.take (st + 1 + run.length)).drop st)) := upd_same
      rw [cutC_take] at hF2
      generalize upd H2 p (.lst ((xs.take (st + 1 + run.length)).drop st)) = H3 at e3 hF3 hp3 hF2 ⊢
      refine lc_of (R := SpAt CP CN) (fun bk v G => ArgAt CN G (blkA bk) v) (fun _ => true) (·.2) (SqL.of hp3) e3.sub hpx (lt_line (by omega)) hF2 SpAt.same (fun _ _ _ _ s h => ArgAt.same s _ _ h) (fun _ => rfl) (fun m x G2 H2 hm e hx Q' k => k _ (Same.refl _)) (fun m x G2 H2 hm e hx _ Q' k => ?_) (fun G5 H5 ys5 e5 hFl5 gF5 hy5 => ?_)
      · obtain ⟨a2, dx2, bv2, rfl, ha2, hbv2⟩ := hx
        exact ⟨_, rfl, a2, dx2, _, _, rfl, e.sub _ _ ha2, st_blk, k _ _ _ (Ext.refl e.sub) hbv2⟩
      · rw [List.filter_eq_self.mpr (fun _ _ => rfl)] at hy5
        have e6 := e5.pub hF2 hFl5
        have gF3 : G' F = none := gF
        have g5 : (upd G5 F2 (.lst ys5)) F = none := e6.stay gF3 hF3
        have hF5 : H5 F = some (.lst ys) := e6.same _ _ hF3
        refine ⟨upd G5 F2 (.lst ys5), s.1, (s :: run).map (·.2), F2, ys5, rfl, hks, e6.sub, upd_same, ArgsAt.same (same_new gF5) _ _ (ArgsAt.paired ?_), fun v6 G6 H6 e7 hv6 => ?_⟩
        · exact paired_um2 hy5
        · have hF6 := e7.same _ _ hF5
          have g6 := e7.stay g5 hF5
          have hyl := hys.len
          rw [List.length_map] at hyl
          refine ⟨ys, hF6, lt_line (by omega), ?_⟩
          have e37 := (e3.trans e6).trans e7
          refine ⟨G6, st + 1 + run.length, by omega, by omega, f, done ++ [(s.1, (s :: run).map (·.2))], ys ++ [v6], _, _, ⟨rfl, rfl, rfl⟩, e37.mut hF g6, g6, upd_same, ?_, ?_, ?_, ?_⟩
          · rw [List.map_append]
            exact args_snoc (ArgsAt.same (e6.up.trans e7.up) _ _ hys) hv6
          · rw [show st + 1 + run.length = st + 1 + run.length from rfl, ← List.drop_drop, hr, List.length_drop]
            simp only [List.length_cons] at hf
            omega
          · rw [← List.drop_drop, hr, hg, List.append_assoc, hrun, drop_tw]; rfl
          · rw [List.length_append]; simp only [List.length_cons, List.length_nil]; omega
    walk_at "sx"
    refine ⟨_, .inl (SqL.of hbH), ?_⟩
    by_cases hjl : st + 1 + j < ss.length
    · refine ite2 (fun _ => ?_) (fun z => absurd (decide_eq_true (by omega)) z)
      obtain ⟨t, ht⟩ : ∃ t, r[j]? = some t := ⟨_, List.getElem?_eq_getElem (by omega)⟩
      obtain ⟨v2, hv2, a2, dx2, bv2, rfl, ha2, _⟩ := paired_get hx (hat j t ht)
      refine ⟨xs, SqL.of hbH, _, atI_nat hv2, a2, rfl, dx2, _, e.sub _ _ (e.up _ _ ha2), _, st_sym, xs, SqL.of hbH, _, atI_nat hv, a, rfl, dx, _, e.sub _ _ (e.up _ _ ha), _, st_sym, rfl, ?_⟩
      rw [stS_inj (hrm t (List.mem_of_getElem? ht)) hks]
      have tw := tw_at (fun t : Nat × Block => decide (t.1 = s.1)) r j t (by rw [← hrun]; exact hj) ht
      rw [← hrun] at tw
      by_cases hts : t.1 = s.1
      · rw [decide_eq_true hts]
        have hj3 : j < run.length := tw.mp (decide_eq_true hts)
        refine iteT ⟨fun σ2 H3 => σ2 = [some (.ref b), some (.ref F), some (.int ((st : Nat) : Int)), some (.int ((st + 1 + (j + 1) : Nat) : Int)), x4] ∧ H3 = H2, ?_, ?_⟩
        · rintro σ2 H3 ⟨rfl, rfl⟩
          exact ⟨r.length - (j + 1), by omega, j + 1, rfl, hj3, rfl, rfl⟩
        · exact ⟨_, rfl, _, _, rfl, rfl, by simp; omega, rfl⟩
      · rw [decide_eq_false hts]
        have hj3 : j = run.length := by
          have : ¬ j < run.length := fun z => hts (of_decide_eq_true (tw.mpr z))
          omega
        exact iteF (fin hj3)
    · refine ite2 (fun z => by rw [decide_eq_true_eq] at z; omega) (fun _ => ?_)
      exact iteF (fin (by omega))
  · refine ite2 (fun z => by rw [decide_eq_true_eq] at z; omega) (fun _ => ?_)
    have hdn : ss.drop st = [] := List.drop_eq_nil_of_le (by omega)
    rw [hdn, show groups f [] = [] by cases f <;> rfl, List.append_nil] at hg
    rw [hg] at q
    exact q _ _ _ (e.pub hF hFl) ⟨F, ys, rfl, upd_same, ArgsAt.same (same_new gF) _ _ hys⟩

end
end Bt

namespace Bt
open PySem PySem.Spec PyProof.Rows L2
local macro_rules | `(tactic| walk_at "sx") => `(tactic| simp only [cxK, tTru, rLen, rListOf, rTupOf, tRet, tRetN, tChain, tRng, tCB, tCons, tNil, tC, tVar, tOp, tUn, tTest, tB, tAnd, tOr, tNot, tIfS, tSeq, tIf, tOrV, tAndV, tNotV, tCall, tSl, tPart, tNoPart, tLst, tTup, tBM, tBM0, rExtendS, iList, iTup, iSeqV, rIxL, rIxT, rSlL, rAppend, rExtend, rCat, rI0, rI, rIxS, rEq, rNe, rU, tAsg, gName, tDrop, tNext, scal, L2.start, List.map_cons, List.map_nil, List.length_cons, List.length_nil, Nat.reduceAdd, Nat.reduceSub, List.replicate_succ, List.replicate_zero, List.append_nil, List.cons_append, List.nil_append, List.getElem?_cons_zero, List.getElem?_cons_succ, Option.some.injEq, exists_eq_left', exists_eq_left, V.int.injEq, V.bl.injEq, V.str.injEq, V.ref.injEq, List.cons.injEq, and_true, true_and, exists_and_left, List.set_cons_zero, List.set_cons_succ, spN1_run, tFC, sFC, sFCAug, tMeth, tMake, sRaise, tErF, rAdd, rPop, tM1, tCallL, Option.some.injEq, HO.ins.injEq])
local macro_rules | `(tactic| walk_at "sm") => `(tactic| (repeat (first | exact Same.refl _ | assumption | (refine Same.trans ?_ (same_new (by assumption))) | (refine Same.trans ?_ (by assumption)))))
section
variable {P : Program} {w : World} {K : PySem.W.Frag} {mg : Str → Option Value} {base : Heap}
/-! ### the table of common lengths -/
open LamX
theorem ixn_nat' {n j : Nat} (hj : j < n) : ixN n (j : Int) = some j := by
  unfold ixN
  rw [if_pos (by omega), if_pos (by omega)]
  simp
def rowV (m : Nat) (f : Nat → Nat) : List V := nV ((List.range (m + 1)).map f)
theorem rowV_len (m : Nat) (f : Nat → Nat) : (rowV m f).length = m + 1 := by unfold rowV; rw [List.length_map, List.length_map, List.length_range]
theorem rowV_at {m j : Nat} (f : Nat → Nat) (h : j ≤ m) : (rowV m f)[j]? = some (.int (f j : Nat)) := by
  unfold rowV
  rw [List.getElem?_map, List.getElem?_map, List.getElem?_range (by omega)]; rfl
theorem rowV_ext {m : Nat} {f g : Nat → Nat} (h : ∀ j, j ≤ m → f j = g j) : rowV m f = rowV m g := by
  unfold rowV
  congr 1
  exact List.map_congr_left fun j hj => h j (by have := List.mem_range.mp hj; omega)
theorem rowV_set {m t v : Nat} (f : Nat → Nat) : (rowV m f).set t (.int (v : Nat)) = rowV m fun j => if j = t then v else f j := by
  refine List.ext_getElem? fun j => ?_
  rw [List.getElem?_set]
  by_cases hj : j ≤ m
  · rw [rowV_at _ hj, rowV_at _ hj, rowV_len]
    by_cases e : t = j
    · rw [if_pos e, if_pos (by omega), if_pos e.symm]
    · rw [if_neg e, if_neg fun z => e z.symm]
  · rw [List.getElem?_eq_none (by rw [rowV_len]; omega), List.getElem?_eq_none (by rw [rowV_len]; omega), rowV_len]
    split
    · rw [if_neg (by omega)]
    · rfl
theorem rowV_zero (m : Nat) : rowV m (fun _ => 0) = (List.replicate (m + 1) [V.int 0]).flatten := by
  unfold rowV
  generalize m + 1 = k
  induction k with
  | zero => rfl
  | succ n ih =>
    rw [List.replicate_succ, List.flatten_cons, ← ih, List.range_succ_eq_map, List.map_cons, List.map_map]; rfl
/-- the rows as they lie -/
structure TabAt (H0 H : Hp) (L : Addr) (rs : List Addr) (n m : Nat) (T : Nat → Nat → Nat) : Prop where
  same : Same H0 H
  tab : H L = some (.lst (rs.map V.ref))
  len : rs.length = n + 1
  nd : rs.Nodup
  out : L ∉ rs
  new : ∀ r ∈ rs, H0 r = none
  newL : H0 L = none
  row : ∀ i r, rs[i]? = some r → H r = some (.lst (rowV m (T i)))
theorem TabAt.ext {H0 H : Hp} {L : Addr} {rs : List Addr} {n m : Nat} {T T' : Nat → Nat → Nat} (h : TabAt H0 H L rs n m T) (e : ∀ i j, i ≤ n → j ≤ m → T i j = T' i j) : TabAt H0 H L rs n m T' :=
  ⟨h.same, h.tab, h.len, h.nd, h.out, h.new, h.newL, fun i r hr => by
    rw [h.row i r hr, rowV_ext fun j hj => e i j (by have := (List.getElem?_eq_some_iff.mp hr).1; have := h.len; omega) hj]⟩
theorem TabAt.go {H0 H H' : Hp} {L : Addr} {rs : List Addr} {n m : Nat} {T : Nat → Nat → Nat} (h : TabAt H0 H L rs n m T) (s : Same H H') : TabAt H0 H' L rs n m T :=
  ⟨h.same.trans s, s _ _ h.tab, h.len, h.nd, h.out, h.new, h.newL, fun i r hr => s _ _ (h.row i r hr)⟩
theorem TabAt.at_ {H0 H : Hp} {L : Addr} {rs : List Addr} {n m i : Nat} {T : Nat → Nat → Nat} (h : TabAt H0 H L rs n m T) (hi : i ≤ n) : ∃ r, rs[i]? = some r ∧ (rs.map V.ref)[i]? = some (.ref r) ∧ H r = some (.lst (rowV m (T i))) := by
  have hl := h.len
  refine ⟨rs[i], List.getElem?_eq_getElem (by omega), ?_, h.row i _ (List.getElem?_eq_getElem (by omega))⟩
  rw [List.getElem?_map, List.getElem?_eq_getElem (by omega)]; rfl
theorem TabAt.set {H0 H : Hp} {L r : Addr} {rs : List Addr} {n m i t v : Nat} {T : Nat → Nat → Nat} (h : TabAt H0 H L rs n m T) (hr : rs[i]? = some r) : TabAt H0 (upd H r (.lst ((rowV m (T i)).set t (.int (v : Nat))))) L rs n m (fun a b => if a = i ∧ b = t then v else T a b) := by
  have hm := List.mem_of_getElem? hr
  have hr0 := h.new r hm
  have hLr : L ≠ r := fun z => h.out (by rw [z]; exact hm)
  refine ⟨fun b o e => ?_, (upd_ne hLr).trans h.tab, h.len, h.nd, h.out, h.new, h.newL, fun a q hq => ?_⟩
  · rw [upd_ne (ne_of_none e hr0)]; exact h.same _ _ e
  · by_cases e : a = i
    · subst e
      rw [hr] at hq
      cases hq
      rw [upd_same, rowV_set]
      congr 2
      exact rowV_ext fun j _ => by by_cases c : j = t <;> simp [c]
    · have hne : q ≠ r := fun z => by
        subst z
        obtain ⟨h1, e1⟩ := List.getElem?_eq_some_iff.mp hr
        obtain ⟨h2, e2⟩ := List.getElem?_eq_some_iff.mp hq
        exact e ((List.getElem_inj h.nd).mp (e2.trans e1.symm))
      rw [upd_ne hne, h.row a q hq]
      congr 2
      exact rowV_ext fun j _ => by simp [e]
def tabL (o n : List (List Nat)) : List (List Nat) := (List.range (o.length + 1)).map fun i => (List.range (n.length + 1)).map fun j => tabE o n i j
theorem pair_of_get {α β : Type} {R : α → β → Prop} : ∀ {as : List α} {vs : List β}, as.length = vs.length → (∀ (i : Nat) a v, as[i]? = some a → vs[i]? = some v → R a v) → Paired R as vs
  | [], [], _, _ => .nil
  | [], _ :: _, h, _ => by cases h
  | _ :: _, [], h, _ => by cases h
  | a :: as, v :: vs, h, f => .cons (f 0 a v rfl rfl) (pair_of_get (by simpa using h) fun i x y h1 h2 => f (i + 1) x y h1 h2)
theorem rows_pub {G H H2 : Hp} {L : Addr} {rs : List Addr} {os ns : List (List Nat)} (e0 : Ext G H G H) (T : TabAt H H2 L rs os.length ns.length (tabE os ns)) : ∃ G2, Ext G H G2 H2 ∧ Lss (tabL os ns) (.ref L) G2 := by
  have step : ∀ k, k ≤ os.length + 1 → ∃ G2, Ext G H G2 H2 ∧ ∀ i r, i < k → rs[i]? = some r → G2 r = some (.lst (rowV ns.length (tabE os ns i))) := by
    intro k
    induction k with
    | zero => exact fun _ => ⟨G, e0.heap T.same, fun i r hi => absurd hi (Nat.not_lt_zero _)⟩
    | succ k ih =>
      intro hk
      obtain ⟨G2, e2, hG2⟩ := ih (by omega)
      obtain ⟨r, hr, _, hrow⟩ := T.at_ (i := k) (by omega)
      refine ⟨_, e2.pub (T.new r (List.mem_of_getElem? hr)) hrow, fun i q hi hq => ?_⟩
      by_cases c : i = k
      · subst c
        rw [hr] at hq
        cases hq
        exact upd_same
      · have hne : q ≠ r := fun z => by
          subst z
          obtain ⟨h1, e1⟩ := List.getElem?_eq_some_iff.mp hr
          obtain ⟨h2, e2⟩ := List.getElem?_eq_some_iff.mp hq
          exact c ((List.getElem_inj T.nd).mp (e2.trans e1.symm))
        rw [upd_ne hne]
        exact hG2 i q (by omega) hq
  obtain ⟨G2, e2, hG2⟩ := step (os.length + 1) (Nat.le_refl _)
  have e3 := e2.pub T.newL T.tab
  refine ⟨_, e3, L, rs.map V.ref, rfl, upd_same, ?_⟩
  have up : ∀ r ∈ rs, ∀ o, G2 r = some o → (upd G2 L (.lst (rs.map V.ref))) r = some o := fun r hr o h => by
    rw [upd_ne fun z => T.out (by rw [← z]; exact hr)]; exact h
  refine pair_of_get ?_ fun i l v hl hv => ?_
  · unfold tabL; rw [List.length_map, List.length_map, List.length_range, T.len]
  · unfold tabL at hl
    rw [List.getElem?_map] at hl hv
    cases hr : rs[i]? with
    | none => rw [hr] at hv; cases hv
    | some r =>
      rw [hr] at hv
      cases hv
      have hil : i < os.length + 1 := by have := (List.getElem?_eq_some_iff.mp hr).1; have := T.len; omega
      rw [List.getElem?_range hil] at hl
      cases hl
      exact ⟨r, rfl, up r (List.mem_of_getElem? hr) _ (hG2 i r hil hr)⟩
def spTab : Sp := fun vs H Q _ => ∃ (G : Hp) (os ns : List (List Nat)) (v1 v2 : V), vs = [v1, v2] ∧ Same G H ∧ Lss os v1 G ∧ Lss ns v2 G ∧ os.length ≤ 900000 ∧ ns.length ≤ 900000 ∧
  ∀ v' G' H', Ext G H G' H' → Lss (tabL os ns) v' G' → Q v' H'
abbrev s_common_lengths : Stmt := top 80
theorem sc_common_lengths : FnScope ["old", "new", "lengths", "here", "there"] ["old", "new"] (defScope s_common_lengths) := ⟨rfl, rfl, rfl, by decide +kernel, rfl, by decide +kernel, by decide +kernel⟩
theorem ok_common_lengths (D : Dn K mg "common_lengths" s_common_lengths ["old", "new"]) (n_len : mg "len" = none) (n_range : mg "range" = none) (n_max : mg "max" = none) :
    OwnOk P w K mg base CX0 1 "common_lengths" ["old", "new"] spTab := by
  refine own_ok D sc_common_lengths (fun _ _ _ _ h => by obtain ⟨_, _, _, _, _, rfl, _⟩ := h; rfl) (fun f cdv A outer s H vs Q E hr h => ⟨_, (pss_cons (ps_setLc (i := 2) (own := [("here", 3)]) (g := gName 3) (tt := tYes) rfl sc_common_lengths.nd rfl rfl (sw_true rfl rfl rfl (by decide +kernel)) (pi_range1 (by rfl) n_range (pa_cons (pe_op op_add (pe_callB (kcall_len (K := K) rfl) (by rfl) n_len PySem.boot_len (pa_cons (pv 0) pa_nil)) pe_int) pa_nil)) (blkOk_by (N := ["old", "new", "lengths", "here", "there"]) (sc := defScope s_common_lengths) (by decide +kernel)) (fun _ _ _ _ _ => pg_name (i := 3) sc_common_lengths.nd rfl (Or.inl rfl)) (fun _ _ _ _ _ => pts_nil) (fun _ _ _ _ _ => (pe_op op_rep (pe_lst (pa_cons pe_int pa_nil)) (pe_op op_add (pe_callB (kcall_len (K := K) rfl) (by rfl) n_len PySem.boot_len (pa_cons (pv 1) pa_nil)) pe_int))))
    (pss_cons (ps_for PassesOwn.never rfl (pi_range3 (by rfl) n_range (pa_cons (pe_op op_sub (pe_callB (kcall_len (K := K) rfl) (by rfl) n_len PySem.boot_len (pa_cons (pv 0) pa_nil)) pe_int) (pa_cons (pe_un un_neg pe_int) (pa_cons (pe_un un_neg pe_int) pa_nil)))) (pg_name (i := 3) sc_common_lengths.nd rfl (by first | exact Or.inl rfl | exact Or.inr rfl))
    (pss_one (ps_for PassesOwn.never rfl (pi_range3 (by rfl) n_range (pa_cons (pe_op op_sub (pe_callB (kcall_len (K := K) rfl) (by rfl) n_len PySem.boot_len (pa_cons (pv 1) pa_nil)) pe_int) (pa_cons (pe_un un_neg pe_int) (pa_cons (pe_un un_neg pe_int) pa_nil)))) (pg_name (i := 4) sc_common_lengths.nd rfl (by first | exact Or.inl rfl | exact Or.inr rfl))
    (pss_one (ps_if (pt_cmpR (kop_eqD (K := K) rfl (Room.units hr)) (pe_ix (kix_list (K := K) rfl) (pv 0) (pv 3) (fun _ _ => rfl)) (pe_ix (kix_list (K := K) rfl) (pv 1) (pv 4) (fun _ _ => rfl)) (nomark _)) (pss_one (ps_asg (pe_op op_add (pe_ix (kix_list (K := K) rfl) (pe_ix (kix_list (K := K) rfl) (pv 2) (pe_op op_add (pv 3) pe_int) (fun _ _ => rfl)) (pe_op op_add (pv 4) pe_int) (fun _ _ => rfl)) pe_int) (pg_sub (pe_ix (kix_list (K := K) rfl) (pv 2) (pv 3) (fun _ _ => rfl)) (pv 4) set_list))) (pss_one (ps_asg (pe_callB (call_max2 rfl) (by rfl) n_max (by decide +kernel) (pa_cons (pe_ix (kix_list (K := K) rfl) (pe_ix (kix_list (K := K) rfl) (pv 2) (pe_op op_add (pv 3) pe_int) (fun _ _ => rfl)) (pv 4) (fun _ _ => rfl)) (pa_cons (pe_ix (kix_list (K := K) rfl) (pe_ix (kix_list (K := K) rfl) (pv 2) (pv 3) (fun _ _ => rfl)) (pe_op op_add (pv 4) pe_int) (fun _ _ => rfl)) pa_nil))) (pg_sub (pe_ix (kix_list (K := K) rfl) (pv 2) (pv 3) (fun _ _ => rfl)) (pv 4) set_list))))))))
    (pss_one (ps_ret (pv 2))))), ?_⟩)
  obtain ⟨G, os, ns, v1, v2, rfl, sG, ⟨a1, xs, rfl, ha1, hp1⟩, ⟨a2, ys, rfl, ha2, hp2⟩, hl1, hl2, q⟩ := h
  have hxl := Paired.length hp1
  have hyl := Paired.length hp2
  have b1 := sG _ _ ha1
  have b2 := sG _ _ ha2
  walk_at "sx"
  simp only [tLc, iRng1]
  walk_at "sx"
  refine ⟨xs, .inl (SqL.of b1), by omega, by omega, fun L hL => ?_⟩
  refine ⟨fun i k H' => k = os.length + 1 - i ∧ i ≤ os.length + 1 ∧ ∃ rs : List Addr, Same H H' ∧ H' L = some (.lst (rs.map V.ref)) ∧ rs.length = i ∧ rs.Nodup ∧ L ∉ rs ∧ (∀ r ∈ rs, H r = none) ∧ ∀ r ∈ rs, H' r = some (.lst (rowV ns.length fun _ => 0)), ⟨_, rfl, Nat.zero_le _, [], same_new hL, upd_same, rfl, List.nodup_nil, (fun z => by cases z), (fun _ z => by cases z), fun _ z => by cases z⟩, ?_⟩
  rintro i k H' ⟨rfl, hi, rs, s1, hLs, hrl, hnd, hLr, hrn, hrows⟩
  by_cases hlt : i < os.length + 1
  · refine .inr ⟨?_, fun H' => ∃ rs : List Addr, Same H H' ∧ H' L = some (.lst (rs.map V.ref)) ∧ rs.length = i + 1 ∧ rs.Nodup ∧ L ∉ rs ∧ (∀ r ∈ rs, H r = none) ∧ ∀ r ∈ rs, H' r = some (.lst (rowV ns.length fun _ => 0)), fun H2 h => ⟨_, by omega, rfl, by omega, h⟩, fun x H2 hy => ?_⟩
    · show i < ((xs.length : Int) + 1).toNat
      omega
    · obtain ⟨rfl, rfl⟩ := hy
      refine ⟨rfl, ?_⟩
      unfold tYes
      refine iteT ⟨by decide, fun p hp => ⟨_, rfl, a2, rfl, ys, .inl (SqL.of (same_new hp _ _ (s1 _ _ b2))), ?_⟩⟩
      have k0 : (0 : Int) ≤ (ys.length : Int) + 1 := by omega
      have k1 : (ys.length : Int) + 1 ≤ 1000001 := by omega
      refine ⟨p, _, [.int 0], rfl, rfl, upd_same, Int.le_trans (by decide) k0, Int.lt_of_le_of_lt k1 (by decide), ?_, fun r hr => ?_⟩
      · rw [List.length_singleton, Nat.one_mul]; exact le_line (by omega)
      · have hpL : p ≠ L := fun z => by rw [z, hLs] at hp; cases hp
        have hLp : (upd H2 p (.lst [V.int 0])) L = some (.lst (rs.map V.ref)) := (upd_ne hpL.symm).trans hLs
        have hrL : r ≠ L := fun z => by rw [z, hLp] at hr; cases hr
        have hr2 : H2 r = none := by
          have hpr : p ≠ r := fun z => by rw [← z, upd_same] at hr; cases hr
          rw [upd_ne hpr.symm] at hr; exact hr
        have hrr : ∀ q ∈ rs, q ≠ r := fun q hq z => by have := hrows q hq; rw [z, hr2] at this; cases this
        have hpr2 : ∀ q ∈ rs, q ≠ p := fun q hq z => by have := hrows q hq; rw [z, hp] at this; cases this
        have sN : Same H (upd (upd (upd H2 p (.lst [V.int 0])) r (.lst (List.replicate ((ys.length : Int) + 1).toNat [V.int 0]).flatten)) L (.lst (rs.map V.ref ++ [.ref r]))) := fun b o e => by
          rw [upd_ne (ne_of_none e hL)]
          exact same_new hr _ _ (same_new hp _ _ (s1 _ _ e))
        refine ⟨rs.map V.ref, (upd_ne hrL.symm).trans hLp, by rw [List.length_map]; exact lt_line (by omega), rs ++ [r], sN, ?_, ?_, ?_, ?_, ?_, ?_⟩
        · rw [upd_same, List.map_append]; rfl
        · rw [List.length_append, hrl]; rfl
        · exact List.nodup_append.mpr ⟨hnd, by simp, fun a ha b hb z => by rw [List.mem_singleton] at hb; subst hb; exact hrr a ha z⟩
        · intro z
          rcases List.mem_append.mp z with z | z
          · exact hLr z
          · rw [List.mem_singleton] at z; exact hrL z.symm
        · intro q hq
          rcases List.mem_append.mp hq with hq | hq
          · exact hrn q hq
          · rw [List.mem_singleton] at hq; subst hq
            cases h : H q with
            | none => rfl
            | some o => rw [s1 _ _ h] at hr2; cases hr2
        · intro q hq
          have hqL : q ≠ L := fun z => by
            rcases List.mem_append.mp hq with hq | hq
            · exact hLr (z ▸ hq)
            · rw [List.mem_singleton] at hq; exact hrL (hq ▸ z)
          rw [upd_ne hqL]
          rcases List.mem_append.mp hq with hq | hq
          · rw [upd_ne (hrr q hq), upd_ne (hpr2 q hq)]; exact hrows q hq
          · rw [List.mem_singleton] at hq; subst hq
            rw [upd_same, rowV_zero, show ((ys.length : Int) + 1).toNat = ns.length + 1 by omega]
  · have hi2 : i = os.length + 1 := by omega
    subst hi2
    refine .inl ⟨show ((xs.length : Int) + 1).toNat ≤ os.length + 1 by omega, ?_⟩
    have T0 : TabAt H H' L rs os.length ns.length fun i j => if os.length - 0 ≤ i then tabE os ns i j else 0 :=
      ⟨s1, hLs, hrl, hnd, hLr, hrn, hL, fun i r hr => by
        have hil := (List.getElem?_eq_some_iff.mp hr).1
        rw [hrows r (List.mem_of_getElem? hr)]
        congr 2
        refine rowV_ext fun j _ => ?_
        split
        · rw [show i = os.length by omega]; exact (tab_bot os ns j).symm
        · rfl⟩
    clear hrows hLs s1 hrn hLr hnd hrl
    have nn0 : -(2 ^ 62 : Int) ≤ (xs.length : Int) - 1 := Int.le_trans (by decide) (show (-1 : Int) ≤ (xs.length : Int) - 1 by omega)
    have nn1 : (xs.length : Int) - 1 < 2 ^ 62 := Int.lt_of_le_of_lt (show (xs.length : Int) - 1 ≤ 1000001 by omega) (by decide)
    have mm0 : -(2 ^ 62 : Int) ≤ (ys.length : Int) - 1 := Int.le_trans (by decide) (show (-1 : Int) ≤ (ys.length : Int) - 1 by omega)
    have mm1 : (ys.length : Int) - 1 < 2 ^ 62 := Int.lt_of_le_of_lt (show (ys.length : Int) - 1 ≤ 1000001 by omega) (by decide)
    have en : ((xs.length : Int) - 1 - -1).toNat = os.length := by omega
    have em : ((ys.length : Int) - 1 - -1).toNat = ns.length := by omega
    have c1 := RgC.neg (j := -1) nn0 nn1 (by decide) (by decide)
    have c2 := RgC.neg (j := -1) mm0 mm1 (by decide) (by decide)
    rw [en] at c1
    rw [em] at c2
    refine ⟨_, rfl, a1, xs, rfl, .inl (SqL.of (T0.same _ _ b1)), _, _, rfl, rfl, _, rfl, _, rfl, _, _, _, _, rfl, c1, for_rangeC (fun k σ' H2 => ∃ x3 x4, σ' = [some (.ref a1), some (.ref a2), some (.ref L), x3, x4] ∧ TabAt H H2 L rs os.length ns.length fun i j => if os.length - k ≤ i then tabE os ns i j else 0) ⟨_, _, rfl, T0⟩ ?_ ?_⟩
    · rintro k σ' H2 hk ⟨x3, x4, rfl, TB⟩
      have ek : (xs.length : Int) - 1 + (k : Nat) * (-1) = ((os.length - 1 - k : Nat) : Int) := by omega
      rw [ek]
      generalize hh : os.length - 1 - k = h
      refine ⟨_, rfl, a2, ys, rfl, .inl (SqL.of (TB.same _ _ b2)), _, _, rfl, rfl, _, rfl, _, rfl, _, _, _, _, rfl, c2, for_rangeC (fun l σ' H2 => ∃ x4, σ' = [some (.ref a1), some (.ref a2), some (.ref L), some (.int ((h : Nat) : Int)), x4] ∧ TabAt H H2 L rs os.length ns.length fun i j => if h < i then tabE os ns i j else if i = h ∧ ns.length - l ≤ j then tabE os ns i j else 0) ⟨_, rfl, TB.ext fun i j hi hj => ?_⟩ ?_ ?_⟩
      · by_cases c : h < i
        · rw [if_pos c, if_pos (by omega)]
        · rw [if_neg c, if_neg (by omega)]
          split
          · rename_i c2
            rw [show j = ns.length by omega]
            exact (tab_right os ns i).symm
          · rfl
      · rintro l σ' H3 hl ⟨x4, rfl, TC⟩
        have el : (ys.length : Int) - 1 + (l : Nat) * (-1) = ((ns.length - 1 - l : Nat) : Int) := by omega
        rw [el]
        generalize ht : ns.length - 1 - l = t
        walk_at "sx"
        have hn0 : h < os.length := by omega
        have hm0 : t < ns.length := by omega
        obtain ⟨o, ho⟩ : ∃ o, os[h]? = some o := ⟨_, List.getElem?_eq_getElem hn0⟩
        obtain ⟨nn, hnn⟩ : ∃ o, ns[t]? = some o := ⟨_, List.getElem?_eq_getElem hm0⟩
        obtain ⟨w1, hw1, q1, rfl, hq1⟩ := paired_get hp1 ho
        obtain ⟨w2, hw2, q2, rfl, hq2⟩ := paired_get hp2 hnn
        have hrec := tab_rec os ns h t o nn ho hnn
        obtain ⟨r1, hr1, hr1', hrow1⟩ := TC.at_ (i := h + 1) (by omega)
        obtain ⟨r0, hr0, hr0', hrow0⟩ := TC.at_ (i := h) (by omega)
        refine ⟨xs, SqL.of (TC.same _ _ b1), _, atI_nat hw1, ys, SqL.of (TC.same _ _ b2), _, atI_nat hw2, eqd_l (SqL.of (TC.same _ _ (sG _ _ hq1))) (SqL.of (TC.same _ _ (sG _ _ hq2))) ⟨_, rfl, ?_⟩⟩
        have fin : ∀ v : Nat, v = tabE os ns h t → ∃ x4, [some (V.ref a1), some (.ref a2), some (.ref L), some (.int ((h : Nat) : Int)), some (.int ((t : Nat) : Int))] = [some (V.ref a1), some (.ref a2), some (.ref L), some (.int ((h : Nat) : Int)), x4] ∧ TabAt H (upd H3 r0 (.lst ((rowV ns.length fun j => if h < h then tabE os ns h j else if h = h ∧ ns.length - l ≤ j then tabE os ns h j else 0).set t (.int (v : Nat))))) L rs os.length ns.length fun i j => if h < i then tabE os ns i j else if i = h ∧ ns.length - (l + 1) ≤ j then tabE os ns i j else 0 := fun v hv => by
          refine ⟨_, rfl, (TC.set (t := t) (v := v) hr0).ext fun i j hi hj => ?_⟩
          by_cases c : i = h ∧ j = t
          · rw [if_pos c, if_neg (by omega), if_pos ⟨c.1, by omega⟩, c.1, c.2]; exact hv
          · rw [if_neg c]
            by_cases c2 : h < i
            · rw [if_pos c2, if_pos c2]
            · rw [if_neg c2, if_neg c2]
              by_cases c3 : i = h
              · have : j ≠ t := fun z => c ⟨c3, z⟩
                by_cases c4 : ns.length - l ≤ j
                · rw [if_pos ⟨c3, c4⟩, if_pos ⟨c3, by omega⟩]
                · rw [if_neg fun z => c4 z.2, if_neg fun z => c4 (by have := z.2; omega)]
              · rw [if_neg fun z => c3 z.1, if_neg fun z => c3 z.1]
        have hE1 : (if h < h + 1 then tabE os ns (h + 1) (t + 1) else if h + 1 = h ∧ ns.length - l ≤ t + 1 then tabE os ns (h + 1) (t + 1) else 0) = tabE os ns (h + 1) (t + 1) := if_pos (by omega)
        have hE2 : (if h < h + 1 then tabE os ns (h + 1) t else if h + 1 = h ∧ ns.length - l ≤ t then tabE os ns (h + 1) t else 0) = tabE os ns (h + 1) t := if_pos (by omega)
        have hE3 : (if h < h then tabE os ns h (t + 1) else if h = h ∧ ns.length - l ≤ t + 1 then tabE os ns h (t + 1) else 0) = tabE os ns h (t + 1) := by rw [if_neg (by omega), if_pos ⟨rfl, by omega⟩]
        have A11 := rowV_at (m := ns.length) (fun j => if h < h + 1 then tabE os ns (h + 1) j else if h + 1 = h ∧ ns.length - l ≤ j then tabE os ns (h + 1) j else 0) (show t + 1 ≤ ns.length by omega)
        have A10 := rowV_at (m := ns.length) (fun j => if h < h + 1 then tabE os ns (h + 1) j else if h + 1 = h ∧ ns.length - l ≤ j then tabE os ns (h + 1) j else 0) (show t ≤ ns.length by omega)
        have A01 := rowV_at (m := ns.length) (fun j => if h < h then tabE os ns h j else if h = h ∧ ns.length - l ≤ j then tabE os ns h j else 0) (show t + 1 ≤ ns.length by omega)
        rw [hE1] at A11
        rw [hE2] at A10
        rw [hE3] at A01
        have hrl0 := rowV_len ns.length (fun j => if h < h then tabE os ns h j else if h = h ∧ ns.length - l ≤ j then tabE os ns h j else 0)
        by_cases heq : o = nn
        · rw [decide_eq_true heq]
          rw [if_pos (by rw [heq]; exact beq_self_eq_true nn)] at hrec
          refine iteT ⟨_, SqL.of TC.tab, _, atI_nat (j := h + 1) hr1', r1, rfl, _, SqL.of hrow1, _, atI_nat (j := t + 1) A11, _, rfl, ?_⟩
          simp only [gSub, rSetL]
          walk_at "sx"
          refine ⟨_, SqL.of TC.tab, _, atI_nat (j := h) hr0', r0, rfl, _, hrow0, t, ixn_nat' (by rw [hrl0]; omega), ?_⟩
          have := fin _ hrec.symm
          obtain ⟨x4, e4, T4⟩ := this
          exact T4
        · rw [decide_eq_false heq]
          rw [if_neg (fun z => heq (eq_of_beq z))] at hrec
          refine iteF ⟨_, SqL.of TC.tab, _, atI_nat (j := h + 1) hr1', r1, rfl, _, SqL.of hrow1, _, atI_nat (j := t) A10, _, SqL.of TC.tab, _, atI_nat (j := h) hr0', r0, rfl, _, SqL.of hrow0, _, atI_nat (j := t + 1) A01, ?_⟩
          have emax : (if (tabE os ns h (t + 1) : Int) > (tabE os ns (h + 1) t : Int) then (tabE os ns h (t + 1) : Int) else (tabE os ns (h + 1) t : Int)) = ((max (tabE os ns (h + 1) t) (tabE os ns h (t + 1)) : Nat) : Int) := by
            by_cases c : tabE os ns h (t + 1) > tabE os ns (h + 1) t
            · rw [if_pos (by omega), Nat.max_eq_right (by omega)]
            · rw [if_neg (by omega), Nat.max_eq_left (by omega)]
          refine ⟨_, _, ⟨rfl, rfl⟩, ?_⟩
          rw [emax]
          simp only [gSub, rSetL]
          walk_at "sx"
          refine ⟨_, SqL.of TC.tab, _, atI_nat (j := h) hr0', r0, rfl, _, hrow0, t, ixn_nat' (by rw [hrl0]; omega), ?_⟩
          have := fin _ hrec.symm
          obtain ⟨x4, e4, T4⟩ := this
          exact T4
      · rintro σ' H3 ⟨x4, rfl, TC⟩
        refine ⟨_, _, rfl, TC.ext fun i j hi hj => ?_⟩
        by_cases c : h < i
        · rw [if_pos c, if_pos (by omega)]
        · rw [if_neg c]
          by_cases c2 : i = h
          · rw [if_pos ⟨c2, by omega⟩, if_pos (by omega)]
          · rw [if_neg (fun z => c2 z.1), if_neg (by omega)]
    · rintro σ' H2 ⟨x3, x4, rfl, TB⟩
      walk_at "sx"
      have TF : TabAt H H2 L rs os.length ns.length (tabE os ns) := TB.ext fun i j hi hj => by rw [if_pos (by omega)]
      obtain ⟨G2, e2, hG2⟩ := rows_pub (Ext.refl sG) TF
      exact q _ _ _ e2 hG2

end
end Bt

namespace Bt
open PySem PySem.Spec PyProof.Rows L2
local macro_rules | `(tactic| walk_at "sx") => `(tactic| simp only [cxK, tTru, rLen, rListOf, rTupOf, tRet, tRetN, tChain, tRng, tCB, tCons, tNil, tC, tVar, tOp, tUn, tTest, tB, tAnd, tOr, tNot, tIfS, tSeq, tIf, tOrV, tAndV, tNotV, tCall, tSl, tPart, tNoPart, tLst, tTup, tBM, tBM0, rExtendS, iList, iTup, iSeqV, rIxL, rIxT, rSlL, rAppend, rExtend, rCat, rI0, rI, rIxS, rEq, rNe, rU, tAsg, gName, tDrop, tNext, scal, L2.start, List.map_cons, List.map_nil, List.length_cons, List.length_nil, Nat.reduceAdd, Nat.reduceSub, List.replicate_succ, List.replicate_zero, List.append_nil, List.cons_append, List.nil_append, List.getElem?_cons_zero, List.getElem?_cons_succ, Option.some.injEq, exists_eq_left', exists_eq_left, V.int.injEq, V.bl.injEq, V.str.injEq, V.ref.injEq, List.cons.injEq, and_true, true_and, exists_and_left, List.set_cons_zero, List.set_cons_succ, spN1_run, tFC, sFC, sFCAug, tMeth, tMake, sRaise, tErF, rAdd, rPop, tM1, tCallL, Option.some.injEq, HO.ins.injEq])
local macro_rules | `(tactic| walk_at "sm") => `(tactic| (repeat (first | exact Same.refl _ | assumption | (refine Same.trans ?_ (same_new (by assumption))) | (refine Same.trans ?_ (by assumption)))))
section
variable {P : Program} {w : World} {K : PySem.W.Frag} {mg : Str → Option Value} {base : Heap}
/-! ### the steps between two documents -/
open LamX
open Kh450 (Block codesOf)
theorem LsS (l : List Nat) (v : V) (H H' : Hp) (s : Same H H') (h : Ls l v H) : Ls l v H' := h.same s
theorem blk_nodeD (b : Block) : isNode (blkA b) = true := by cases b <;> rfl
def keyA (b : Block) : List Nat := wrArg 16 (blkA b)
def keyedA (l : List Block) : List (List Nat × Block) := l.map fun x => (keyA x, x)
def stepsA (a b : List Block) : List (Nat × Block) := stepsL (tabE (a.map keyA) (b.map keyA)) (a.length + b.length + 1) 0 0 (keyedA a) (keyedA b)
theorem tabL_at {os ns : List (List Nat)} {i j : Nat} (hi : i ≤ os.length) (hj : j ≤ ns.length) : ∃ l, (tabL os ns)[i]? = some l ∧ (nV l)[j]? = some (.int (tabE os ns i j : Nat)) := by
  unfold tabL
  refine ⟨_, by rw [List.getElem?_map, List.getElem?_range (by omega)]; rfl, ?_⟩
  rw [List.getElem?_map, List.getElem?_map, List.getElem?_range (by omega)]; rfl
theorem keyedA_drop (l : List Block) (i : Nat) : (keyedA l).drop i = keyedA (l.drop i) := by unfold keyedA; rw [List.map_drop]
theorem keyedA_len (l : List Block) : (keyedA l).length = l.length := by unfold keyedA; rw [List.length_map]
theorem mk_step2 {CP CN : Addr} {G H : Hp} (sG : Same G H) {k : Nat} {b : Block} {bv : V} {P : Addr → Hp → Prop} (hb : ArgAt CN G (blkA b) bv) (q : ∀ R G' H', Ext G H G' H' → SpAt CP CN (k, b) (.ref R) G' → P R H') :
    ∀ R dxn, H R = none → H dxn = none → dxn ≠ R → spStepI CP [.ref R, .str (stS k), bv] (upd (upd H dxn (.own R)) R (.ins CP dxn [])) (fun v H2 => v = .non ∧ P R H2) E0 := fun R dxn hR hdx ne =>
  mk_step (Q := fun v H2 => ∃ R, v = .ref R ∧ P R H2) sG hb (fun v' G' H' e h => by
    obtain ⟨a, _, _, rfl, _⟩ := id h
    exact ⟨a, rfl, q a G' H' e h⟩) R dxn hR hdx ne |> fun h => by
    obtain ⟨a, d, x, y, e1, e2, e3, R', e4, h4⟩ := h
    cases e4
    exact ⟨a, d, x, y, e1, e2, rfl, h4⟩
theorem ex_op {A B : (L2.St → Hp → Prop) → Prop} (N0 : L2.St → Hp → Prop) (hA : A N0) (hB : ∀ N, (∀ σ H, N0 σ H → N σ H) → B N) : ∃ N, A N ∧ B N := ⟨N0, hA, hB N0 fun _ _ h => h⟩
def spSteps (CP CN : Addr) : Sp := fun vs H Q _ => ∃ (G : Hp) (as bs : List Block) (a b : Addr) (xa xb : List V), vs = [.ref a, .ref b] ∧ Same G H ∧ G a = some (.lst xa) ∧ ArgsAt CN G (as.map blkA) xa ∧ G b = some (.lst xb) ∧ ArgsAt CN G (bs.map blkA) xb ∧ as.length ≤ 400000 ∧ bs.length ≤ 400000 ∧
  (∀ x ∈ as, dpA 16 (blkA x) ∧ (keyA x).length ≤ 900000) ∧ (∀ x ∈ bs, dpA 16 (blkA x) ∧ (keyA x).length ≤ 900000) ∧
  ∀ v' G' H', Ext G H G' H' → (∃ F ys, v' = .ref F ∧ G' F = some (.lst ys) ∧ Paired (fun s v => SpAt CP CN s v G') (stepsA as bs) ys) → Q v' H'
abbrev s_steps_between : Stmt := top 79
theorem sc_steps_between : FnScope ["first", "second", "old", "new", "lengths", "steps", "here", "there", "removed", "block"] ["first", "second"] (defScope s_steps_between) := ⟨rfl, rfl, rfl, by decide +kernel, rfl, by decide +kernel, by decide +kernel⟩
theorem ok_steps_between {CP CN : Addr} (D : Dn K mg "steps_between" s_steps_between ["first", "second"]) (n_len : mg "len" = none) (k_Step : OwnI P w K mg base CX0 1 "Step" CP ["self", "symbol", "block"] (spStepI CP)) (o_write_list : OwnOk P w K mg base CX0 36 "write_list" ["node"] (spWrL CN 16)) (o_common_lengths : OwnOk P w K mg base CX0 1 "common_lengths" ["old", "new"] spTab) :
    OwnOk P w K mg base CX0 37 "steps_between" ["first", "second"] (spSteps CP CN) := by
  refine own_ok D sc_steps_between (fun _ _ _ _ h => by obtain ⟨_, _, _, _, _, _, _, rfl, _⟩ := h; rfl) (fun f cdv A outer s H vs Q E hr h => ⟨_, (pss_cons (ps_setLc (i := 2) (own := [("block", 9)]) (g := gName 9) (tt := tYes) rfl sc_steps_between.nd rfl rfl (sw_true rfl rfl rfl (by decide +kernel)) (kpi_list (K := K) rfl (pv 0)) (blkOk_by (N := ["first", "second", "old", "new", "lengths", "steps", "here", "there", "removed", "block"]) (sc := defScope s_steps_between) (by decide +kernel)) (fun _ _ _ _ _ => pg_name (i := 9) sc_steps_between.nd rfl (Or.inl rfl)) (fun _ _ _ _ _ => pts_nil) (fun _ _ _ _ _ => (pe_own o_write_list (hr.mono (by omega)) rfl pass0 (pa_cons (pv 9) pa_nil))))
    (pss_cons (ps_setLc (i := 3) (own := [("block", 9)]) (g := gName 9) (tt := tYes) rfl sc_steps_between.nd rfl rfl (sw_true rfl rfl rfl (by decide +kernel)) (kpi_list (K := K) rfl (pv 1)) (blkOk_by (N := ["first", "second", "old", "new", "lengths", "steps", "here", "there", "removed", "block"]) (sc := defScope s_steps_between) (by decide +kernel)) (fun _ _ _ _ _ => pg_name (i := 9) sc_steps_between.nd rfl (Or.inl rfl)) (fun _ _ _ _ _ => pts_nil) (fun _ _ _ _ _ => (pe_own o_write_list (hr.mono (by omega)) rfl pass0 (pa_cons (pv 9) pa_nil))))
    (pss_cons (ps_set (i := 4) sc_steps_between.nd rfl (by first | exact Or.inl rfl | exact Or.inr rfl) (pe_own o_common_lengths (hr.mono (by omega)) rfl pass0 (pa_cons (pv 2) (pa_cons (pv 3) pa_nil))))
    (pss_cons (ps_set (i := 5) sc_steps_between.nd rfl (by first | exact Or.inl rfl | exact Or.inr rfl) (pe_lst pa_nil))
    (pss_cons (ps_set (i := 6) sc_steps_between.nd rfl (by first | exact Or.inl rfl | exact Or.inr rfl) pe_int)
    (pss_cons (ps_set (i := 7) sc_steps_between.nd rfl (by first | exact Or.inl rfl | exact Or.inr rfl) pe_int)
    (pss_cons (ps_while PassesOwn.never (PW.pt (pw_and (pt_cmpR op_lt (pv 6) (pe_callB (kcall_len (K := K) rfl) (by rfl) n_len PySem.boot_len (pa_cons (pv 2) pa_nil)) (nomark _)) (pw_and1 (pt_cmpR op_lt (pv 7) (pe_callB (kcall_len (K := K) rfl) (by rfl) n_len PySem.boot_len (pa_cons (pv 3) pa_nil)) (nomark _))))) (pss_one (ps_if (pt_cmpR (kop_eqD (K := K) rfl (Room.units hr)) (pe_ix (kix_list (K := K) rfl) (pv 2) (pv 6) (fun _ _ => rfl)) (pe_ix (kix_list (K := K) rfl) (pv 3) (pv 7) (fun _ _ => rfl)) (nomark _)) (pss_cons (ps_expr (kpe_bm (K := K) rfl PySem.F.plainAttrs_list PySem.F.slot_list_append PySem.F.type_list_append mt_append (pv 5) (pa_cons (pe_new k_Step (hr.mono (by omega)) rfl pass0 (pa_cons pe_str (pa_cons (pe_ix (kix_list (K := K) rfl) (pv 0) (pv 6) (fun _ _ => rfl)) pa_nil))) pa_nil)))
    (pss_cons (ps_aug (i := 6) sc_steps_between.nd rfl (by first | exact Or.inl rfl | exact Or.inr rfl) pe_int ip_add)
    (pss_one (ps_aug (i := 7) sc_steps_between.nd rfl (by first | exact Or.inl rfl | exact Or.inr rfl) pe_int ip_add)))) (pss_one (ps_if (pt_cmpR op_ge (pe_ix (kix_list (K := K) rfl) (pe_ix (kix_list (K := K) rfl) (pv 4) (pe_op op_add (pv 6) pe_int) (fun _ _ => rfl)) (pv 7) (fun _ _ => rfl)) (pe_ix (kix_list (K := K) rfl) (pe_ix (kix_list (K := K) rfl) (pv 4) (pv 6) (fun _ _ => rfl)) (pe_op op_add (pv 7) pe_int) (fun _ _ => rfl)) (nomark _)) (pss_cons (ps_expr (kpe_bm (K := K) rfl PySem.F.plainAttrs_list PySem.F.slot_list_append PySem.F.type_list_append mt_append (pv 5) (pa_cons (pe_new k_Step (hr.mono (by omega)) rfl pass0 (pa_cons pe_str (pa_cons (pe_ix (kix_list (K := K) rfl) (pv 0) (pv 6) (fun _ _ => rfl)) pa_nil))) pa_nil)))
    (pss_one (ps_aug (i := 6) sc_steps_between.nd rfl (by first | exact Or.inl rfl | exact Or.inr rfl) pe_int ip_add))) (pss_cons (ps_expr (kpe_bm (K := K) rfl PySem.F.plainAttrs_list PySem.F.slot_list_append PySem.F.type_list_append mt_append (pv 5) (pa_cons (pe_new k_Step (hr.mono (by omega)) rfl pass0 (pa_cons pe_str (pa_cons (pe_ix (kix_list (K := K) rfl) (pv 1) (pv 7) (fun _ _ => rfl)) pa_nil))) pa_nil)))
    (pss_one (ps_aug (i := 7) sc_steps_between.nd rfl (by first | exact Or.inl rfl | exact Or.inr rfl) pe_int ip_add))))))))
    (pss_cons (ps_setLc (i := 8) (own := [("block", 9)]) (g := gName 9) (tt := tYes) rfl sc_steps_between.nd rfl rfl (sw_true rfl rfl rfl (by decide +kernel)) (kpi_list (K := K) rfl (pe_slice (ksl_list (K := K) rfl) (pv 0) (po_some (pv 6)) po_none)) (blkOk_by (N := ["first", "second", "old", "new", "lengths", "steps", "here", "there", "removed", "block"]) (sc := defScope s_steps_between) (by decide +kernel)) (fun _ _ _ _ _ => pg_name (i := 9) sc_steps_between.nd rfl (Or.inl rfl)) (fun _ _ _ _ _ => pts_nil) (fun _ _ _ _ _ => (pe_new k_Step (hr.mono (by omega)) rfl pass0 (pa_cons pe_str (pa_cons (pv 9) pa_nil)))))
    (pss_one (ps_ret (pe_op op_cat (pe_op op_cat (pv 5) (pv 8)) (pe_lc (own := [("block", 9)]) (g := gName 9) (tt := tYes) rfl sc_steps_between.nd (kpi_list (K := K) rfl (pe_slice (ksl_list (K := K) rfl) (pv 1) (po_some (pv 7)) po_none)) (blkOk_by (N := ["first", "second", "old", "new", "lengths", "steps", "here", "there", "removed", "block"]) (sc := defScope s_steps_between) (by decide +kernel)) (fun _ _ _ _ _ => pg_name (i := 9) sc_steps_between.nd rfl (Or.inl rfl)) (fun _ _ _ _ _ => pts_nil) (fun _ _ _ _ _ => (pe_new k_Step (hr.mono (by omega)) rfl pass0 (pa_cons pe_str (pa_cons (pv 9) pa_nil)))))))))))))))), ?_⟩)
  obtain ⟨G, as, bs, a, b, xa, xb, rfl, sG, ha, hxa, hb, hxb, hla, hlb, hka, hkb, q⟩ := h
  have hpa : Paired (fun x v => ArgAt CN G (blkA x) v) as xa := paired_um3 (argsP hxa)
  have hpb : Paired (fun x v => ArgAt CN G (blkA x) v) bs xb := paired_um3 (argsP hxb)
  have la := Paired.length hpa
  have lb := Paired.length hpb
  walk_at "sx"
  refine ⟨_, rfl, a, rfl, ⟨_, SqL.of (sG _ _ ha)⟩, fun F1 hF1 => lc_of (R := fun x v G => ArgAt CN G (blkA x) v) Ls (fun _ => true) keyA (SqL.of (sG _ _ ha)) sG hpa (lt_line (by omega)) hF1 (fun _ _ _ _ s h => ArgAt.same s _ _ h) (fun _ _ _ _ s h => h.same s) (fun _ => rfl) (fun m x G2 H2 hm e hx Q' k => k _ (Same.refl _)) (fun m x G2 H2 hm e hx _ Q' k => ⟨_, rfl, G2, x, blkA m, rfl, e.sub, hx, blk_nodeD m, (hka m hm).1, Nat.le_trans (hka m hm).2 (by decide), k⟩) (fun G1 H1 y1 e1 hFl1 gF1 hy1 => ?_)⟩
  rw [List.filter_eq_self.mpr (fun _ _ => rfl)] at hy1
  have x1 := e1.pub hF1 hFl1
  have s1 : Same G1 (upd G1 F1 (.lst y1)) := same_new gF1
  have hy1' := paired_same LsS s1 hy1
  have hF1' : (upd G1 F1 (.lst y1)) F1 = some (.lst y1) := upd_same
  generalize upd G1 F1 (.lst y1) = G1' at x1 hy1' hF1' s1
  have hpb1 := paired_same (fun (x : Block) v _ _ s (h : ArgAt CN _ (blkA x) v) => ArgAt.same s _ _ h) x1.up hpb
  have hb1 := x1.sub _ _ (x1.up _ _ hb)
  refine ⟨_, rfl, b, rfl, ⟨_, SqL.of hb1⟩, fun F2 hF2 => lc_of (R := fun x v G => ArgAt CN G (blkA x) v) Ls (fun _ => true) keyA (SqL.of hb1) x1.sub hpb1 (lt_line (by omega)) hF2 (fun _ _ _ _ s h => ArgAt.same s _ _ h) (fun _ _ _ _ s h => h.same s) (fun _ => rfl) (fun m x G2 H2 hm e hx Q' k => k _ (Same.refl _)) (fun m x G2 H2 hm e hx _ Q' k => ⟨_, rfl, G2, x, blkA m, rfl, e.sub, hx, blk_nodeD m, (hkb m hm).1, Nat.le_trans (hkb m hm).2 (by decide), k⟩) (fun G2 H2 y2 e2 hFl2 gF2 hy2 => ?_)⟩
  rw [List.filter_eq_self.mpr (fun _ _ => rfl)] at hy2
  have x2 := e2.pub hF2 hFl2
  have s2 : Same G2 (upd G2 F2 (.lst y2)) := same_new gF2
  have hy2' := paired_same LsS s2 hy2
  have hF2' : (upd G2 F2 (.lst y2)) F2 = some (.lst y2) := upd_same
  generalize upd G2 F2 (.lst y2) = G2' at x2 hy2' hF2' s2
  walk_at "sx"
  refine ⟨G2', as.map keyA, bs.map keyA, _, _, rfl, x2.sub, ⟨F1, y1, rfl, x2.up _ _ hF1', paired_same LsS x2.up hy1'⟩, ⟨F2, y2, rfl, hF2', hy2'⟩, by rw [List.length_map]; omega, by rw [List.length_map]; omega, fun v3 G3 H3 x3 hv3 => ?_⟩
  obtain ⟨L, rw0, rfl, hL, hrw⟩ := hv3
  have X := (x1.trans x2).trans x3
  have gF1 := x3.up _ _ (x2.up _ _ hF1')
  have gF2 := x3.up _ _ hF2'
  have hy1 := paired_same LsS (x2.up.trans x3.up) hy1'
  have hy2 := paired_same LsS x3.up hy2'
  have ga := X.up _ _ ha
  have gb := X.up _ _ hb
  have hpa := paired_same (fun (x : Block) v _ _ s (h : ArgAt CN _ (blkA x) v) => ArgAt.same s _ _ h) X.up hpa
  have hpb := paired_same (fun (x : Block) v _ _ s (h : ArgAt CN _ (blkA x) v) => ArgAt.same s _ _ h) X.up hpb
  have ly1 := Paired.length hy1
  have ly2 := Paired.length hy2
  rw [List.length_map] at ly1 ly2
  clear hy1' hy2' hpb1 hb1 s1 s2 e1 e2 hFl1 hFl2
  refine ⟨by decide, fun F hF => ?_⟩
  refine while_gen fun D hD => ?_
  refine ⟨fun k σ' H' => ∃ G' i j done ys f, k = (as.length - i) + (bs.length - j) ∧ i ≤ as.length ∧ j ≤ bs.length ∧ σ' = [some (.ref a), some (.ref b), some (.ref F1), some (.ref F2), some (.ref L), some (.ref F), some (.int ((i : Nat) : Int)), some (.int ((j : Nat) : Int)), none, none] ∧ Ext G3 H3 G' H' ∧ G' F = none ∧ H' F = some (.lst ys) ∧ Paired (fun s v => SpAt CP CN s v G') done ys ∧ (as.length - i) + (bs.length - j) + 1 ≤ f ∧ stepsA as bs = done ++ stepsL (tabE (as.map keyA) (bs.map keyA)) f i j ((keyedA as).drop i) ((keyedA bs).drop j) ∧ done.length ≤ i + j,
    ⟨_, G3, 0, 0, [], [], as.length + bs.length + 1, rfl, Nat.zero_le _, Nat.zero_le _, rfl, (Ext.refl x3.sub).priv hF, x3.sub.free hF, upd_same, .nil, Nat.le_refl _, rfl, Nat.zero_le _⟩, ?_⟩
  rintro k σ' H' ⟨G', i, j, done, ys, f, rfl, hi, hj, rfl, e, gF, hFl, hys, hf, hst, hdl⟩
  have hF1H := e.sub _ _ (e.up _ _ gF1)
  have hF2H := e.sub _ _ (e.up _ _ gF2)
  have haH := e.sub _ _ (e.up _ _ ga)
  have hbH := e.sub _ _ (e.up _ _ gb)
  have hLH := e.sub _ _ (e.up _ _ hL)
  have hyl := Paired.length hys
  have fin : i = as.length ∨ j = bs.length → D.nx [some (.ref a), some (.ref b), some (.ref F1), some (.ref F2), some (.ref L), some (.ref F), some (.int ((i : Nat) : Int)), some (.int ((j : Nat) : Int)), none, none] H' := fun hend => by
    subst hD
    walk_at "sx"
    refine ⟨_, rfl, _, rfl, _, rfl, a, xa, rfl, SqL.of haH, fun p hp => ⟨p, rfl, ⟨_, SqL.of upd_same⟩, fun F3 hF3 => ?_⟩⟩
    rw [cutC_from] at hF3
    rw [cutC_from]
    have y1e : Ext G3 H3 G' (upd H' p (.lst (xa.drop i))) := e.priv hp
    have yF : (upd H' p (.lst (xa.drop i))) F = some (.lst ys) := (upd_ne (ne_of_none hFl hp)).trans hFl
    have yp : (upd H' p (.lst (xa.drop i))) p = some (.lst (xa.drop i)) := upd_same
    generalize upd H' p (.lst (xa.drop i)) = K1 at y1e yF yp hF3 ⊢
    have pd := pairC_drop i (paired_same (fun (x : Block) v _ _ s (h : ArgAt CN _ (blkA x) v) => ArgAt.same s _ _ h) y1e.up hpa)
    have pdl := Paired.length pd
    refine lc_of (R := fun x v G => ArgAt CN G (blkA x) v) (SpAt CP CN) (fun _ => true) (fun x => (1, x)) (SqL.of yp) y1e.sub pd (lt_line (by rw [List.length_drop]; omega)) hF3 (fun _ _ _ _ s h => ArgAt.same s _ _ h) SpAt.same (fun _ => rfl) (fun m x G2 H2 hm e hx Q' k => k _ (Same.refl _)) (fun m x G2 H2 hm e hx _ Q' k => ⟨_, rfl, mk_step (k := 1) e.sub hx k⟩) (fun G5 H5 ys5 e5 hFl5 gF5 hy5 => ?_)
    rw [List.filter_eq_self.mpr (fun _ _ => rfl)] at hy5
    have z5 := e5.pub hF3 hFl5
    have z5F : H5 F = some (.lst ys) := z5.same _ _ yF
    have z5g : (upd G5 F3 (.lst ys5)) F = none := z5.stay gF yF
    have hy5' := paired_same SpAt.same (same_new (o := .lst ys5) gF5) hy5
    have ly5 := Paired.length hy5
    rw [List.length_map, List.length_drop] at ly5
    generalize upd G5 F3 (.lst ys5) = G5' at z5 z5g hy5'
    have W5 := y1e.trans z5
    refine ⟨F3, rfl, ys, z5F, ys5, hFl5, le_line (by omega), fun p2 hp2 => ?_⟩
    have W6 : Ext G3 H3 G5' (upd H5 p2 (.lst (ys ++ ys5))) := W5.priv hp2
    have w6p : (upd H5 p2 (.lst (ys ++ ys5))) p2 = some (.lst (ys ++ ys5)) := upd_same
    have w6g : G5' p2 = none := W5.gnone hp2
    generalize upd H5 p2 (.lst (ys ++ ys5)) = K6 at W6 w6p ⊢
    have hbK := W6.sub _ _ (W6.up _ _ gb)
    refine ⟨_, rfl, _, rfl, _, rfl, b, xb, rfl, SqL.of hbK, fun p hp => ⟨p, rfl, ⟨_, SqL.of upd_same⟩, fun F4 hF4 => ?_⟩⟩
    rw [cutC_from] at hF4
    rw [cutC_from]
    have v1e : Ext G3 H3 G5' (upd K6 p (.lst (xb.drop j))) := W6.priv hp
    have vp2 : (upd K6 p (.lst (xb.drop j))) p2 = some (.lst (ys ++ ys5)) := (upd_ne (ne_of_none w6p hp)).trans w6p
    have vp : (upd K6 p (.lst (xb.drop j))) p = some (.lst (xb.drop j)) := upd_same
    generalize upd K6 p (.lst (xb.drop j)) = K7 at v1e vp2 vp hF4 ⊢
    have pd2 := pairC_drop j (paired_same (fun (x : Block) v _ _ s (h : ArgAt CN _ (blkA x) v) => ArgAt.same s _ _ h) v1e.up hpb)
    refine lc_of (R := fun x v G => ArgAt CN G (blkA x) v) (SpAt CP CN) (fun _ => true) (fun x => (2, x)) (SqL.of vp) v1e.sub pd2 (lt_line (by rw [List.length_drop]; omega)) hF4 (fun _ _ _ _ s h => ArgAt.same s _ _ h) SpAt.same (fun _ => rfl) (fun m x G2 H2 hm e hx Q' k => k _ (Same.refl _)) (fun m x G2 H2 hm e hx _ Q' k => ⟨_, rfl, mk_step (k := 2) e.sub hx k⟩) (fun G8 H8 ys8 e8 hFl8 gF8 hy8 => ?_)
    rw [List.filter_eq_self.mpr (fun _ _ => rfl)] at hy8
    have z8 := e8.pub hF4 hFl8
    have z8p := z8.same _ _ vp2
    have hy8' := paired_same SpAt.same (same_new (o := .lst ys8) gF8) hy8
    have ly8 := Paired.length hy8
    rw [List.length_map, List.length_drop] at ly8
    generalize upd G8 F4 (.lst ys8) = G8' at z8 hy8'
    refine ⟨F4, rfl, _, z8p, ys8, hFl8, ?_, fun p9 hp9 => ?_⟩
    · rw [List.length_append]; exact le_line (by omega)
    · have W9 := X.trans (v1e.trans z8)
      have upA : Same G' G8' := z5.up.trans z8.up
      have total : stepsA as bs = done ++ (as.drop i).map (fun x => (1, x)) ++ (bs.drop j).map (fun x => (2, x)) := by
        rw [hst, keyedA_drop, keyedA_drop]
        rcases hend with h | h
        · rw [h, List.drop_of_length_le (Nat.le_refl as.length)]
          rw [show keyedA ([] : List Block) = [] from rfl, steps_right _ _ _ _ _ (by rw [keyedA_len, List.length_drop]; omega)]
          unfold keyedA
          rw [List.map_map, List.map_nil, List.append_nil]; rfl
        · rw [h, List.drop_of_length_le (Nat.le_refl bs.length)]
          rw [show keyedA ([] : List Block) = [] from rfl, steps_left _ _ _ _ _ (by rw [keyedA_len, List.length_drop]; omega)]
          unfold keyedA
          rw [List.map_map, List.map_nil, List.append_nil]; rfl
      refine q _ _ _ (W9.made hp9) ⟨p9, _, rfl, upd_same, ?_⟩
      rw [total]
      refine paired_same SpAt.same (same_new (W9.gnone hp9)) (pairC_app (pairC_app (paired_same SpAt.same upA hys) (paired_same SpAt.same z8.up hy5')) hy8')
  walk_at "sx"
  refine ⟨_, .inl (SqL.of hF1H), ?_⟩
  by_cases hin : i < as.length
  · refine ite2 (fun _ => ?_) (fun z => absurd (decide_eq_true (by omega)) z)
    refine ⟨_, .inl (SqL.of hF2H), ?_⟩
    by_cases hjn : j < bs.length
    · refine ite2 (fun _ => ?_) (fun z => absurd (decide_eq_true (by omega)) z)
      refine ex_op (fun σ' H' => ∃ G' i' j' done ys f, (as.length - i') + (bs.length - j') < (as.length - i) + (bs.length - j) ∧ i' ≤ as.length ∧ j' ≤ bs.length ∧ σ' = [some (.ref a), some (.ref b), some (.ref F1), some (.ref F2), some (.ref L), some (.ref F), some (.int ((i' : Nat) : Int)), some (.int ((j' : Nat) : Int)), none, none] ∧ Ext G3 H3 G' H' ∧ G' F = none ∧ H' F = some (.lst ys) ∧ Paired (fun s v => SpAt CP CN s v G') done ys ∧ (as.length - i') + (bs.length - j') + 1 ≤ f ∧ stepsA as bs = done ++ stepsL (tabE (as.map keyA) (bs.map keyA)) f i' j' ((keyedA as).drop i') ((keyedA bs).drop j') ∧ done.length ≤ i' + j')
        (fun σ' H' ⟨G', i', j', done, ys, f, h0, h1, h2, h3, h4, h5, h6, h7, h8, h9, h10⟩ => ⟨_, h0, G', i', j', rfl, h1, h2, h3, h4, h5, done, ys, h6, h7, f, h8, h9, h10⟩) fun N hN => ?_
      obtain ⟨x, hx0⟩ : ∃ x, as[i]? = some x := ⟨_, List.getElem?_eq_getElem hin⟩
      obtain ⟨y, hy0⟩ : ∃ y, bs[j]? = some y := ⟨_, List.getElem?_eq_getElem hjn⟩
      have hkx : (as.map keyA)[i]? = some (keyA x) := by rw [List.getElem?_map, hx0]; rfl
      have hky : (bs.map keyA)[j]? = some (keyA y) := by rw [List.getElem?_map, hy0]; rfl
      obtain ⟨w1, hw1, q1, rfl, hq1⟩ := paired_get hy1 hkx
      obtain ⟨w2, hw2, q2, rfl, hq2⟩ := paired_get hy2 hky
      obtain ⟨vx, hvx, hax⟩ := paired_get hpa hx0
      obtain ⟨vy, hvy, hay⟩ := paired_get hpb hy0
      obtain ⟨f, rfl⟩ : ∃ g, f = g + 1 := ⟨f - 1, by omega⟩
      have dA : (keyedA as).drop i = (keyA x, x) :: (keyedA as).drop (i + 1) := by
        rw [keyedA_drop, keyedA_drop, List.drop_eq_getElem_cons hin, (List.getElem?_eq_some_iff.mp hx0).2]; rfl
      have dB : (keyedA bs).drop j = (keyA y, y) :: (keyedA bs).drop (j + 1) := by
        rw [keyedA_drop, keyedA_drop, List.drop_eq_getElem_cons hjn, (List.getElem?_eq_some_iff.mp hy0).2]; rfl
      rw [dA, dB] at hst
      simp only [stepsL] at hst
      have upG : Same G3 G' := e.up
      refine ⟨_, SqL.of hF1H, _, atI_nat hw1, _, SqL.of hF2H, _, atI_nat hw2, eqd_l (SqL.of (e.sub _ _ (upG _ _ hq1))) (SqL.of (e.sub _ _ (upG _ _ hq2))) ⟨_, rfl, ?_⟩⟩
      -- a step is put behind the others
      have put : ∀ (k : Nat) (bk : Block) (v' : V) (G2 H2 : Hp) (i2 j2 : Nat), Ext G' H' G2 H2 → SpAt CP CN (k, bk) v' G2 → (as.length - i2) + (bs.length - j2) < (as.length - i) + (bs.length - j) → i2 ≤ as.length → j2 ≤ bs.length → (as.length - i2) + (bs.length - j2) + 1 ≤ f → i + j + 1 ≤ i2 + j2 →
          stepsA as bs = (done ++ [(k, bk)]) ++ stepsL (tabE (as.map keyA) (bs.map keyA)) f i2 j2 ((keyedA as).drop i2) ((keyedA bs).drop j2) →
          H2 F = some (.lst ys) ∧ N [some (.ref a), some (.ref b), some (.ref F1), some (.ref F2), some (.ref L), some (.ref F), some (.int ((i2 : Nat) : Int)), some (.int ((j2 : Nat) : Int)), none, none] (upd H2 F (.lst (ys ++ [v']))) := fun k bk v' G2 H2 i2 j2 e2 hv h1 h2 h3 h4 h5 h6 => by
        have hF2 := e2.same _ _ hFl
        have g2 := e2.stay gF hFl
        refine ⟨hF2, hN _ _ ⟨G2, i2, j2, done ++ [(k, bk)], ys ++ [v'], f, h1, h2, h3, rfl, (e.trans e2).mut hF g2, g2, upd_same, (paired_same SpAt.same e2.up hys).snoc hv, h4, h6, ?_⟩⟩
        rw [List.length_append]; simp only [List.length_cons, List.length_nil]; omega
      by_cases heq : keyA x = keyA y
      · rw [decide_eq_true heq]
        rw [if_pos (by rw [heq]; exact beq_self_eq_true _)] at hst
        refine iteT ⟨tyL (SqL.of hFl), _, SqL.of haH, _, atI_nat hvx, ?_⟩
        refine mk_step2 (k := 0) e.sub (ArgAt.same upG _ _ hax) fun v' G2 H2 e2 hv => ?_
        obtain ⟨p1, p2⟩ := put 0 x (.ref v') G2 H2 (i + 1) (j + 1) e2 hv (by omega) hin hjn (by omega) (by omega) (by rw [hst, List.append_assoc]; rfl)
        exact ⟨ys, p1, lt_line (by omega), _, rfl, _, _, rfl, rfl, _, rfl, _, _, rfl, rfl, p2⟩
      · rw [decide_eq_false heq]
        rw [if_neg (fun z => heq (eq_of_beq z))] at hst
        refine iteF ?_
        obtain ⟨l1, hl1, hl1b⟩ := tabL_at (os := as.map keyA) (ns := bs.map keyA) (i := i + 1) (j := j) (by rw [List.length_map]; omega) (by rw [List.length_map]; omega)
        obtain ⟨l0, hl0, hl0b⟩ := tabL_at (os := as.map keyA) (ns := bs.map keyA) (i := i) (j := j + 1) (by rw [List.length_map]; omega) (by rw [List.length_map]; omega)
        obtain ⟨u1, hu1, r1, rfl, hr1⟩ := paired_get hrw hl1
        obtain ⟨u0, hu0, r0, rfl, hr0⟩ := paired_get hrw hl0
        refine ⟨_, SqL.of hLH, _, atI_nat (j := i + 1) hu1, r1, rfl, _, SqL.of (e.sub _ _ (upG _ _ hr1)), _, atI_nat (j := j) hl1b, _, SqL.of hLH, _, atI_nat (j := i) hu0, r0, rfl, _, SqL.of (e.sub _ _ (upG _ _ hr0)), _, atI_nat (j := j + 1) hl0b, _, rfl, _, rfl, ?_⟩
        by_cases hle : tabE (as.map keyA) (bs.map keyA) i (j + 1) ≤ tabE (as.map keyA) (bs.map keyA) (i + 1) j
        · rw [if_pos hle] at hst
          refine ite2 (fun _ => ?_) (fun z => absurd (decide_eq_true (by omega)) z)
          refine ⟨tyL (SqL.of hFl), _, SqL.of haH, _, atI_nat hvx, ?_⟩
          refine mk_step2 (k := 1) e.sub (ArgAt.same upG _ _ hax) fun v' G2 H2 e2 hv => ?_
          obtain ⟨p1, p2⟩ := put 1 x (.ref v') G2 H2 (i + 1) j e2 hv (by omega) hin hj (by omega) (by omega) (by rw [hst, List.append_assoc, dB]; rfl)
          exact ⟨ys, p1, lt_line (by omega), _, rfl, _, _, rfl, rfl, p2⟩
        · rw [if_neg hle] at hst
          refine ite2 (fun z => by rw [decide_eq_true_eq] at z; omega) (fun _ => ?_)
          refine ⟨tyL (SqL.of hFl), _, SqL.of hbH, _, atI_nat hvy, ?_⟩
          refine mk_step2 (k := 2) e.sub (ArgAt.same upG _ _ hay) fun v' G2 H2 e2 hv => ?_
          obtain ⟨p1, p2⟩ := put 2 y (.ref v') G2 H2 i (j + 1) e2 hv (by omega) hi hjn (by omega) (by omega) (by rw [hst, List.append_assoc, dA]; rfl)
          exact ⟨ys, p1, lt_line (by omega), _, rfl, _, _, rfl, rfl, p2⟩
    · refine ite2 (fun z => by rw [decide_eq_true_eq] at z; omega) (fun _ => ?_)
      exact fin (.inr (by omega))
  · refine ite2 (fun z => by rw [decide_eq_true_eq] at z; omega) (fun _ => ?_)
    refine iteF ?_
    exact fin (.inl (by omega))

end
end Bt

namespace Bt
open PySem PySem.Spec PyProof.Rows L2
open Kh450 (Block codesOf Edit writeEdit writeBlock formOf)
/-! ### edits written -/
theorem keyA_is {b : Block} (h : dpA 16 (blkA b)) : keyA b = writeBlock b := wr_blk 16 b 17 h (by decide) (by decide)
theorem stepsA_is {as bs : List Block} (ha : ∀ b ∈ as, dpA 16 (blkA b)) (hb : ∀ b ∈ bs, dpA 16 (blkA b)) : stepsA as bs = stepsD as bs := by
  have e1 : as.map keyA = as.map writeBlock := List.map_congr_left fun b h => keyA_is (ha b h)
  have e2 : bs.map keyA = bs.map writeBlock := List.map_congr_left fun b h => keyA_is (hb b h)
  have e3 : keyedA as = keyed as := List.map_congr_left fun b h => by rw [keyA_is (ha b h)]
  have e4 : keyedA bs = keyed bs := List.map_congr_left fun b h => by rw [keyA_is (hb b h)]
  unfold stepsA stepsD
  rw [e1, e2, e3, e4]
theorem groups_mem : ∀ (f : Nat) (l : List (Nat × Block)), ∀ g ∈ groups f l, g.2.length ≤ l.length ∧ (∃ s ∈ l, s.1 = g.1) ∧ ∀ b ∈ g.2, ∃ s ∈ l, s.2 = b
  | 0, _, g, h => by cases h
  | f + 1, [], g, h => by cases h
  | f + 1, s :: r, g, h => by
    rcases List.mem_cons.mp (show g ∈ (s.1, s.2 :: (r.takeWhile fun t => decide (t.1 = s.1)).map (·.2)) :: groups f (r.dropWhile fun t => decide (t.1 = s.1)) from h) with rfl | h
    · have hl := (List.takeWhile_sublist (l := r) fun t : Nat × Block => decide (t.1 = s.1)).length_le
      refine ⟨by simp only [List.length_cons, List.length_map]; omega, ⟨s, List.mem_cons_self, rfl⟩, fun b hb => ?_⟩
      rcases List.mem_cons.mp hb with rfl | hb
      · exact ⟨s, List.mem_cons_self, rfl⟩
      · obtain ⟨t, ht, rfl⟩ := List.mem_map.mp hb
        exact ⟨t, List.mem_cons_of_mem _ ((List.takeWhile_sublist _).mem ht), rfl⟩
    · obtain ⟨h1, ⟨t, ht, e⟩, h3⟩ := groups_mem f _ g h
      have hl := (List.dropWhile_sublist (l := r) fun t : Nat × Block => decide (t.1 = s.1)).length_le
      refine ⟨by simp only [List.length_cons]; omega, ⟨t, List.mem_cons_of_mem _ ((List.dropWhile_sublist _).mem ht), e⟩, fun b hb => ?_⟩
      obtain ⟨t, ht, e⟩ := h3 b hb
      exact ⟨t, List.mem_cons_of_mem _ ((List.dropWhile_sublist _).mem ht), e⟩
theorem steps_mem (tb : Nat → Nat → Nat) : ∀ (f i j : Nat) (xs ys : List (List Nat × Block)), ∀ s ∈ stepsL tb f i j xs ys, (∃ x ∈ xs, x.2 = s.2) ∨ ∃ y ∈ ys, y.2 = s.2
  | 0, _, _, _, _, s, h => by cases h
  | f + 1, i, j, [], [], s, h => by cases h
  | f + 1, i, j, x :: xs', [], s, h => by
    rcases List.mem_cons.mp (show s ∈ (1, x.2) :: stepsL tb f (i + 1) j xs' [] from h) with rfl | h
    · exact .inl ⟨x, List.mem_cons_self, rfl⟩
    · rcases steps_mem tb f _ _ _ _ s h with ⟨z, hz, e⟩ | ⟨z, hz, e⟩
      · exact .inl ⟨z, List.mem_cons_of_mem _ hz, e⟩
      · exact .inr ⟨z, hz, e⟩
  | f + 1, i, j, [], y :: ys', s, h => by
    rcases List.mem_cons.mp (show s ∈ (2, y.2) :: stepsL tb f i (j + 1) [] ys' from h) with rfl | h
    · exact .inr ⟨y, List.mem_cons_self, rfl⟩
    · rcases steps_mem tb f _ _ _ _ s h with ⟨z, hz, e⟩ | ⟨z, hz, e⟩
      · exact .inl ⟨z, hz, e⟩
      · exact .inr ⟨z, List.mem_cons_of_mem _ hz, e⟩
  | f + 1, i, j, x :: xs', y :: ys', s, h => by
    simp only [stepsL] at h
    have fx : ∀ {P : Prop}, (∃ z ∈ xs', z.2 = s.2) ∨ P → (∃ z ∈ x :: xs', z.2 = s.2) ∨ P := fun h => h.imp (fun ⟨z, hz, e⟩ => ⟨z, List.mem_cons_of_mem _ hz, e⟩) id
    have fy : ∀ {P : Prop}, P ∨ (∃ z ∈ ys', z.2 = s.2) → P ∨ ∃ z ∈ y :: ys', z.2 = s.2 := fun h => h.imp id fun ⟨z, hz, e⟩ => ⟨z, List.mem_cons_of_mem _ hz, e⟩
    split at h
    · rcases List.mem_cons.mp h with rfl | h
      · exact .inl ⟨x, List.mem_cons_self, rfl⟩
      · exact fx (fy (steps_mem tb f _ _ _ _ s h))
    · split at h
      · rcases List.mem_cons.mp h with rfl | h
        · exact .inl ⟨x, List.mem_cons_self, rfl⟩
        · exact fx (steps_mem tb f _ _ _ _ s h)
      · rcases List.mem_cons.mp h with rfl | h
        · exact .inr ⟨y, List.mem_cons_self, rfl⟩
        · exact fy (steps_mem tb f _ _ _ _ s h)
theorem wr_edit {g : Nat × List Block} (hb : ∀ b ∈ g.2, dpA 16 (blkA b)) (hl : g.2.length < 10 ^ 20) (hk : g.1 < 3) : wrArg 17 (editN g) = writeEdit (editOf g) := by
  obtain ⟨k, l⟩ := g
  have hk : k < 3 := hk
  have hint : wrArg 16 (.int l.length) = Kh450.writeNat l.length := by rw [wr_int, dec_is hl]
  rcases (show k = 0 ∨ k = 1 ∨ k = 2 by omega) with rfl | rfl | rfl
  · show wrArg (16 + 1) (.node (codesOf "keep") [.int l.length] [] "") = formOf "keep" [Kh450.writeNat l.length]
    rw [codes_ne (by decide +kernel), List.append_nil, List.map_cons, List.map_nil, hint]
  · show wrArg (16 + 1) (.node (codesOf "remove") [.int l.length] [] "") = formOf "remove" [Kh450.writeNat l.length]
    rw [codes_ne (by decide +kernel), List.append_nil, List.map_cons, List.map_nil, hint]
  · show wrArg (16 + 1) (.node (codesOf "insert") [] (l.map blkA) "block") = formOf "insert" (l.map writeBlock)
    rw [codes_ne (by decide +kernel), List.nil_append, List.map_map]
    congr 1
    exact List.map_congr_left fun b h => keyA_is (hb b h)
theorem edit_dp {g : Nat × List Block} (hb : ∀ b ∈ g.2, dpA 16 (blkA b)) (hl : g.2.length < 2 ^ 64) : isNode (editN g) = true ∧ dpA 17 (editN g) := by
  unfold editN
  split
  · refine ⟨rfl, fun x hx => ?_⟩
    obtain ⟨b, h, rfl⟩ := List.mem_map.mp (show x ∈ [] ++ g.2.map blkA from hx)
    exact hb b h
  · refine ⟨rfl, fun x hx => ?_⟩
    obtain rfl := List.mem_singleton.mp (show x ∈ [Arg.int g.2.length] from by simpa using hx)
    exact hl
theorem sumBy_le' {α : Type} {f : α → Nat} {m : Nat} : ∀ {l : List α}, (∀ x ∈ l, f x ≤ m) → sumBy f l ≤ m * l.length
  | [], _ => Nat.zero_le _
  | a :: r, h => by
    have h1 := h a List.mem_cons_self
    have h2 := sumBy_le' (l := r) fun x hx => h x (List.mem_cons_of_mem _ hx)
    show f a + sumBy f r ≤ m * (r.length + 1)
    rw [Nat.mul_add, Nat.mul_one]; omega
theorem sumBy_perm' {α : Type} (f : α → Nat) (p : α → Bool) : ∀ l : List α, sumBy f (l.takeWhile p) + sumBy f (l.dropWhile p) = sumBy f l := fun l => by
  rw [← sumBy_app, List.takeWhile_append_dropWhile]
theorem sumBy_map2 {α β : Type} (f : β → Nat) (g : α → β) : ∀ l : List α, sumBy f (l.map g) = sumBy (fun x => f (g x)) l
  | [] => rfl
  | a :: r => by show f (g a) + _ = f (g a) + _; rw [sumBy_map2 f g r]
theorem groups_sum (w : Block → Nat) : ∀ (f : Nat) (l : List (Nat × Block)), sumBy (fun g => sumBy w g.2) (groups f l) ≤ sumBy (fun s => w s.2) l
  | 0, _ => Nat.zero_le _
  | f + 1, [] => Nat.zero_le _
  | f + 1, s :: r => by
    have h1 := groups_sum w f (r.dropWhile fun t => decide (t.1 = s.1))
    have h2 := sumBy_perm' (fun t : Nat × Block => w t.2) (fun t => decide (t.1 = s.1)) r
    show (w s.2 + sumBy w ((r.takeWhile fun t => decide (t.1 = s.1)).map (·.2))) + sumBy (fun g => sumBy w g.2) (groups f (r.dropWhile fun t => decide (t.1 = s.1))) ≤ w s.2 + sumBy (fun s => w s.2) r
    rw [sumBy_map2]
    omega
theorem groups_len : ∀ (f : Nat) (l : List (Nat × Block)), (groups f l).length ≤ l.length
  | 0, _ => Nat.zero_le _
  | f + 1, [] => Nat.zero_le _
  | f + 1, s :: r => by
    have h1 := groups_len f (r.dropWhile fun t => decide (t.1 = s.1))
    have hl := (List.dropWhile_sublist (l := r) fun t : Nat × Block => decide (t.1 = s.1)).length_le
    show (groups f (r.dropWhile fun t => decide (t.1 = s.1))).length + 1 ≤ r.length + 1
    omega
theorem steps_sum (w : Block → Nat) (tb : Nat → Nat → Nat) : ∀ (f i j : Nat) (xs ys : List (List Nat × Block)), sumBy (fun s => w s.2) (stepsL tb f i j xs ys) ≤ sumBy (fun x => w x.2) xs + sumBy (fun x => w x.2) ys
  | 0, _, _, _, _ => Nat.zero_le _
  | f + 1, i, j, [], [] => Nat.zero_le _
  | f + 1, i, j, x :: xs', [] => by
    have := steps_sum w tb f (i + 1) j xs' []
    show w x.2 + sumBy (fun s => w s.2) (stepsL tb f (i + 1) j xs' []) ≤ (w x.2 + sumBy (fun x => w x.2) xs') + _
    omega
  | f + 1, i, j, [], y :: ys' => by
    have := steps_sum w tb f i (j + 1) [] ys'
    show w y.2 + sumBy (fun s => w s.2) (stepsL tb f i (j + 1) [] ys') ≤ _ + (w y.2 + sumBy (fun x => w x.2) ys')
    omega
  | f + 1, i, j, x :: xs', y :: ys' => by
    have h1 := steps_sum w tb f (i + 1) (j + 1) xs' ys'
    have h2 := steps_sum w tb f (i + 1) j xs' (y :: ys')
    have h3 := steps_sum w tb f i (j + 1) (x :: xs') ys'
    simp only [sumBy] at h1 h2 h3 ⊢
    simp only [stepsL]
    split
    · simp only [sumBy]; omega
    · split
      · simp only [sumBy]; omega
      · simp only [sumBy]; omega
theorem join_sum (c : Nat) : ∀ ls : List (List Nat), (Kh450.joinTexts [c] ls).length ≤ sumBy (fun x => x.length + 1) ls
  | [] => Nat.zero_le _
  | [a] => by show a.length ≤ a.length + 1 + 0; omega
  | a :: b :: r => by
    have := join_sum c (b :: r)
    show (a ++ [c] ++ Kh450.joinTexts [c] (b :: r)).length ≤ a.length + 1 + sumBy (fun x => x.length + 1) (b :: r)
    rw [List.length_append, List.length_append, List.length_singleton]
    omega
theorem wnl_len : ∀ (f n : Nat), (Kh450.writeNatLoop f n).length ≤ f
  | 0, _ => Nat.le_refl _
  | f + 1, n => by
    show (if n < 10 then [48 + n] else Kh450.writeNatLoop f (n / 10) ++ [48 + n % 10]).length ≤ f + 1
    split
    · simp
    · rw [List.length_append, List.length_singleton]; have := wnl_len f (n / 10); omega
theorem edit_wz {g : Nat × List Block} (hl : g.2.length < 10 ^ 20) : (wrArg 17 (editN g)).length + 1 ≤ 40 + sumBy (fun b => wz 16 (blkA b)) g.2 := by
  have hint : (wrArg 16 (.int g.2.length)).length ≤ 20 := by
    rw [wr_int, dec_is hl]
    exact wnl_len 20 _
  unfold editN
  split
  · show (40 :: (Kh450.joinTexts [32] ((if codesOf "insert" = [] then [] else [codesOf "insert"]) ++ ([] ++ g.2.map blkA).map (wrArg 16)) ++ [41])).length + 1 ≤ _
    rw [if_neg (by decide +kernel)]
    have h1 := join_sum 32 ([codesOf "insert"] ++ ([] ++ g.2.map blkA).map (wrArg 16))
    rw [List.nil_append, List.map_map, sumBy_app, sumBy_map2] at h1
    have h2 : sumBy (fun x : List Nat => x.length + 1) [codesOf "insert"] = 7 := by decide +kernel
    rw [h2] at h1
    rw [List.length_cons, List.length_append, List.length_singleton, List.nil_append, List.map_map]
    have h3 : sumBy (fun x => ((wrArg 16 ∘ blkA) x).length + 1) g.2 = sumBy (fun b => wz 16 (blkA b)) g.2 := rfl
    omega
  · show (40 :: (Kh450.joinTexts [32] ((if stL g.1 = [] then [] else [stL g.1]) ++ ([Arg.int g.2.length] ++ []).map (wrArg 16)) ++ [41])).length + 1 ≤ _
    have hst : (stL g.1).length ≤ 6 := by
      unfold stL
      split
      · decide +kernel
      · split <;> decide +kernel
    have h1 := join_sum 32 ((if stL g.1 = [] then [] else [stL g.1]) ++ ([Arg.int g.2.length] ++ []).map (wrArg 16))
    rw [sumBy_app, List.append_nil, List.map_cons, List.map_nil] at h1
    have h2 : sumBy (fun x : List Nat => x.length + 1) (if stL g.1 = [] then [] else [stL g.1]) ≤ 7 := by
      split
      · exact Nat.zero_le _
      · show (stL g.1).length + 1 + 0 ≤ 7; omega
    have h3 : sumBy (fun x : List Nat => x.length + 1) [wrArg 16 (.int g.2.length)] ≤ 21 := by show (wrArg 16 (.int g.2.length)).length + 1 + 0 ≤ 21; omega
    rw [List.length_cons, List.length_append, List.length_singleton, List.append_nil, List.map_cons, List.map_nil]
    omega
/-- the edits of two documents that were read fit -/
theorem dif_fits {d1 d2 : List Nat} (hl1 : d1.length ≤ 1000) (hl2 : d2.length ≤ 1000) {as bs : List Block} (h1 : rdDoc d1 = .ok (as.map blkA)) (h2 : rdDoc d2 = .ok (bs.map blkA)) :
    (∀ b ∈ as, dpA 16 (blkA b) ∧ (keyA b).length ≤ 900000) ∧ (∀ b ∈ bs, dpA 16 (blkA b) ∧ (keyA b).length ≤ 900000) ∧ as.length ≤ 1001 ∧ bs.length ≤ 1001 ∧
    (∀ n ∈ (groups (stepsA as bs).length (stepsA as bs)).map editN, isNode n = true ∧ dpA 17 n) ∧ (Kh450.joinTexts [10] (((groups (stepsA as bs).length (stepsA as bs)).map editN).map (wrArg 17))).length ≤ 900000 ∧
    ((groups (stepsA as bs).length (stepsA as bs)).map editN).map (wrArg 17) = (Kh450.difference as bs).map writeEdit := by
  obtain ⟨p1, p2⟩ := doc_sum hl1 h1
  obtain ⟨q1, q2⟩ := doc_sum hl2 h2
  have la := rdDoc_len h1
  have lb := rdDoc_len h2
  rw [List.length_map] at la lb
  rw [sumBy_map2] at p2 q2
  have da : ∀ b ∈ as, dpA 16 (blkA b) := fun b hb => (p1 _ (List.mem_map_of_mem hb)).2
  have db : ∀ b ∈ bs, dpA 16 (blkA b) := fun b hb => (q1 _ (List.mem_map_of_mem hb)).2
  have ka : ∀ (l : List Block), sumBy (fun b => wz 16 (blkA b)) l ≤ 25000 → ∀ b ∈ l, (keyA b).length ≤ 900000 := fun l hs b hb => by
    have h3 : wz 16 (blkA b) ≤ sumBy (fun b => wz 16 (blkA b)) l := by
      clear hs
      induction l with
      | nil => cases hb
      | cons a r ih =>
        rcases List.mem_cons.mp hb with rfl | hb
        · show _ ≤ wz 16 (blkA b) + _; omega
        · have := ih hb
          show _ ≤ wz 16 (blkA a) + sumBy (fun b => wz 16 (blkA b)) r
          omega
    have h4 : (keyA b).length + 1 = wz 16 (blkA b) := rfl
    omega
  have hsl := steps_len (tabE (as.map keyA) (bs.map keyA)) (as.length + bs.length + 1) 0 0 (keyedA as) (keyedA bs)
  rw [keyedA_len, keyedA_len] at hsl
  have hsl : (stepsA as bs).length ≤ as.length + bs.length := hsl
  have hss := steps_sum (fun b => wz 16 (blkA b)) (tabE (as.map keyA) (bs.map keyA)) (as.length + bs.length + 1) 0 0 (keyedA as) (keyedA bs)
  have e1 : sumBy (fun x : List Nat × Block => wz 16 (blkA x.2)) (keyedA as) = sumBy (fun b => wz 16 (blkA b)) as := by unfold keyedA; rw [sumBy_map2]
  have e2 : sumBy (fun x : List Nat × Block => wz 16 (blkA x.2)) (keyedA bs) = sumBy (fun b => wz 16 (blkA b)) bs := by unfold keyedA; rw [sumBy_map2]
  rw [e1, e2] at hss
  have hss : sumBy (fun s : Nat × Block => wz 16 (blkA s.2)) (stepsA as bs) ≤ _ := hss
  have hmem : ∀ s ∈ stepsA as bs, s.1 < 3 ∧ dpA 16 (blkA s.2) := fun s hs => by
    refine ⟨steps_kd _ _ _ _ _ _ s hs, ?_⟩
    rcases steps_mem _ _ _ _ _ _ s hs with ⟨x, hx, e⟩ | ⟨x, hx, e⟩
    · obtain ⟨b, hb, rfl⟩ := List.mem_map.mp (show x ∈ as.map fun x => (keyA x, x) from hx)
      rw [← e]; exact da b hb
    · obtain ⟨b, hb, rfl⟩ := List.mem_map.mp (show x ∈ bs.map fun x => (keyA x, x) from hx)
      rw [← e]; exact db b hb
  have hg : ∀ g ∈ groups (stepsA as bs).length (stepsA as bs), g.2.length ≤ 2100 ∧ g.1 < 3 ∧ ∀ b ∈ g.2, dpA 16 (blkA b) := fun g hg => by
    obtain ⟨h3, ⟨s, hs, e⟩, h5⟩ := groups_mem _ _ g hg
    refine ⟨by omega, by rw [← e]; exact (hmem s hs).1, fun b hb => ?_⟩
    obtain ⟨t, ht, rfl⟩ := h5 b hb
    exact (hmem t ht).2
  have hgs := groups_sum (fun b => wz 16 (blkA b)) (stepsA as bs).length (stepsA as bs)
  have hgl := groups_len (stepsA as bs).length (stepsA as bs)
  have small : ∀ n : Nat, n ≤ 2100 → n < 10 ^ 20 ∧ n < 2 ^ 64 := fun n h => ⟨Nat.lt_of_le_of_lt h (by decide), Nat.lt_of_le_of_lt h (by decide)⟩
  refine ⟨fun b hb => ⟨da b hb, ka as p2 b hb⟩, fun b hb => ⟨db b hb, ka bs q2 b hb⟩, by omega, by omega, fun n hn => ?_, ?_, ?_⟩
  · obtain ⟨g, h, rfl⟩ := List.mem_map.mp hn
    exact edit_dp (hg g h).2.2 (small _ (hg g h).1).2
  · have hj := join_sum 10 (((groups (stepsA as bs).length (stepsA as bs)).map editN).map (wrArg 17))
    rw [sumBy_map2, sumBy_map2] at hj
    have hb : ∀ l : List (Nat × List Block), (∀ g ∈ l, g.2.length ≤ 2100) → sumBy (fun g => (wrArg 17 (editN g)).length + 1) l ≤ 40 * l.length + sumBy (fun g : Nat × List Block => sumBy (fun b => wz 16 (blkA b)) g.2) l := by
      intro l
      induction l with
      | nil => exact fun _ => Nat.zero_le _
      | cons g r ih =>
        intro h
        have i1 := ih fun x hx => h x (List.mem_cons_of_mem _ hx)
        have i2 := edit_wz (small _ (h g List.mem_cons_self)).1
        show (wrArg 17 (editN g)).length + 1 + sumBy _ r ≤ 40 * (r.length + 1) + (sumBy (fun b => wz 16 (blkA b)) g.2 + sumBy _ r)
        omega
    have := hb _ fun g h => (hg g h).1
    omega
  · rw [dif_edits, ← stepsA_is da db, List.map_map, List.map_map]
    exact List.map_congr_left fun g h => wr_edit (hg g h).2.2 (small _ (hg g h).1).1 (hg g h).2.1
end Bt

namespace Bt
open PySem PySem.Spec PyProof.Rows L2
local macro_rules | `(tactic| walk_at "sx") => `(tactic| simp only [cxK, tTru, rLen, rListOf, rTupOf, tRet, tRetN, tChain, tRng, tCB, tCons, tNil, tC, tVar, tOp, tUn, tTest, tB, tAnd, tOr, tNot, tIfS, tSeq, tIf, tOrV, tAndV, tNotV, tCall, tSl, tPart, tNoPart, tLst, tTup, tBM, tBM0, rExtendS, iList, iTup, iSeqV, rIxL, rIxT, rSlL, rAppend, rExtend, rCat, rI0, rI, rIxS, rEq, rNe, rU, tAsg, gName, tDrop, tNext, scal, L2.start, List.map_cons, List.map_nil, List.length_cons, List.length_nil, Nat.reduceAdd, Nat.reduceSub, List.replicate_succ, List.replicate_zero, List.append_nil, List.cons_append, List.nil_append, List.getElem?_cons_zero, List.getElem?_cons_succ, Option.some.injEq, exists_eq_left', exists_eq_left, V.int.injEq, V.bl.injEq, V.str.injEq, V.ref.injEq, List.cons.injEq, and_true, true_and, exists_and_left, List.set_cons_zero, List.set_cons_succ, spN1_run, tFC, sFC, sFCAug, tMeth, tMake, sRaise, tErF, rAdd, rPop, tM1, tCallL, Option.some.injEq, HO.ins.injEq])
local macro_rules | `(tactic| walk_at "sm") => `(tactic| (repeat (first | exact Same.refl _ | assumption | (refine Same.trans ?_ (same_new (by assumption))) | (refine Same.trans ?_ (by assumption)))))
section
variable {P : Program} {w : World} {K : PySem.W.Frag} {mg : Str → Option Value} {base : Heap}
/-! ### difference -/
open LamX
open Kh450 (Block codesOf)
def spDifE (CN : Addr) : Sp := fun vs H Q _ => ∃ (G : Hp) (as bs : List Block) (a b : Addr) (xa xb : List V), vs = [.ref a, .ref b] ∧ Same G H ∧ G a = some (.lst xa) ∧ ArgsAt CN G (as.map blkA) xa ∧ G b = some (.lst xb) ∧ ArgsAt CN G (bs.map blkA) xb ∧ as.length ≤ 1001 ∧ bs.length ≤ 1001 ∧
  (∀ x ∈ as, dpA 16 (blkA x) ∧ (keyA x).length ≤ 900000) ∧ (∀ x ∈ bs, dpA 16 (blkA x) ∧ (keyA x).length ≤ 900000) ∧
  ∀ v' G' H', Ext G H G' H' → (∃ F ys, v' = .ref F ∧ G' F = some (.lst ys) ∧ ArgsAt CN G' ((groups (stepsA as bs).length (stepsA as bs)).map editN) ys) → Q v' H'
abbrev s_difference_edits : Stmt := top 78
theorem sc_difference_edits : FnScope ["first", "second"] ["first", "second"] (defScope s_difference_edits) := ⟨rfl, rfl, rfl, by decide +kernel, rfl, by decide +kernel, by decide +kernel⟩
theorem ok_difference_edits {CP CN : Addr} (D : Dn K mg "difference_edits" s_difference_edits ["first", "second"]) (o_steps_between : OwnOk P w K mg base CX0 37 "steps_between" ["first", "second"] (spSteps CP CN)) (o_joined_edits : OwnOk P w K mg base CX0 5 "joined_edits" ["steps"] (spJoined2 CP CN)) :
    OwnOk P w K mg base CX0 38 "difference_edits" ["first", "second"] (spDifE CN) := by
  refine own_ok D sc_difference_edits (fun _ _ _ _ h => by obtain ⟨_, _, _, _, _, _, _, rfl, _⟩ := h; rfl) (fun f cdv A outer s H vs Q E hr h => ⟨_, (pss_one (ps_ret (pe_own o_joined_edits (hr.mono (by omega)) rfl pass0 (pa_cons (pe_own o_steps_between (hr.mono (by omega)) rfl pass0 (pa_cons (pv 0) (pa_cons (pv 1) pa_nil))) pa_nil)))), ?_⟩)
  obtain ⟨G, as, bs, a, b, xa, xb, rfl, sG, ha, hxa, hb, hxb, hla, hlb, hka, hkb, q⟩ := h
  walk_at "sx"
  refine ⟨G, as, bs, a, b, xa, xb, rfl, sG, ha, hxa, hb, hxb, by omega, by omega, hka, hkb, fun v1 G1 H1 e1 hv1 => ?_⟩
  obtain ⟨F, ys, rfl, hF, hp⟩ := hv1
  have hsl := steps_len (tabE (as.map keyA) (bs.map keyA)) (as.length + bs.length + 1) 0 0 (keyedA as) (keyedA bs)
  rw [keyedA_len, keyedA_len] at hsl
  have hsl : (stepsA as bs).length ≤ as.length + bs.length := hsl
  exact ⟨G1, F, ys, stepsA as bs, rfl, e1.sub, hF, hp, fun s hs => steps_kd _ _ _ _ _ _ s hs, by omega, fun v2 G2 H2 e2 hv2 => q v2 G2 H2 (e1.trans e2) hv2⟩
theorem wn_deep {CN : Addr} {j : Nat} (D : Dn K mg "write_nodes" s_write_nodes ["nodes"]) (c_LINE_FEED : IsC mg "LINE_FEED" (.int 10)) (o_write_list : OwnOk P w K mg base CX0 (2 * j + 4) "write_list" ["node"] (spWrL CN j)) (o_joined : OwnOk P w K mg base CX0 1 "joined" ["texts", "separator"] spJoined) :
    OwnOk P w K mg base CX0 (2 * j + 5) "write_nodes" ["nodes"] (spWrNs CN j) := by
  refine own_ok D sc_write_nodes (fun _ _ _ _ h => by obtain ⟨_, _, _, _, rfl, _⟩ := h; rfl) (fun f cdv A outer s H vs Q E hr h => ⟨_, (pss_one (ps_ret (pe_own o_joined (hr.mono (by omega)) rfl pass0 (pa_cons (pe_lc (own := [("node", 1)]) (g := gName 1) (tt := tYes) rfl sc_write_nodes.nd (kpi_list (K := K) rfl (pv 0)) (blkOk_by (N := ["nodes", "node"]) (sc := defScope s_write_nodes) (by decide +kernel)) (fun _ _ _ _ _ => pg_name (i := 1) sc_write_nodes.nd rfl (Or.inl rfl)) (fun _ _ _ _ _ => pts_nil) (fun _ _ _ _ _ => (pe_own o_write_list (hr.mono (by omega)) rfl pass0 (pa_cons (pv 1) pa_nil)))) (pa_cons (pe_lst (pa_cons (pe_cst (by rfl) c_LINE_FEED) pa_nil)) pa_nil))))), ?_⟩)
  obtain ⟨G, b, xs, ns, rfl, sG, hb, hx, hok, hlen, q⟩ := h
  have hc := join_count 10 (ns.map (wrArg j))
  have hm := join_mem_le [10] (ns.map (wrArg j))
  rw [List.length_map] at hc
  refine ⟨_, rfl, b, rfl, ⟨_, SqL.of (sG _ _ hb)⟩, fun F hF => lc_of (R := fun n v G => ArgAt CN G n v) Ls (fun _ => true) (wrArg j) (SqL.of (sG _ _ hb)) sG (argsP hx) (by rw [← paired_len (argsP hx)]; exact lt_line (by omega)) hF
    (fun n v _ _ s h => ArgAt.same s n v h) (fun _ _ _ _ s h => h.same s) (fun _ => rfl) (fun m x G2 H2 hm e hx Q' k => k _ (Same.refl _)) (fun m x G2 H2 hm0 e hx _ Q' k => ?_) (fun G2 H2 ys e hFl gF hy => ?_)⟩
  · exact ⟨_, rfl, G2, x, m, rfl, e.sub, hx, (hok m hm0).1, (hok m hm0).2, by have := hm _ (List.mem_map_of_mem hm0); omega, k⟩
  · rw [filter_yes] at hy
    have e1 := e.pub hF hFl
    walk_at "sx"
    refine ⟨by decide, fun p hp => ?_⟩
    have e2 := e1.made (o := .lst [V.int 10]) hp
    have up : Same G2 (upd (upd G2 F (.lst ys)) p (.lst [V.int 10])) := (same_new gF).trans (same_new (e1.gnone hp))
    exact ⟨_, (ns.map (wrArg j), [10]), e2.sub, ⟨_, _, rfl, ⟨F, ys, rfl, same_new (e1.gnone hp) _ _ upd_same, paired_same (fun _ _ _ _ s h => h.same s) up (lsSq hy)⟩, ⟨p, rfl, upd_same⟩, by show (Kh450.joinTexts [10] (ns.map (wrArg j))).length ≤ _; omega⟩, fun v G' H' e3 hv => q v G' H' (e2.trans e3) hv⟩
theorem rd_perr2 {d : List Nat} {y : Nat × Nat} (hl : d.length ≤ 1000000) (hd : rdDoc d = .error y) : Kh450.parse d = .error y := by
  rw [doc_eq hl] at hd; unfold docA at hd
  cases h : Kh450.parse d with
  | error z => rw [h] at hd; cases hd; rfl
  | ok z => rw [h] at hd; cases hd
def difW (as bs : List Block) : List Nat := Kh450.joinTexts [10] (((groups (stepsA as bs).length (stepsA as bs)).map editN).map (wrArg 17))
def difA (d1 d2 : List Nat) : List Int := match Kh450.parse d1 with
  | .error _ => [-20]
  | .ok as => match Kh450.parse d2 with
    | .error _ => [-20]
    | .ok bs => ((difW as bs).length :: difW as bs).map Int.ofNat
def spDif (K : PySem.W.Frag) (T : List (Addr × Str)) : Sp := fun vs H Q _ => ∃ (v1 v : V) (z d : List Nat), vs = [v1, v] ∧ Lr K z v1 H ∧ Lr K d v H ∧ Tabs T H ∧ z.length ≤ 600 ∧ d.length ≤ 600 ∧ (∀ x ∈ z, x < 256) ∧ (∀ x ∈ d, x < 256) ∧ ∀ (p : Addr) H', H' p = some (.lst ((difA z d).map V.int)) → Q (.ref p) H'
abbrev s_difference : Stmt := top 87
theorem sc_difference : FnScope ["first", "second"] ["first", "second"] (defScope s_difference) := ⟨rfl, rfl, rfl, by decide +kernel, rfl, by decide +kernel, by decide +kernel⟩
theorem fn_difference {f CF CE CN cs Ps : Addr} {T : List (Addr × Str)} {oc kV doc pm ct : Value} {od an : Option Addr} {sl : Array (Option Value)} (l : K.lookup f = some ⟨oc, od, .func (PySem.W.fnOf "difference" "difference" (defArgs s_difference) (defBody s_difference) (defScope s_difference) .none kV doc pm an (.ref cs) ct), sl⟩) (hcd : PySem.W.codeIn K (.ref cs) "difference" = true)
    (tb_difference : TabB base mg cs Ps) (mem : (Ps, ("difference.<locals>.<lambda>" : Str)) ∈ T) (one : ∀ p ∈ T, p.1 = Ps → p.2 = "difference.<locals>.<lambda>") (o_answer_text : OwnAct P w K mg base 5 "answer_text" T (TTtext K CF T "answer_text.<locals>.<lambda>"))
    (o_read_document : OwnOk P w K mg base (L2.CX P w) 71 "read_document" ["data"] (spDoc K CN CE)) (o_difference_edits : OwnOk P w K mg base CX0 38 "difference_edits" ["first", "second"] (spDifE CN)) (o_write_nodes : OwnOk P w K mg base CX0 (2 * 17 + 5) "write_nodes" ["nodes"] (spWrNs CN 17))
    (te : PySem.W.exmOne K (.ref CE) (.ref CF) = some true) (tx : XfC K CE) (nc : PySem.W.findIn K (.ref CE) "code" = some none) :
    FnOk P w K mg base CX0 78 f (PySem.W.fnOf "difference" "difference" (defArgs s_difference) (defBody s_difference) (defScope s_difference) .none kV doc pm an (.ref cs) ct) ["first", "second"] (spDif K T) := by
  refine def_okC l hcd sc_difference (fun _ _ _ _ h => by obtain ⟨_, _, _, _, rfl, _⟩ := h; rfl) (fun A outer s H vs Q E hr h => ⟨_, pss_one (ps_ret (pe_imp (pe_lam2 (k := 71) (t := fun E => tCall (spWrNs CN 17) [] E0 (tCons (tCall (spDifE CN) [] E0 (tCons (tCall (spDoc K CN CE) [] E (tCons (tVar 0) tNil)) (tCons (tCall (spDoc K CN CE) [] E (tCons (tVar 1) tNil)) tNil))) tNil)) o_answer_text rfl tb_difference rfl mem one (hr.mono (by omega)) (lamS_by (sc := defScope s_difference) (by decide +kernel)) rfl (fun _ _ _ _ _ => rfl)
    (fun pins σ H1 s1 I1 A2 outer2 z Hz E f2 c2 un old hr2 => pe_own o_write_nodes (hr2.mono (by omega)) (by rfl) pass0 (pa_cons (pe_own o_difference_edits (hr2.mono (by omega)) (by rfl) pass0 (pa_cons (pe_own o_read_document (hr2.mono (by omega)) (by rfl) (L2.passes_call (L2.takes_of rfl rfl rfl rfl) (fun _ _ _ _ h => h)) (pa_cons (pv 0) pa_nil)) (pa_cons (pe_own o_read_document (hr2.mono (by omega)) (by rfl) (L2.passes_call (L2.takes_of rfl rfl rfl rfl) (fun _ _ _ _ h => h)) (pa_cons (pv 1) pa_nil)) pa_nil))) pa_nil))) fun _ _ _ => text_of)), ?_⟩)
  obtain ⟨v1, v, z, d, rfl, hv1, hv, tabs, hzl, hlen, hbz, hby, q⟩ := h
  refine ⟨tabs, fun H1 g1 => ?_⟩
  refine ⟨_, rfl, H1, v1, z, rfl, Same.refl H1, hv1.grow2 g1, by omega, hbz, ?_⟩
  unfold difA at q
  cases hd1 : rdDoc z with
  | error y =>
    rw [rd_perr2 (by omega) hd1] at q
    exact fun H3 dE s3 hdE => EA_mk te tx nc upd_same rfl fun p hp => q p _ upd_same
  | ok ns1 =>
  obtain ⟨as, hp1, rfl⟩ := rdDoc_blks (by omega) hd1
  rw [hp1] at q
  rintro y1 G2 H3 e2 ⟨a, xa, rfl, ha, hxa⟩
  refine ⟨_, rfl, G2, v, d, rfl, e2.sub, (hv.grow2 g1).same e2.same, by omega, hby, ?_⟩
  cases hd2 : rdDoc d with
  | error y =>
    rw [rd_perr2 (by omega) hd2] at q
    exact fun H3 dE s3 hdE => EA_mk te tx nc upd_same rfl fun p hp => q p _ upd_same
  | ok ns2 =>
  obtain ⟨bs, hp2, rfl⟩ := rdDoc_blks (by omega) hd2
  rw [hp2] at q
  rintro y2 G3 H4 e3 ⟨b, xb, rfl, hb, hxb⟩
  obtain ⟨f1, f2, f3, f4, f5, f6, f7⟩ := dif_fits (by omega) (by omega) hd1 hd2
  refine ⟨G3, as, bs, a, b, xa, xb, rfl, e3.sub, e3.up _ _ ha, ArgsAt.same e3.up _ _ hxa, hb, hxb, f3, f4, f1, f2, fun y4 G4 H5 e4 hy => ?_⟩
  obtain ⟨F, ys, rfl, hF, hys⟩ := hy
  refine ⟨G4, F, ys, _, rfl, e4.sub, hF, hys, f5, f6, fun v5 G5 H6 e5 hv5 => ?_⟩
  refine ⟨G5, difW as bs, e5.sub, ⟨_, rfl, hv5, f6⟩, fun z G6 H7 e6 hz => ?_⟩
  obtain ⟨p, rfl, hp⟩ := hz
  refine q p _ ?_
  rw [e6.sub _ _ hp, List.map_map]
  rfl

end
end Bt

namespace Bt
open PySem PySem.Spec PyProof.Rows L2
/-- what difference answers is what the specification asks -/
theorem dif_is (z l : List Int) (hz : z.length ≤ 600) (hl : l.length ≤ 600) : (PyKh450.difference z l).map V.int = (difA (z.map Int.toNat) (l.map Int.toNat)).map V.int := by
  have h1 : (z.map Int.toNat).length ≤ 1000 := by rw [List.length_map]; omega
  have h2 : (l.map Int.toNat).length ≤ 1000 := by rw [List.length_map]; omega
  have e : PyKh450.difference z l = Kh450Neutral.integers (Kh450.answer (.difference (z.map Int.toNat) (l.map Int.toNat))) := rfl
  rw [e]
  generalize z.map Int.toNat = z at *
  generalize l.map Int.toNat = l at *
  unfold difA
  show (Kh450Neutral.integers (Kh450.withTree z fun a => Kh450.withTree l fun b => Kh450.bytesResult (Kh450.lines ((Kh450.difference a b).map Kh450.writeEdit)))).map V.int = _
  unfold Kh450.withTree
  cases hp1 : Kh450.parse z with
  | error y => rfl
  | ok a =>
    cases hp2 : Kh450.parse l with
    | error y => rfl
    | ok b =>
      simp only
      have d1 := doc_ok (by omega) hp1
      have d2 := doc_ok (by omega) hp2
      obtain ⟨_, _, _, _, _, _, f7⟩ := dif_fits h1 h2 d1 d2
      have hw : difW a b = Kh450.lines ((Kh450.difference a b).map Kh450.writeEdit) := by
        unfold difW
        rw [f7, write_join]; rfl
      rw [hw]; rfl
end Bt

namespace Bt
open PySem PySem.Spec PyProof.Rows L2
/-! ### what the end wants: written tables, errors by their base -/
def kyOf (e : DictEntry) : Option (Str × Int) := match e.key with
  | .str z _ => some (z, e.hash)
  | _ => none
def kysIn (p : Params) (ks : List Str) : List (Option (Str × Int)) := ks.map fun z => some (z, PyData.keyHash p z)
theorem kys_lit {p : Params} : ∀ {l : List DictEntry} {ks : List Str}, l.map kyOf = kysIn p ks → PySem.W.KeysLit p l ∧ ∀ e ∈ l, ∃ z t, e.key = .str z t ∧ z ∈ ks
  | [], _, _ => ⟨trivial, fun _ h => by cases h⟩
  | e :: r, [], h => by cases h
  | e :: r, k :: ks, h => by
    have h1 : kyOf e :: r.map kyOf = some (k, PyData.keyHash p k) :: kysIn p ks := h
    injection h1 with h2 h3
    obtain ⟨i1, i2⟩ := kys_lit h3
    have key : ∃ t, e.key = .str k t ∧ e.hash = PyData.keyHash p k := by
      unfold kyOf at h2
      split at h2
      · rename_i z t q
        injection h2 with h2
        injection h2 with h4 h5
        exact ⟨t, by rw [q, h4], h5⟩
      · cases h2
    obtain ⟨t, q1, q2⟩ := key
    refine ⟨⟨⟨k, t, q1, q2⟩, i1⟩, fun x hx => ?_⟩
    rcases List.mem_cons.mp hx with rfl | hx
    · exact ⟨k, t, q1, List.mem_cons_self⟩
    · obtain ⟨z, t', a, b⟩ := i2 x hx
      exact ⟨z, t', a, List.mem_cons_of_mem _ b⟩
theorem nsIn_no {K : PySem.W.Frag} {p : Params} {d n : Nat} {es : Array DictEntry} {ks : List Str} {z : Str} (l : K.lookup d = some ⟨.type "dict", none, .dict es n, #[]⟩) (e : es.toList.map kyOf = kysIn p ks) (h : z ∉ ks) : PySem.W.nsIn K d z = some none := by
  obtain ⟨_, i⟩ := kys_lit e
  unfold PySem.W.nsIn
  rw [l]
  have f : es.toList.find? (fun x => x.key.isStr z) = none := List.find?_eq_none.mpr fun x hx => by
    obtain ⟨y, t, q, hy⟩ := i x hx
    rw [q, PySem.W.isStr_of]
    intro c
    have : z = y := (by simpa [Value.isStrOf] using c : y = z).symm
    exact h (this ▸ hy)
  have g : es.toList.any (fun x => x.refKey) = false := List.any_eq_false.mpr fun x hx => by
    obtain ⟨y, t, q, _⟩ := i x hx
    simp [DictEntry.refKey, q]
  simp only [f, g]
  rfl
/-- the entries of a table, one by one -/
def TbAll (K : PySem.W.Frag) (d : Nat) (tb : List (Str × List Str)) : Prop := ∀ p ∈ tb, ∃ a, PySem.W.nsIn K d p.1 = some (some (.ref a)) ∧ ∀ H, SqT K H a (p.2.map V.str)
theorem tbAll_nil {K : PySem.W.Frag} {d : Nat} : TbAll K d [] := fun _ h => by cases h
theorem tbAll_cons {K : PySem.W.Frag} {d a : Nat} {k : Str} {ws : List Str} {r : List (Str × List Str)} (h : PySem.W.nsIn K d k = some (some (.ref a)) ∧ ∀ H, SqT K H a (ws.map V.str)) (t : TbAll K d r) : TbAll K d ((k, ws) :: r) := fun p hp => by
  rcases List.mem_cons.mp hp with rfl | hp
  · exact ⟨a, h⟩
  · exact t p hp
def shortOk (tb : List (Str × List Str)) : Bool := tb.all fun p => decide (p.2.length ≤ 100) && p.2.all fun y => !y.cps.toList.isEmpty && decide (y.length ≤ 100)
theorem tb_mk {K : PySem.W.Frag} {w : World} {d n : Nat} {es : Array DictEntry} {ks : List Str} {tb : List (Str × List Str)} (l : K.lookup d = some ⟨.type "dict", none, .dict es n, #[]⟩) (e : es.toList.map kyOf = kysIn w.params ks) (low : (d == sysModules) = false)
    (hk : tb.map (·.1) = ks) (hs : shortOk tb = true) (all : TbAll K d tb) : Tb K w d es n tb := by
  refine ⟨⟨l, (kys_lit e).1, low⟩, fun z => ?_⟩
  cases h : tb.lookup z with
  | none =>
    refine nsIn_no l e fun hz => ?_
    rw [← hk] at hz
    obtain ⟨p, hp, rfl⟩ := List.mem_map.mp hz
    clear all hs hk e
    induction tb with
    | nil => cases hp
    | cons x r ih =>
      obtain ⟨a, b⟩ := x
      by_cases q : (p.1 == a) = true
      · simp only [List.lookup, q] at h; cases h
      · simp only [Bool.not_eq_true] at q
        simp only [List.lookup, q] at h
        rcases List.mem_cons.mp hp with rfl | hp
        · simp at q
        · exact ih hp h (List.mem_map.mpr ⟨p, hp, rfl⟩)
  | some ws =>
    have hm := lookup_key h
    have := List.all_eq_true.mp hs _ hm
    simp only [Bool.and_eq_true, decide_eq_true_eq, List.all_eq_true, Bool.not_eq_true'] at this
    refine ⟨all _ hm, this.1, fun y hy => ⟨fun z => ?_, (this.2 y hy).2⟩⟩
    have := (this.2 y hy).1
    rw [z] at this; cases this
/-- isinstance of an own class, by subIn -/
theorem kit_sub {K : PySem.W.Frag} {C : Addr} {t : Value} {b : Bool} (ic : PySem.W.isClsIn K C = true) (ty : PySem.W.typeIn K (.ref C) = some (.type "type")) (su : PySem.W.subIn K t (.ref C) = some b) (ne : (t == Value.ref C) = false) : PySem.W.kitOne K t (.ref C) = some b := by
  unfold PySem.W.kitOne
  rw [ne]
  show PySem.W.kitCls K t (.ref C) = some b
  unfold PySem.W.kitCls
  show (if ((PySem.W.clsIn K C).isSome && PySem.W.typeIn K (.ref C) == some (.type "type")) = true then PySem.W.subIn K t (.ref C) else none) = some b
  have ic : (PySem.W.clsIn K C).isSome = true := ic
  rw [ic, ty, su]
  rfl
theorem kit_me {K : PySem.W.Frag} {C : Addr} : PySem.W.kitOne K (.ref C) (.ref C) = some true := by
  unfold PySem.W.kitOne
  rw [if_pos (by simp)]
end Bt

namespace Bt
open PySem PySem.Spec PyProof.Rows L2 LamX
open PySem.W (Codec OpenSpec)
theorem nV_toNat : ∀ {l : List Int}, (∀ x ∈ l, 0 ≤ x ∧ x ≤ 255) → nV (l.map Int.toNat) = l.map V.int
  | [], _ => rfl
  | x :: r, h => by
    have hx := h x (by simp)
    have ih := nV_toNat (l := r) fun y hy => h y (by simp [hy])
    show V.int ((x.toNat : Nat) : Int) :: nV (r.map Int.toNat) = V.int x :: r.map V.int
    rw [ih, Int.toNat_of_nonneg hx.1]
theorem tab_obj {q : Program} {loose : List Str} {mean : ExcName → Option Value} {mg mb : Str → Option Value} {K : PySem.W.Frag} {h : Heap} {x : Str} {f c P : Nat} {oc oc2 : Value} {od od2 : Option Addr} {fd : FuncData} {sl sl2 : Array (Option Value)} {vs : Array Value} (T : Top q loose mean mg mb h) (hd : ((recsOf q).find? (fun e => e.name == x)).isSome = true) (X : K.In h)
    (a : PySem.W.nsIn K mainGlobals x = some (some (.ref f))) (l : K.lookup f = some ⟨oc, od, .func fd, sl⟩) (hc : fd.code = .ref c) (lc : K.lookup c = some ⟨oc2, od2, .fields vs, sl2⟩) (hv : vs[11]? = some (.ref P)) : PySem.W.CodeHd h c P ∧ h.get? P = some { cls := .none, data := .fields #[] } := by
  obtain ⟨d, hd⟩ := Option.isSome_iff_exists.mp hd
  exact tab_def (n := 0) T X hd a l hc lc hv
theorem all_mk {P : Program} {w : World} {K : PySem.W.Frag} {q : Program} {loose : List Str} {mean : ExcName → Option Value} {h : Heap} {mg mb : Str → Option Value} {fa : Addr} {Goal : Prop} (X : K.In h) (top : Top q loose mean mg mb h) (hfa : mg "difference" = some (.ref fa))
    (fi_answer_text : ((recsOf q).find? (fun e => e.name == ("answer_text" : Str))).isSome = true)
    (fi_difference : ((recsOf q).find? (fun e => e.name == ("difference" : Str))).isSome = true)
    (fin : ∀ (fd : FuncData) (cs : List (Addr × Addr)) (T : List (Addr × Str)), (∀ p ∈ cs, PySem.W.CodeHd h p.1 p.2 ∧ h.get? p.2 = some { cls := .none, data := .fields #[] }) → (∀ p ∈ cs, K.lookup p.2 = none) → (∀ (s : Shared) (us : List Value), us.length = (["first", "second"] : List Str).length → BindsTo s fd ⟨us, []⟩ ((["first", "second"] : List Str).zip us)) →
      (∀ base : Heap, K.In base → base.Ns mainGlobals mg → (∀ p ∈ cs, TabB base mg p.1 p.2) → FnOk P w K mg base CX0 78 fa fd ["first", "second"] ((fun K T => spDif K T) K T)) → (∀ H : Hp, (∀ p ∈ cs, H p.2 = some (.tbl #[])) → Tabs T H) → Goal)
    {f_ascii_bytes : Addr} {oc_ascii_bytes kV_ascii_bytes dc_ascii_bytes pm_ascii_bytes cd_ascii_bytes ct_ascii_bytes : Value} {od_ascii_bytes an_ascii_bytes : Option Addr} {sl_ascii_bytes : Array (Option Value)}
    {f_is_space : Addr} {oc_is_space kV_is_space dc_is_space pm_is_space cd_is_space ct_is_space : Value} {od_is_space an_is_space : Option Addr} {sl_is_space : Array (Option Value)}
    {f_is_lowercase : Addr} {oc_is_lowercase kV_is_lowercase dc_is_lowercase pm_is_lowercase cd_is_lowercase ct_is_lowercase : Value} {od_is_lowercase an_is_lowercase : Option Addr} {sl_is_lowercase : Array (Option Value)}
    {f_is_uppercase : Addr} {oc_is_uppercase kV_is_uppercase dc_is_uppercase pm_is_uppercase cd_is_uppercase ct_is_uppercase : Value} {od_is_uppercase an_is_uppercase : Option Addr} {sl_is_uppercase : Array (Option Value)}
    {f_is_digit : Addr} {oc_is_digit kV_is_digit dc_is_digit pm_is_digit cd_is_digit ct_is_digit : Value} {od_is_digit an_is_digit : Option Addr} {sl_is_digit : Array (Option Value)}
    {f_is_letter_or_digit : Addr} {oc_is_letter_or_digit kV_is_letter_or_digit dc_is_letter_or_digit pm_is_letter_or_digit cd_is_letter_or_digit ct_is_letter_or_digit : Value} {od_is_letter_or_digit an_is_letter_or_digit : Option Addr} {sl_is_letter_or_digit : Array (Option Value)}
    {f_is_continuation : Addr} {oc_is_continuation kV_is_continuation dc_is_continuation pm_is_continuation cd_is_continuation ct_is_continuation : Value} {od_is_continuation an_is_continuation : Option Addr} {sl_is_continuation : Array (Option Value)}
    {f_announced_length : Addr} {oc_announced_length kV_announced_length dc_announced_length pm_announced_length cd_announced_length ct_announced_length : Value} {od_announced_length an_announced_length : Option Addr} {sl_announced_length : Array (Option Value)}
    {f_second_byte_fits : Addr} {oc_second_byte_fits kV_second_byte_fits dc_second_byte_fits pm_second_byte_fits cd_second_byte_fits ct_second_byte_fits : Value} {od_second_byte_fits an_second_byte_fits : Option Addr} {sl_second_byte_fits : Array (Option Value)}
    {f_sequence_length : Addr} {oc_sequence_length kV_sequence_length dc_sequence_length pm_sequence_length cd_sequence_length ct_sequence_length : Value} {od_sequence_length an_sequence_length : Option Addr} {sl_sequence_length : Array (Option Value)}
    {f_encoded : Addr} {oc_encoded kV_encoded dc_encoded pm_encoded cd_encoded ct_encoded : Value} {od_encoded an_encoded : Option Addr} {sl_encoded : Array (Option Value)}
    {f_continuation : Addr} {oc_continuation kV_continuation dc_continuation pm_continuation cd_continuation ct_continuation : Value} {od_continuation an_continuation : Option Addr} {sl_continuation : Array (Option Value)}
    {f_joined : Addr} {oc_joined kV_joined dc_joined pm_joined cd_joined ct_joined : Value} {od_joined an_joined : Option Addr} {sl_joined : Array (Option Value)}
    {f_is_symbol_byte : Addr} {oc_is_symbol_byte kV_is_symbol_byte dc_is_symbol_byte pm_is_symbol_byte cd_is_symbol_byte ct_is_symbol_byte : Value} {od_is_symbol_byte an_is_symbol_byte : Option Addr} {sl_is_symbol_byte : Array (Option Value)}
    {f_symbol_sign : Addr} {oc_symbol_sign kV_symbol_sign dc_symbol_sign pm_symbol_sign cd_symbol_sign ct_symbol_sign : Value} {od_symbol_sign an_symbol_sign : Option Addr} {sl_symbol_sign : Array (Option Value)}
    {f_hex_value : Addr} {oc_hex_value kV_hex_value dc_hex_value pm_hex_value cd_hex_value ct_hex_value : Value} {od_hex_value an_hex_value : Option Addr} {sl_hex_value : Array (Option Value)}
    {f_is_hex_digit : Addr} {oc_is_hex_digit kV_is_hex_digit dc_is_hex_digit pm_is_hex_digit cd_is_hex_digit ct_is_hex_digit : Value} {od_is_hex_digit an_is_hex_digit : Option Addr} {sl_is_hex_digit : Array (Option Value)}
    {f_is_code_point : Addr} {oc_is_code_point kV_is_code_point dc_is_code_point pm_is_code_point cd_is_code_point ct_is_code_point : Value} {od_is_code_point an_is_code_point : Option Addr} {sl_is_code_point : Array (Option Value)}
    {f_read_expressions : Addr} {oc_read_expressions kV_read_expressions dc_read_expressions pm_read_expressions cd_read_expressions ct_read_expressions : Value} {od_read_expressions an_read_expressions : Option Addr} {sl_read_expressions : Array (Option Value)}
    {f_leaf : Addr} {oc_leaf kV_leaf dc_leaf pm_leaf cd_leaf ct_leaf : Value} {od_leaf an_leaf : Option Addr} {sl_leaf : Array (Option Value)}
    {f_block_shape : Addr} {oc_block_shape kV_block_shape dc_block_shape pm_block_shape cd_block_shape ct_block_shape : Value} {od_block_shape an_block_shape : Option Addr} {sl_block_shape : Array (Option Value)}
    {f_inline_shape : Addr} {oc_inline_shape kV_inline_shape dc_inline_shape pm_inline_shape cd_inline_shape ct_inline_shape : Value} {od_inline_shape an_inline_shape : Option Addr} {sl_inline_shape : Array (Option Value)}
    {f_part_shape : Addr} {oc_part_shape kV_part_shape dc_part_shape pm_part_shape cd_part_shape ct_part_shape : Value} {od_part_shape an_part_shape : Option Addr} {sl_part_shape : Array (Option Value)}
    {f_read_document : Addr} {oc_read_document kV_read_document dc_read_document pm_read_document cd_read_document ct_read_document : Value} {od_read_document an_read_document : Option Addr} {sl_read_document : Array (Option Value)}
    {f_is_label : Addr} {oc_is_label kV_is_label dc_is_label pm_is_label cd_is_label ct_is_label : Value} {od_is_label an_is_label : Option Addr} {sl_is_label : Array (Option Value)}
    {f_is_label_byte : Addr} {oc_is_label_byte kV_is_label_byte dc_is_label_byte pm_is_label_byte cd_is_label_byte ct_is_label_byte : Value} {od_is_label_byte an_is_label_byte : Option Addr} {sl_is_label_byte : Array (Option Value)}
    {f_list_symbol : Addr} {oc_list_symbol kV_list_symbol dc_list_symbol pm_list_symbol cd_list_symbol ct_list_symbol : Value} {od_list_symbol an_list_symbol : Option Addr} {sl_list_symbol : Array (Option Value)}
    {f_read_block : Addr} {oc_read_block kV_read_block dc_read_block pm_read_block cd_read_block ct_read_block : Value} {od_read_block an_read_block : Option Addr} {sl_read_block : Array (Option Value)}
    {f_read_inline : Addr} {oc_read_inline kV_read_inline dc_read_inline pm_read_inline cd_read_inline ct_read_inline : Value} {od_read_inline an_read_inline : Option Addr} {sl_read_inline : Array (Option Value)}
    {f_read_shaped : Addr} {oc_read_shaped kV_read_shaped dc_read_shaped pm_read_shaped cd_read_shaped ct_read_shaped : Value} {od_read_shaped an_read_shaped : Option Addr} {sl_read_shaped : Array (Option Value)}
    {f_read_list : Addr} {oc_read_list kV_read_list dc_read_list pm_read_list cd_read_list ct_read_list : Value} {od_read_list an_read_list : Option Addr} {sl_read_list : Array (Option Value)}
    {f_read_argument : Addr} {oc_read_argument kV_read_argument dc_read_argument pm_read_argument cd_read_argument ct_read_argument : Value} {od_read_argument an_read_argument : Option Addr} {sl_read_argument : Array (Option Value)}
    {f_read_string : Addr} {oc_read_string kV_read_string dc_read_string pm_read_string cd_read_string ct_read_string : Value} {od_read_string an_read_string : Option Addr} {sl_read_string : Array (Option Value)}
    {f_is_level : Addr} {oc_is_level kV_is_level dc_is_level pm_is_level cd_is_level ct_is_level : Value} {od_is_level an_is_level : Option Addr} {sl_is_level : Array (Option Value)}
    {f_read_level : Addr} {oc_read_level kV_read_level dc_read_level pm_read_level cd_read_level ct_read_level : Value} {od_read_level an_read_level : Option Addr} {sl_read_level : Array (Option Value)}
    {f_read_alignment : Addr} {oc_read_alignment kV_read_alignment dc_read_alignment pm_read_alignment cd_read_alignment ct_read_alignment : Value} {od_read_alignment an_read_alignment : Option Addr} {sl_read_alignment : Array (Option Value)}
    {f_read_part : Addr} {oc_read_part kV_read_part dc_read_part pm_read_part cd_read_part ct_read_part : Value} {od_read_part an_read_part : Option Addr} {sl_read_part : Array (Option Value)}
    {f_require_part : Addr} {oc_require_part kV_require_part dc_require_part pm_require_part cd_require_part ct_require_part : Value} {od_require_part an_require_part : Option Addr} {sl_require_part : Array (Option Value)}
    {f_begins_with_list : Addr} {oc_begins_with_list kV_begins_with_list dc_begins_with_list pm_begins_with_list cd_begins_with_list ct_begins_with_list : Value} {od_begins_with_list an_begins_with_list : Option Addr} {sl_begins_with_list : Array (Option Value)}
    {f_read_row : Addr} {oc_read_row kV_read_row dc_read_row pm_read_row cd_read_row ct_read_row : Value} {od_read_row an_read_row : Option Addr} {sl_read_row : Array (Option Value)}
    {f_write_nodes : Addr} {oc_write_nodes kV_write_nodes dc_write_nodes pm_write_nodes cd_write_nodes ct_write_nodes : Value} {od_write_nodes an_write_nodes : Option Addr} {sl_write_nodes : Array (Option Value)}
    {f_write_list : Addr} {oc_write_list kV_write_list dc_write_list pm_write_list cd_write_list ct_write_list : Value} {od_write_list an_write_list : Option Addr} {sl_write_list : Array (Option Value)}
    {f_write_part : Addr} {oc_write_part kV_write_part dc_write_part pm_write_part cd_write_part ct_write_part : Value} {od_write_part an_write_part : Option Addr} {sl_write_part : Array (Option Value)}
    {f_write_string : Addr} {oc_write_string kV_write_string dc_write_string pm_write_string cd_write_string ct_write_string : Value} {od_write_string an_write_string : Option Addr} {sl_write_string : Array (Option Value)}
    {f_write_byte : Addr} {oc_write_byte kV_write_byte dc_write_byte pm_write_byte cd_write_byte ct_write_byte : Value} {od_write_byte an_write_byte : Option Addr} {sl_write_byte : Array (Option Value)}
    {f_short_hex : Addr} {oc_short_hex kV_short_hex dc_short_hex pm_short_hex cd_short_hex ct_short_hex : Value} {od_short_hex an_short_hex : Option Addr} {sl_short_hex : Array (Option Value)}
    {f_difference_edits : Addr} {oc_difference_edits kV_difference_edits dc_difference_edits pm_difference_edits cd_difference_edits ct_difference_edits : Value} {od_difference_edits an_difference_edits : Option Addr} {sl_difference_edits : Array (Option Value)}
    {f_steps_between : Addr} {oc_steps_between kV_steps_between dc_steps_between pm_steps_between cd_steps_between ct_steps_between : Value} {od_steps_between an_steps_between : Option Addr} {sl_steps_between : Array (Option Value)}
    {f_common_lengths : Addr} {oc_common_lengths kV_common_lengths dc_common_lengths pm_common_lengths cd_common_lengths ct_common_lengths : Value} {od_common_lengths an_common_lengths : Option Addr} {sl_common_lengths : Array (Option Value)}
    {f_joined_edits : Addr} {oc_joined_edits kV_joined_edits dc_joined_edits pm_joined_edits cd_joined_edits ct_joined_edits : Value} {od_joined_edits an_joined_edits : Option Addr} {sl_joined_edits : Array (Option Value)}
    {f_edit_of : Addr} {oc_edit_of kV_edit_of dc_edit_of pm_edit_of cd_edit_of ct_edit_of : Value} {od_edit_of an_edit_of : Option Addr} {sl_edit_of : Array (Option Value)}
    {f_answer : Addr} {oc_answer kV_answer dc_answer pm_answer cd_answer ct_answer : Value} {od_answer an_answer : Option Addr} {sl_answer : Array (Option Value)}
    {f_answer_text : Addr} {oc_answer_text kV_answer_text dc_answer_text pm_answer_text ct_answer_text : Value} {cc_answer_text pp_answer_text : Nat} {oc2_answer_text : Value} {od2_answer_text : Option Addr} {vs_answer_text : Array Value} {sl2_answer_text : Array (Option Value)} {od_answer_text an_answer_text : Option Addr} {sl_answer_text : Array (Option Value)}
    {f_with_length : Addr} {oc_with_length kV_with_length dc_with_length pm_with_length cd_with_length ct_with_length : Value} {od_with_length an_with_length : Option Addr} {sl_with_length : Array (Option Value)}
    {f_difference : Addr} {oc_difference kV_difference dc_difference pm_difference ct_difference : Value} {cc_difference pp_difference : Nat} {oc2_difference : Value} {od2_difference : Option Addr} {vs_difference : Array Value} {sl2_difference : Array (Option Value)} {od_difference an_difference : Option Addr} {sl_difference : Array (Option Value)}
    {t_SPACE : Tok}
    {t_TAB : Tok}
    {t_LINE_FEED : Tok}
    {t_CARRIAGE_RETURN : Tok}
    {t_DEEPEST_NESTING : Tok}
    {t_MOST_DIGITS : Tok}
    {t_LARGEST_CODE : Tok}
    {t_LETTERS : Tok}
    {t_DIGITS : Tok}
    {d_BLOCKS n_BLOCKS : Nat} {es_BLOCKS : Array DictEntry}
    {d_BLOCKS_0 : Addr}
    {od_BLOCKS_0 : Option Addr} {nn_BLOCKS_0 : Nat} {sl_BLOCKS_0 : Array (Option Value)} {tk_BLOCKS_0_0 : Tok}
    {d_BLOCKS_1 : Addr}
    {od_BLOCKS_1 : Option Addr} {nn_BLOCKS_1 : Nat} {sl_BLOCKS_1 : Array (Option Value)} {tk_BLOCKS_1_0 tk_BLOCKS_1_1 tk_BLOCKS_1_2 : Tok}
    {d_BLOCKS_2 : Addr}
    {od_BLOCKS_2 : Option Addr} {nn_BLOCKS_2 : Nat} {sl_BLOCKS_2 : Array (Option Value)} {tk_BLOCKS_2_0 tk_BLOCKS_2_1 : Tok}
    {d_BLOCKS_3 : Addr}
    {od_BLOCKS_3 : Option Addr} {nn_BLOCKS_3 : Nat} {sl_BLOCKS_3 : Array (Option Value)} {tk_BLOCKS_3_0 tk_BLOCKS_3_1 : Tok}
    {d_BLOCKS_4 : Addr}
    {od_BLOCKS_4 : Option Addr} {nn_BLOCKS_4 : Nat} {sl_BLOCKS_4 : Array (Option Value)}
    {d_BLOCKS_5 : Addr}
    {od_BLOCKS_5 : Option Addr} {nn_BLOCKS_5 : Nat} {sl_BLOCKS_5 : Array (Option Value)} {tk_BLOCKS_5_0 : Tok}
    {d_BLOCKS_6 : Addr}
    {od_BLOCKS_6 : Option Addr} {nn_BLOCKS_6 : Nat} {sl_BLOCKS_6 : Array (Option Value)} {tk_BLOCKS_6_0 : Tok}
    {d_BLOCKS_7 : Addr}
    {od_BLOCKS_7 : Option Addr} {nn_BLOCKS_7 : Nat} {sl_BLOCKS_7 : Array (Option Value)} {tk_BLOCKS_7_0 tk_BLOCKS_7_1 : Tok}
    {d_BLOCKS_8 : Addr}
    {od_BLOCKS_8 : Option Addr} {nn_BLOCKS_8 : Nat} {sl_BLOCKS_8 : Array (Option Value)} {tk_BLOCKS_8_0 : Tok}
    {d_BLOCKS_9 : Addr}
    {od_BLOCKS_9 : Option Addr} {nn_BLOCKS_9 : Nat} {sl_BLOCKS_9 : Array (Option Value)} {tk_BLOCKS_9_0 tk_BLOCKS_9_1 tk_BLOCKS_9_2 tk_BLOCKS_9_3 : Tok}
    {d_BLOCKS_10 : Addr}
    {od_BLOCKS_10 : Option Addr} {nn_BLOCKS_10 : Nat} {sl_BLOCKS_10 : Array (Option Value)} {tk_BLOCKS_10_0 tk_BLOCKS_10_1 tk_BLOCKS_10_2 : Tok}
    {d_BLOCKS_11 : Addr}
    {od_BLOCKS_11 : Option Addr} {nn_BLOCKS_11 : Nat} {sl_BLOCKS_11 : Array (Option Value)} {tk_BLOCKS_11_0 tk_BLOCKS_11_1 : Tok}
    {d_BLOCKS_12 : Addr}
    {od_BLOCKS_12 : Option Addr} {nn_BLOCKS_12 : Nat} {sl_BLOCKS_12 : Array (Option Value)} {tk_BLOCKS_12_0 tk_BLOCKS_12_1 : Tok}
    {d_INLINES n_INLINES : Nat} {es_INLINES : Array DictEntry}
    {d_INLINES_0 : Addr}
    {od_INLINES_0 : Option Addr} {nn_INLINES_0 : Nat} {sl_INLINES_0 : Array (Option Value)} {tk_INLINES_0_0 : Tok}
    {d_INLINES_1 : Addr}
    {od_INLINES_1 : Option Addr} {nn_INLINES_1 : Nat} {sl_INLINES_1 : Array (Option Value)} {tk_INLINES_1_0 : Tok}
    {d_INLINES_2 : Addr}
    {od_INLINES_2 : Option Addr} {nn_INLINES_2 : Nat} {sl_INLINES_2 : Array (Option Value)}
    {d_INLINES_3 : Addr}
    {od_INLINES_3 : Option Addr} {nn_INLINES_3 : Nat} {sl_INLINES_3 : Array (Option Value)} {tk_INLINES_3_0 : Tok}
    {d_INLINES_4 : Addr}
    {od_INLINES_4 : Option Addr} {nn_INLINES_4 : Nat} {sl_INLINES_4 : Array (Option Value)} {tk_INLINES_4_0 : Tok}
    {d_INLINES_5 : Addr}
    {od_INLINES_5 : Option Addr} {nn_INLINES_5 : Nat} {sl_INLINES_5 : Array (Option Value)} {tk_INLINES_5_0 : Tok}
    {d_INLINES_6 : Addr}
    {od_INLINES_6 : Option Addr} {nn_INLINES_6 : Nat} {sl_INLINES_6 : Array (Option Value)} {tk_INLINES_6_0 : Tok}
    {d_INLINES_7 : Addr}
    {od_INLINES_7 : Option Addr} {nn_INLINES_7 : Nat} {sl_INLINES_7 : Array (Option Value)} {tk_INLINES_7_0 : Tok}
    {d_INLINES_8 : Addr}
    {od_INLINES_8 : Option Addr} {nn_INLINES_8 : Nat} {sl_INLINES_8 : Array (Option Value)} {tk_INLINES_8_0 : Tok}
    {d_INLINES_9 : Addr}
    {od_INLINES_9 : Option Addr} {nn_INLINES_9 : Nat} {sl_INLINES_9 : Array (Option Value)} {tk_INLINES_9_0 : Tok}
    {d_INLINES_10 : Addr}
    {od_INLINES_10 : Option Addr} {nn_INLINES_10 : Nat} {sl_INLINES_10 : Array (Option Value)} {tk_INLINES_10_0 : Tok}
    {d_INLINES_11 : Addr}
    {od_INLINES_11 : Option Addr} {nn_INLINES_11 : Nat} {sl_INLINES_11 : Array (Option Value)} {tk_INLINES_11_0 : Tok}
    {d_INLINES_12 : Addr}
    {od_INLINES_12 : Option Addr} {nn_INLINES_12 : Nat} {sl_INLINES_12 : Array (Option Value)} {tk_INLINES_12_0 tk_INLINES_12_1 : Tok}
    {d_INLINES_13 : Addr}
    {od_INLINES_13 : Option Addr} {nn_INLINES_13 : Nat} {sl_INLINES_13 : Array (Option Value)} {tk_INLINES_13_0 tk_INLINES_13_1 : Tok}
    {d_INLINES_14 : Addr}
    {od_INLINES_14 : Option Addr} {nn_INLINES_14 : Nat} {sl_INLINES_14 : Array (Option Value)} {tk_INLINES_14_0 tk_INLINES_14_1 : Tok}
    {d_PARTS n_PARTS : Nat} {es_PARTS : Array DictEntry}
    {d_PARTS_0 : Addr}
    {od_PARTS_0 : Option Addr} {nn_PARTS_0 : Nat} {sl_PARTS_0 : Array (Option Value)} {tk_PARTS_0_0 : Tok}
    {d_PARTS_1 : Addr}
    {od_PARTS_1 : Option Addr} {nn_PARTS_1 : Nat} {sl_PARTS_1 : Array (Option Value)} {tk_PARTS_1_0 tk_PARTS_1_1 : Tok}
    {d_PARTS_2 : Addr}
    {od_PARTS_2 : Option Addr} {nn_PARTS_2 : Nat} {sl_PARTS_2 : Array (Option Value)} {tk_PARTS_2_0 : Tok}
    {d_PARTS_3 : Addr}
    {od_PARTS_3 : Option Addr} {nn_PARTS_3 : Nat} {sl_PARTS_3 : Array (Option Value)} {tk_PARTS_3_0 : Tok}
    {d_PARTS_4 : Addr}
    {od_PARTS_4 : Option Addr} {nn_PARTS_4 : Nat} {sl_PARTS_4 : Array (Option Value)} {tk_PARTS_4_0 : Tok}
    {d_PARTS_5 : Addr}
    {od_PARTS_5 : Option Addr} {nn_PARTS_5 : Nat} {sl_PARTS_5 : Array (Option Value)} {tk_PARTS_5_0 : Tok}
    {d_PARTS_6 : Addr}
    {od_PARTS_6 : Option Addr} {nn_PARTS_6 : Nat} {sl_PARTS_6 : Array (Option Value)} {tk_PARTS_6_0 : Tok}
    {t_LONGEST_LABEL : Tok}
    {t_HIGHEST_LEVEL : Tok}
    {d_ALIGNMENTS : Addr}
    {od_ALIGNMENTS : Option Addr} {nn_ALIGNMENTS : Nat} {sl_ALIGNMENTS : Array (Option Value)} {tk_ALIGNMENTS_0 tk_ALIGNMENTS_1 tk_ALIGNMENTS_2 tk_ALIGNMENTS_3 : Tok}
    {t_HEX_DIGITS : Tok}
    {C_Refusal : Addr}
    {nm_Refusal qn_Refusal : Str} {N_Refusal : Addr} {bs_Refusal bm_Refusal sub_Refusal : List Value} {sn_Refusal : List Str} {ab_Refusal : Bool} {co_Refusal : Option Bool} {dd_Refusal : Option Addr} {x0_Refusal x1_Refusal x2_Refusal x3_Refusal x5_Refusal : Option Value}
    {f_Refusal_init : Addr} {oc_Refusal_init kV_Refusal_init dc_Refusal_init pm_Refusal_init cd_Refusal_init ct_Refusal_init : Value} {od_Refusal_init an_Refusal_init : Option Addr} {sl_Refusal_init : Array (Option Value)}
    {C_NotationError : Addr}
    {nm_NotationError qn_NotationError : Str} {N_NotationError : Addr} {bs_NotationError bm_NotationError sub_NotationError : List Value} {sn_NotationError : List Str} {ab_NotationError : Bool} {co_NotationError : Option Bool} {dd_NotationError : Option Addr} {x0_NotationError x1_NotationError x2_NotationError x3_NotationError x5_NotationError : Option Value}
    {f_NotationError_init : Addr} {oc_NotationError_init kV_NotationError_init dc_NotationError_init pm_NotationError_init cd_NotationError_init ct_NotationError_init : Value} {od_NotationError_init an_NotationError_init : Option Addr} {sl_NotationError_init : Array (Option Value)}
    {C_Expression : Addr}
    {f_Expression_init : Addr} {oc_Expression_init kV_Expression_init dc_Expression_init pm_Expression_init cd_Expression_init ct_Expression_init : Value} {od_Expression_init an_Expression_init : Option Addr} {sl_Expression_init : Array (Option Value)}
    {C_Reader : Addr}
    {f_Reader_init : Addr} {oc_Reader_init kV_Reader_init dc_Reader_init pm_Reader_init cd_Reader_init ct_Reader_init : Value} {od_Reader_init an_Reader_init : Option Addr} {sl_Reader_init : Array (Option Value)}
    {f_Reader_read_all : Addr} {oc_Reader_read_all kV_Reader_read_all dc_Reader_read_all pm_Reader_read_all cd_Reader_read_all ct_Reader_read_all : Value} {od_Reader_read_all an_Reader_read_all : Option Addr} {sl_Reader_read_all : Array (Option Value)}
    {f_Reader_skip_blanks : Addr} {oc_Reader_skip_blanks kV_Reader_skip_blanks dc_Reader_skip_blanks pm_Reader_skip_blanks cd_Reader_skip_blanks ct_Reader_skip_blanks : Value} {od_Reader_skip_blanks an_Reader_skip_blanks : Option Addr} {sl_Reader_skip_blanks : Array (Option Value)}
    {f_Reader_read_next : Addr} {oc_Reader_read_next kV_Reader_read_next dc_Reader_read_next pm_Reader_read_next cd_Reader_read_next ct_Reader_read_next : Value} {od_Reader_read_next an_Reader_read_next : Option Addr} {sl_Reader_read_next : Array (Option Value)}
    {f_Reader_add_expression : Addr} {oc_Reader_add_expression kV_Reader_add_expression dc_Reader_add_expression pm_Reader_add_expression cd_Reader_add_expression ct_Reader_add_expression : Value} {od_Reader_add_expression an_Reader_add_expression : Option Addr} {sl_Reader_add_expression : Array (Option Value)}
    {f_Reader_begin_list : Addr} {oc_Reader_begin_list kV_Reader_begin_list dc_Reader_begin_list pm_Reader_begin_list cd_Reader_begin_list ct_Reader_begin_list : Value} {od_Reader_begin_list an_Reader_begin_list : Option Addr} {sl_Reader_begin_list : Array (Option Value)}
    {f_Reader_end_list : Addr} {oc_Reader_end_list kV_Reader_end_list dc_Reader_end_list pm_Reader_end_list cd_Reader_end_list ct_Reader_end_list : Value} {od_Reader_end_list an_Reader_end_list : Option Addr} {sl_Reader_end_list : Array (Option Value)}
    {f_Reader_read_integer : Addr} {oc_Reader_read_integer kV_Reader_read_integer dc_Reader_read_integer pm_Reader_read_integer cd_Reader_read_integer ct_Reader_read_integer : Value} {od_Reader_read_integer an_Reader_read_integer : Option Addr} {sl_Reader_read_integer : Array (Option Value)}
    {f_Reader_read_symbol : Addr} {oc_Reader_read_symbol kV_Reader_read_symbol dc_Reader_read_symbol pm_Reader_read_symbol cd_Reader_read_symbol ct_Reader_read_symbol : Value} {od_Reader_read_symbol an_Reader_read_symbol : Option Addr} {sl_Reader_read_symbol : Array (Option Value)}
    {f_Reader_take_while : Addr} {oc_Reader_take_while kV_Reader_take_while dc_Reader_take_while pm_Reader_take_while cd_Reader_take_while ct_Reader_take_while : Value} {od_Reader_take_while an_Reader_take_while : Option Addr} {sl_Reader_take_while : Array (Option Value)}
    {f_Reader_read_string : Addr} {oc_Reader_read_string kV_Reader_read_string dc_Reader_read_string pm_Reader_read_string cd_Reader_read_string ct_Reader_read_string : Value} {od_Reader_read_string an_Reader_read_string : Option Addr} {sl_Reader_read_string : Array (Option Value)}
    {f_Reader_string_byte : Addr} {oc_Reader_string_byte kV_Reader_string_byte dc_Reader_string_byte pm_Reader_string_byte cd_Reader_string_byte ct_Reader_string_byte : Value} {od_Reader_string_byte an_Reader_string_byte : Option Addr} {sl_Reader_string_byte : Array (Option Value)}
    {f_Reader_read_character : Addr} {oc_Reader_read_character kV_Reader_read_character dc_Reader_read_character pm_Reader_read_character cd_Reader_read_character ct_Reader_read_character : Value} {od_Reader_read_character an_Reader_read_character : Option Addr} {sl_Reader_read_character : Array (Option Value)}
    {f_Reader_read_escape : Addr} {oc_Reader_read_escape kV_Reader_read_escape dc_Reader_read_escape pm_Reader_read_escape cd_Reader_read_escape ct_Reader_read_escape : Value} {od_Reader_read_escape an_Reader_read_escape : Option Addr} {sl_Reader_read_escape : Array (Option Value)}
    {f_Reader_read_code_point : Addr} {oc_Reader_read_code_point kV_Reader_read_code_point dc_Reader_read_code_point pm_Reader_read_code_point cd_Reader_read_code_point ct_Reader_read_code_point : Value} {od_Reader_read_code_point an_Reader_read_code_point : Option Addr} {sl_Reader_read_code_point : Array (Option Value)}
    {f_Reader_skip_sign : Addr} {oc_Reader_skip_sign kV_Reader_skip_sign dc_Reader_skip_sign pm_Reader_skip_sign cd_Reader_skip_sign ct_Reader_skip_sign : Value} {od_Reader_skip_sign an_Reader_skip_sign : Option Addr} {sl_Reader_skip_sign : Array (Option Value)}
    {C_Node : Addr}
    {f_Node_init : Addr} {oc_Node_init kV_Node_init dc_Node_init pm_Node_init cd_Node_init ct_Node_init : Value} {od_Node_init an_Node_init : Option Addr} {sl_Node_init : Array (Option Value)}
    {C_Shape : Addr}
    {f_Shape_init : Addr} {oc_Shape_init kV_Shape_init dc_Shape_init pm_Shape_init cd_Shape_init ct_Shape_init : Value} {od_Shape_init an_Shape_init : Option Addr} {sl_Shape_init : Array (Option Value)}
    {f_Shape_allows_number : Addr} {oc_Shape_allows_number kV_Shape_allows_number dc_Shape_allows_number pm_Shape_allows_number cd_Shape_allows_number ct_Shape_allows_number : Value} {od_Shape_allows_number an_Shape_allows_number : Option Addr} {sl_Shape_allows_number : Array (Option Value)}
    {f_Shape_begins_with_integer : Addr} {oc_Shape_begins_with_integer kV_Shape_begins_with_integer dc_Shape_begins_with_integer pm_Shape_begins_with_integer cd_Shape_begins_with_integer ct_Shape_begins_with_integer : Value} {od_Shape_begins_with_integer an_Shape_begins_with_integer : Option Addr} {sl_Shape_begins_with_integer : Array (Option Value)}
    {C_Step : Addr}
    {f_Step_init : Addr} {oc_Step_init kV_Step_init dc_Step_init pm_Step_init cd_Step_init ct_Step_init : Value} {od_Step_init an_Step_init : Option Addr} {sl_Step_init : Array (Option Value)}
    (a_ascii_bytes : PySem.W.nsIn K mainGlobals "ascii_bytes" = some (some (.ref f_ascii_bytes)))
    (l_ascii_bytes : K.lookup f_ascii_bytes = some ⟨oc_ascii_bytes, od_ascii_bytes, .func (PySem.W.fnOf "ascii_bytes" "ascii_bytes" (defArgs s_ascii_bytes) (defBody s_ascii_bytes) (defScope s_ascii_bytes) .none kV_ascii_bytes dc_ascii_bytes pm_ascii_bytes an_ascii_bytes cd_ascii_bytes ct_ascii_bytes), sl_ascii_bytes⟩)
    (c_ascii_bytes : PySem.W.codeIn K cd_ascii_bytes "ascii_bytes" = true)
    (k_ascii_bytes : PySem.W.keepIn K (.ref f_ascii_bytes) = true)
    (a_is_space : PySem.W.nsIn K mainGlobals "is_space" = some (some (.ref f_is_space)))
    (l_is_space : K.lookup f_is_space = some ⟨oc_is_space, od_is_space, .func (PySem.W.fnOf "is_space" "is_space" (defArgs s_is_space) (defBody s_is_space) (defScope s_is_space) .none kV_is_space dc_is_space pm_is_space an_is_space cd_is_space ct_is_space), sl_is_space⟩)
    (c_is_space : PySem.W.codeIn K cd_is_space "is_space" = true)
    (k_is_space : PySem.W.keepIn K (.ref f_is_space) = true)
    (a_is_lowercase : PySem.W.nsIn K mainGlobals "is_lowercase" = some (some (.ref f_is_lowercase)))
    (l_is_lowercase : K.lookup f_is_lowercase = some ⟨oc_is_lowercase, od_is_lowercase, .func (PySem.W.fnOf "is_lowercase" "is_lowercase" (defArgs s_is_lowercase) (defBody s_is_lowercase) (defScope s_is_lowercase) .none kV_is_lowercase dc_is_lowercase pm_is_lowercase an_is_lowercase cd_is_lowercase ct_is_lowercase), sl_is_lowercase⟩)
    (c_is_lowercase : PySem.W.codeIn K cd_is_lowercase "is_lowercase" = true)
    (k_is_lowercase : PySem.W.keepIn K (.ref f_is_lowercase) = true)
    (a_is_uppercase : PySem.W.nsIn K mainGlobals "is_uppercase" = some (some (.ref f_is_uppercase)))
    (l_is_uppercase : K.lookup f_is_uppercase = some ⟨oc_is_uppercase, od_is_uppercase, .func (PySem.W.fnOf "is_uppercase" "is_uppercase" (defArgs s_is_uppercase) (defBody s_is_uppercase) (defScope s_is_uppercase) .none kV_is_uppercase dc_is_uppercase pm_is_uppercase an_is_uppercase cd_is_uppercase ct_is_uppercase), sl_is_uppercase⟩)
    (c_is_uppercase : PySem.W.codeIn K cd_is_uppercase "is_uppercase" = true)
    (k_is_uppercase : PySem.W.keepIn K (.ref f_is_uppercase) = true)
    (a_is_digit : PySem.W.nsIn K mainGlobals "is_digit" = some (some (.ref f_is_digit)))
    (l_is_digit : K.lookup f_is_digit = some ⟨oc_is_digit, od_is_digit, .func (PySem.W.fnOf "is_digit" "is_digit" (defArgs s_is_digit) (defBody s_is_digit) (defScope s_is_digit) .none kV_is_digit dc_is_digit pm_is_digit an_is_digit cd_is_digit ct_is_digit), sl_is_digit⟩)
    (c_is_digit : PySem.W.codeIn K cd_is_digit "is_digit" = true)
    (k_is_digit : PySem.W.keepIn K (.ref f_is_digit) = true)
    (a_is_letter_or_digit : PySem.W.nsIn K mainGlobals "is_letter_or_digit" = some (some (.ref f_is_letter_or_digit)))
    (l_is_letter_or_digit : K.lookup f_is_letter_or_digit = some ⟨oc_is_letter_or_digit, od_is_letter_or_digit, .func (PySem.W.fnOf "is_letter_or_digit" "is_letter_or_digit" (defArgs s_is_letter_or_digit) (defBody s_is_letter_or_digit) (defScope s_is_letter_or_digit) .none kV_is_letter_or_digit dc_is_letter_or_digit pm_is_letter_or_digit an_is_letter_or_digit cd_is_letter_or_digit ct_is_letter_or_digit), sl_is_letter_or_digit⟩)
    (c_is_letter_or_digit : PySem.W.codeIn K cd_is_letter_or_digit "is_letter_or_digit" = true)
    (k_is_letter_or_digit : PySem.W.keepIn K (.ref f_is_letter_or_digit) = true)
    (a_is_continuation : PySem.W.nsIn K mainGlobals "is_continuation" = some (some (.ref f_is_continuation)))
    (l_is_continuation : K.lookup f_is_continuation = some ⟨oc_is_continuation, od_is_continuation, .func (PySem.W.fnOf "is_continuation" "is_continuation" (defArgs s_is_continuation) (defBody s_is_continuation) (defScope s_is_continuation) .none kV_is_continuation dc_is_continuation pm_is_continuation an_is_continuation cd_is_continuation ct_is_continuation), sl_is_continuation⟩)
    (c_is_continuation : PySem.W.codeIn K cd_is_continuation "is_continuation" = true)
    (k_is_continuation : PySem.W.keepIn K (.ref f_is_continuation) = true)
    (a_announced_length : PySem.W.nsIn K mainGlobals "announced_length" = some (some (.ref f_announced_length)))
    (l_announced_length : K.lookup f_announced_length = some ⟨oc_announced_length, od_announced_length, .func (PySem.W.fnOf "announced_length" "announced_length" (defArgs s_announced_length) (defBody s_announced_length) (defScope s_announced_length) .none kV_announced_length dc_announced_length pm_announced_length an_announced_length cd_announced_length ct_announced_length), sl_announced_length⟩)
    (c_announced_length : PySem.W.codeIn K cd_announced_length "announced_length" = true)
    (k_announced_length : PySem.W.keepIn K (.ref f_announced_length) = true)
    (a_second_byte_fits : PySem.W.nsIn K mainGlobals "second_byte_fits" = some (some (.ref f_second_byte_fits)))
    (l_second_byte_fits : K.lookup f_second_byte_fits = some ⟨oc_second_byte_fits, od_second_byte_fits, .func (PySem.W.fnOf "second_byte_fits" "second_byte_fits" (defArgs s_second_byte_fits) (defBody s_second_byte_fits) (defScope s_second_byte_fits) .none kV_second_byte_fits dc_second_byte_fits pm_second_byte_fits an_second_byte_fits cd_second_byte_fits ct_second_byte_fits), sl_second_byte_fits⟩)
    (c_second_byte_fits : PySem.W.codeIn K cd_second_byte_fits "second_byte_fits" = true)
    (k_second_byte_fits : PySem.W.keepIn K (.ref f_second_byte_fits) = true)
    (a_sequence_length : PySem.W.nsIn K mainGlobals "sequence_length" = some (some (.ref f_sequence_length)))
    (l_sequence_length : K.lookup f_sequence_length = some ⟨oc_sequence_length, od_sequence_length, .func (PySem.W.fnOf "sequence_length" "sequence_length" (defArgs s_sequence_length) (defBody s_sequence_length) (defScope s_sequence_length) .none kV_sequence_length dc_sequence_length pm_sequence_length an_sequence_length cd_sequence_length ct_sequence_length), sl_sequence_length⟩)
    (c_sequence_length : PySem.W.codeIn K cd_sequence_length "sequence_length" = true)
    (k_sequence_length : PySem.W.keepIn K (.ref f_sequence_length) = true)
    (a_encoded : PySem.W.nsIn K mainGlobals "encoded" = some (some (.ref f_encoded)))
    (l_encoded : K.lookup f_encoded = some ⟨oc_encoded, od_encoded, .func (PySem.W.fnOf "encoded" "encoded" (defArgs s_encoded) (defBody s_encoded) (defScope s_encoded) .none kV_encoded dc_encoded pm_encoded an_encoded cd_encoded ct_encoded), sl_encoded⟩)
    (c_encoded : PySem.W.codeIn K cd_encoded "encoded" = true)
    (k_encoded : PySem.W.keepIn K (.ref f_encoded) = true)
    (a_continuation : PySem.W.nsIn K mainGlobals "continuation" = some (some (.ref f_continuation)))
    (l_continuation : K.lookup f_continuation = some ⟨oc_continuation, od_continuation, .func (PySem.W.fnOf "continuation" "continuation" (defArgs s_continuation) (defBody s_continuation) (defScope s_continuation) .none kV_continuation dc_continuation pm_continuation an_continuation cd_continuation ct_continuation), sl_continuation⟩)
    (c_continuation : PySem.W.codeIn K cd_continuation "continuation" = true)
    (k_continuation : PySem.W.keepIn K (.ref f_continuation) = true)
    (a_joined : PySem.W.nsIn K mainGlobals "joined" = some (some (.ref f_joined)))
    (l_joined : K.lookup f_joined = some ⟨oc_joined, od_joined, .func (PySem.W.fnOf "joined" "joined" (defArgs s_joined) (defBody s_joined) (defScope s_joined) .none kV_joined dc_joined pm_joined an_joined cd_joined ct_joined), sl_joined⟩)
    (c_joined : PySem.W.codeIn K cd_joined "joined" = true)
    (k_joined : PySem.W.keepIn K (.ref f_joined) = true)
    (a_is_symbol_byte : PySem.W.nsIn K mainGlobals "is_symbol_byte" = some (some (.ref f_is_symbol_byte)))
    (l_is_symbol_byte : K.lookup f_is_symbol_byte = some ⟨oc_is_symbol_byte, od_is_symbol_byte, .func (PySem.W.fnOf "is_symbol_byte" "is_symbol_byte" (defArgs s_is_symbol_byte) (defBody s_is_symbol_byte) (defScope s_is_symbol_byte) .none kV_is_symbol_byte dc_is_symbol_byte pm_is_symbol_byte an_is_symbol_byte cd_is_symbol_byte ct_is_symbol_byte), sl_is_symbol_byte⟩)
    (c_is_symbol_byte : PySem.W.codeIn K cd_is_symbol_byte "is_symbol_byte" = true)
    (k_is_symbol_byte : PySem.W.keepIn K (.ref f_is_symbol_byte) = true)
    (a_symbol_sign : PySem.W.nsIn K mainGlobals "symbol_sign" = some (some (.ref f_symbol_sign)))
    (l_symbol_sign : K.lookup f_symbol_sign = some ⟨oc_symbol_sign, od_symbol_sign, .func (PySem.W.fnOf "symbol_sign" "symbol_sign" (defArgs s_symbol_sign) (defBody s_symbol_sign) (defScope s_symbol_sign) .none kV_symbol_sign dc_symbol_sign pm_symbol_sign an_symbol_sign cd_symbol_sign ct_symbol_sign), sl_symbol_sign⟩)
    (c_symbol_sign : PySem.W.codeIn K cd_symbol_sign "symbol_sign" = true)
    (k_symbol_sign : PySem.W.keepIn K (.ref f_symbol_sign) = true)
    (a_hex_value : PySem.W.nsIn K mainGlobals "hex_value" = some (some (.ref f_hex_value)))
    (l_hex_value : K.lookup f_hex_value = some ⟨oc_hex_value, od_hex_value, .func (PySem.W.fnOf "hex_value" "hex_value" (defArgs s_hex_value) (defBody s_hex_value) (defScope s_hex_value) .none kV_hex_value dc_hex_value pm_hex_value an_hex_value cd_hex_value ct_hex_value), sl_hex_value⟩)
    (c_hex_value : PySem.W.codeIn K cd_hex_value "hex_value" = true)
    (k_hex_value : PySem.W.keepIn K (.ref f_hex_value) = true)
    (a_is_hex_digit : PySem.W.nsIn K mainGlobals "is_hex_digit" = some (some (.ref f_is_hex_digit)))
    (l_is_hex_digit : K.lookup f_is_hex_digit = some ⟨oc_is_hex_digit, od_is_hex_digit, .func (PySem.W.fnOf "is_hex_digit" "is_hex_digit" (defArgs s_is_hex_digit) (defBody s_is_hex_digit) (defScope s_is_hex_digit) .none kV_is_hex_digit dc_is_hex_digit pm_is_hex_digit an_is_hex_digit cd_is_hex_digit ct_is_hex_digit), sl_is_hex_digit⟩)
    (c_is_hex_digit : PySem.W.codeIn K cd_is_hex_digit "is_hex_digit" = true)
    (k_is_hex_digit : PySem.W.keepIn K (.ref f_is_hex_digit) = true)
    (a_is_code_point : PySem.W.nsIn K mainGlobals "is_code_point" = some (some (.ref f_is_code_point)))
    (l_is_code_point : K.lookup f_is_code_point = some ⟨oc_is_code_point, od_is_code_point, .func (PySem.W.fnOf "is_code_point" "is_code_point" (defArgs s_is_code_point) (defBody s_is_code_point) (defScope s_is_code_point) .none kV_is_code_point dc_is_code_point pm_is_code_point an_is_code_point cd_is_code_point ct_is_code_point), sl_is_code_point⟩)
    (c_is_code_point : PySem.W.codeIn K cd_is_code_point "is_code_point" = true)
    (k_is_code_point : PySem.W.keepIn K (.ref f_is_code_point) = true)
    (a_read_expressions : PySem.W.nsIn K mainGlobals "read_expressions" = some (some (.ref f_read_expressions)))
    (l_read_expressions : K.lookup f_read_expressions = some ⟨oc_read_expressions, od_read_expressions, .func (PySem.W.fnOf "read_expressions" "read_expressions" (defArgs s_read_expressions) (defBody s_read_expressions) (defScope s_read_expressions) .none kV_read_expressions dc_read_expressions pm_read_expressions an_read_expressions cd_read_expressions ct_read_expressions), sl_read_expressions⟩)
    (c_read_expressions : PySem.W.codeIn K cd_read_expressions "read_expressions" = true)
    (k_read_expressions : PySem.W.keepIn K (.ref f_read_expressions) = true)
    (a_leaf : PySem.W.nsIn K mainGlobals "leaf" = some (some (.ref f_leaf)))
    (l_leaf : K.lookup f_leaf = some ⟨oc_leaf, od_leaf, .func (PySem.W.fnOf "leaf" "leaf" (defArgs s_leaf) (defBody s_leaf) (defScope s_leaf) .none kV_leaf dc_leaf pm_leaf an_leaf cd_leaf ct_leaf), sl_leaf⟩)
    (c_leaf : PySem.W.codeIn K cd_leaf "leaf" = true)
    (k_leaf : PySem.W.keepIn K (.ref f_leaf) = true)
    (a_block_shape : PySem.W.nsIn K mainGlobals "block_shape" = some (some (.ref f_block_shape)))
    (l_block_shape : K.lookup f_block_shape = some ⟨oc_block_shape, od_block_shape, .func (PySem.W.fnOf "block_shape" "block_shape" (defArgs s_block_shape) (defBody s_block_shape) (defScope s_block_shape) .none kV_block_shape dc_block_shape pm_block_shape an_block_shape cd_block_shape ct_block_shape), sl_block_shape⟩)
    (c_block_shape : PySem.W.codeIn K cd_block_shape "block_shape" = true)
    (k_block_shape : PySem.W.keepIn K (.ref f_block_shape) = true)
    (a_inline_shape : PySem.W.nsIn K mainGlobals "inline_shape" = some (some (.ref f_inline_shape)))
    (l_inline_shape : K.lookup f_inline_shape = some ⟨oc_inline_shape, od_inline_shape, .func (PySem.W.fnOf "inline_shape" "inline_shape" (defArgs s_inline_shape) (defBody s_inline_shape) (defScope s_inline_shape) .none kV_inline_shape dc_inline_shape pm_inline_shape an_inline_shape cd_inline_shape ct_inline_shape), sl_inline_shape⟩)
    (c_inline_shape : PySem.W.codeIn K cd_inline_shape "inline_shape" = true)
    (k_inline_shape : PySem.W.keepIn K (.ref f_inline_shape) = true)
    (a_part_shape : PySem.W.nsIn K mainGlobals "part_shape" = some (some (.ref f_part_shape)))
    (l_part_shape : K.lookup f_part_shape = some ⟨oc_part_shape, od_part_shape, .func (PySem.W.fnOf "part_shape" "part_shape" (defArgs s_part_shape) (defBody s_part_shape) (defScope s_part_shape) .none kV_part_shape dc_part_shape pm_part_shape an_part_shape cd_part_shape ct_part_shape), sl_part_shape⟩)
    (c_part_shape : PySem.W.codeIn K cd_part_shape "part_shape" = true)
    (k_part_shape : PySem.W.keepIn K (.ref f_part_shape) = true)
    (a_read_document : PySem.W.nsIn K mainGlobals "read_document" = some (some (.ref f_read_document)))
    (l_read_document : K.lookup f_read_document = some ⟨oc_read_document, od_read_document, .func (PySem.W.fnOf "read_document" "read_document" (defArgs s_read_document) (defBody s_read_document) (defScope s_read_document) .none kV_read_document dc_read_document pm_read_document an_read_document cd_read_document ct_read_document), sl_read_document⟩)
    (c_read_document : PySem.W.codeIn K cd_read_document "read_document" = true)
    (k_read_document : PySem.W.keepIn K (.ref f_read_document) = true)
    (a_is_label : PySem.W.nsIn K mainGlobals "is_label" = some (some (.ref f_is_label)))
    (l_is_label : K.lookup f_is_label = some ⟨oc_is_label, od_is_label, .func (PySem.W.fnOf "is_label" "is_label" (defArgs s_is_label) (defBody s_is_label) (defScope s_is_label) .none kV_is_label dc_is_label pm_is_label an_is_label cd_is_label ct_is_label), sl_is_label⟩)
    (c_is_label : PySem.W.codeIn K cd_is_label "is_label" = true)
    (k_is_label : PySem.W.keepIn K (.ref f_is_label) = true)
    (a_is_label_byte : PySem.W.nsIn K mainGlobals "is_label_byte" = some (some (.ref f_is_label_byte)))
    (l_is_label_byte : K.lookup f_is_label_byte = some ⟨oc_is_label_byte, od_is_label_byte, .func (PySem.W.fnOf "is_label_byte" "is_label_byte" (defArgs s_is_label_byte) (defBody s_is_label_byte) (defScope s_is_label_byte) .none kV_is_label_byte dc_is_label_byte pm_is_label_byte an_is_label_byte cd_is_label_byte ct_is_label_byte), sl_is_label_byte⟩)
    (c_is_label_byte : PySem.W.codeIn K cd_is_label_byte "is_label_byte" = true)
    (k_is_label_byte : PySem.W.keepIn K (.ref f_is_label_byte) = true)
    (a_list_symbol : PySem.W.nsIn K mainGlobals "list_symbol" = some (some (.ref f_list_symbol)))
    (l_list_symbol : K.lookup f_list_symbol = some ⟨oc_list_symbol, od_list_symbol, .func (PySem.W.fnOf "list_symbol" "list_symbol" (defArgs s_list_symbol) (defBody s_list_symbol) (defScope s_list_symbol) .none kV_list_symbol dc_list_symbol pm_list_symbol an_list_symbol cd_list_symbol ct_list_symbol), sl_list_symbol⟩)
    (c_list_symbol : PySem.W.codeIn K cd_list_symbol "list_symbol" = true)
    (k_list_symbol : PySem.W.keepIn K (.ref f_list_symbol) = true)
    (a_read_block : PySem.W.nsIn K mainGlobals "read_block" = some (some (.ref f_read_block)))
    (l_read_block : K.lookup f_read_block = some ⟨oc_read_block, od_read_block, .func (PySem.W.fnOf "read_block" "read_block" (defArgs s_read_block) (defBody s_read_block) (defScope s_read_block) .none kV_read_block dc_read_block pm_read_block an_read_block cd_read_block ct_read_block), sl_read_block⟩)
    (c_read_block : PySem.W.codeIn K cd_read_block "read_block" = true)
    (k_read_block : PySem.W.keepIn K (.ref f_read_block) = true)
    (a_read_inline : PySem.W.nsIn K mainGlobals "read_inline" = some (some (.ref f_read_inline)))
    (l_read_inline : K.lookup f_read_inline = some ⟨oc_read_inline, od_read_inline, .func (PySem.W.fnOf "read_inline" "read_inline" (defArgs s_read_inline) (defBody s_read_inline) (defScope s_read_inline) .none kV_read_inline dc_read_inline pm_read_inline an_read_inline cd_read_inline ct_read_inline), sl_read_inline⟩)
    (c_read_inline : PySem.W.codeIn K cd_read_inline "read_inline" = true)
    (k_read_inline : PySem.W.keepIn K (.ref f_read_inline) = true)
    (a_read_shaped : PySem.W.nsIn K mainGlobals "read_shaped" = some (some (.ref f_read_shaped)))
    (l_read_shaped : K.lookup f_read_shaped = some ⟨oc_read_shaped, od_read_shaped, .func (PySem.W.fnOf "read_shaped" "read_shaped" (defArgs s_read_shaped) (defBody s_read_shaped) (defScope s_read_shaped) .none kV_read_shaped dc_read_shaped pm_read_shaped an_read_shaped cd_read_shaped ct_read_shaped), sl_read_shaped⟩)
    (c_read_shaped : PySem.W.codeIn K cd_read_shaped "read_shaped" = true)
    (k_read_shaped : PySem.W.keepIn K (.ref f_read_shaped) = true)
    (a_read_list : PySem.W.nsIn K mainGlobals "read_list" = some (some (.ref f_read_list)))
    (l_read_list : K.lookup f_read_list = some ⟨oc_read_list, od_read_list, .func (PySem.W.fnOf "read_list" "read_list" (defArgs s_read_list) (defBody s_read_list) (defScope s_read_list) .none kV_read_list dc_read_list pm_read_list an_read_list cd_read_list ct_read_list), sl_read_list⟩)
    (c_read_list : PySem.W.codeIn K cd_read_list "read_list" = true)
    (k_read_list : PySem.W.keepIn K (.ref f_read_list) = true)
    (a_read_argument : PySem.W.nsIn K mainGlobals "read_argument" = some (some (.ref f_read_argument)))
    (l_read_argument : K.lookup f_read_argument = some ⟨oc_read_argument, od_read_argument, .func (PySem.W.fnOf "read_argument" "read_argument" (defArgs s_read_argument) (defBody s_read_argument) (defScope s_read_argument) .none kV_read_argument dc_read_argument pm_read_argument an_read_argument cd_read_argument ct_read_argument), sl_read_argument⟩)
    (c_read_argument : PySem.W.codeIn K cd_read_argument "read_argument" = true)
    (k_read_argument : PySem.W.keepIn K (.ref f_read_argument) = true)
    (a_read_string : PySem.W.nsIn K mainGlobals "read_string" = some (some (.ref f_read_string)))
    (l_read_string : K.lookup f_read_string = some ⟨oc_read_string, od_read_string, .func (PySem.W.fnOf "read_string" "read_string" (defArgs s_read_string) (defBody s_read_string) (defScope s_read_string) .none kV_read_string dc_read_string pm_read_string an_read_string cd_read_string ct_read_string), sl_read_string⟩)
    (c_read_string : PySem.W.codeIn K cd_read_string "read_string" = true)
    (k_read_string : PySem.W.keepIn K (.ref f_read_string) = true)
    (a_is_level : PySem.W.nsIn K mainGlobals "is_level" = some (some (.ref f_is_level)))
    (l_is_level : K.lookup f_is_level = some ⟨oc_is_level, od_is_level, .func (PySem.W.fnOf "is_level" "is_level" (defArgs s_is_level) (defBody s_is_level) (defScope s_is_level) .none kV_is_level dc_is_level pm_is_level an_is_level cd_is_level ct_is_level), sl_is_level⟩)
    (c_is_level : PySem.W.codeIn K cd_is_level "is_level" = true)
    (k_is_level : PySem.W.keepIn K (.ref f_is_level) = true)
    (a_read_level : PySem.W.nsIn K mainGlobals "read_level" = some (some (.ref f_read_level)))
    (l_read_level : K.lookup f_read_level = some ⟨oc_read_level, od_read_level, .func (PySem.W.fnOf "read_level" "read_level" (defArgs s_read_level) (defBody s_read_level) (defScope s_read_level) .none kV_read_level dc_read_level pm_read_level an_read_level cd_read_level ct_read_level), sl_read_level⟩)
    (c_read_level : PySem.W.codeIn K cd_read_level "read_level" = true)
    (k_read_level : PySem.W.keepIn K (.ref f_read_level) = true)
    (a_read_alignment : PySem.W.nsIn K mainGlobals "read_alignment" = some (some (.ref f_read_alignment)))
    (l_read_alignment : K.lookup f_read_alignment = some ⟨oc_read_alignment, od_read_alignment, .func (PySem.W.fnOf "read_alignment" "read_alignment" (defArgs s_read_alignment) (defBody s_read_alignment) (defScope s_read_alignment) .none kV_read_alignment dc_read_alignment pm_read_alignment an_read_alignment cd_read_alignment ct_read_alignment), sl_read_alignment⟩)
    (c_read_alignment : PySem.W.codeIn K cd_read_alignment "read_alignment" = true)
    (k_read_alignment : PySem.W.keepIn K (.ref f_read_alignment) = true)
    (a_read_part : PySem.W.nsIn K mainGlobals "read_part" = some (some (.ref f_read_part)))
    (l_read_part : K.lookup f_read_part = some ⟨oc_read_part, od_read_part, .func (PySem.W.fnOf "read_part" "read_part" (defArgs s_read_part) (defBody s_read_part) (defScope s_read_part) .none kV_read_part dc_read_part pm_read_part an_read_part cd_read_part ct_read_part), sl_read_part⟩)
    (c_read_part : PySem.W.codeIn K cd_read_part "read_part" = true)
    (k_read_part : PySem.W.keepIn K (.ref f_read_part) = true)
    (a_require_part : PySem.W.nsIn K mainGlobals "require_part" = some (some (.ref f_require_part)))
    (l_require_part : K.lookup f_require_part = some ⟨oc_require_part, od_require_part, .func (PySem.W.fnOf "require_part" "require_part" (defArgs s_require_part) (defBody s_require_part) (defScope s_require_part) .none kV_require_part dc_require_part pm_require_part an_require_part cd_require_part ct_require_part), sl_require_part⟩)
    (c_require_part : PySem.W.codeIn K cd_require_part "require_part" = true)
    (k_require_part : PySem.W.keepIn K (.ref f_require_part) = true)
    (a_begins_with_list : PySem.W.nsIn K mainGlobals "begins_with_list" = some (some (.ref f_begins_with_list)))
    (l_begins_with_list : K.lookup f_begins_with_list = some ⟨oc_begins_with_list, od_begins_with_list, .func (PySem.W.fnOf "begins_with_list" "begins_with_list" (defArgs s_begins_with_list) (defBody s_begins_with_list) (defScope s_begins_with_list) .none kV_begins_with_list dc_begins_with_list pm_begins_with_list an_begins_with_list cd_begins_with_list ct_begins_with_list), sl_begins_with_list⟩)
    (c_begins_with_list : PySem.W.codeIn K cd_begins_with_list "begins_with_list" = true)
    (k_begins_with_list : PySem.W.keepIn K (.ref f_begins_with_list) = true)
    (a_read_row : PySem.W.nsIn K mainGlobals "read_row" = some (some (.ref f_read_row)))
    (l_read_row : K.lookup f_read_row = some ⟨oc_read_row, od_read_row, .func (PySem.W.fnOf "read_row" "read_row" (defArgs s_read_row) (defBody s_read_row) (defScope s_read_row) .none kV_read_row dc_read_row pm_read_row an_read_row cd_read_row ct_read_row), sl_read_row⟩)
    (c_read_row : PySem.W.codeIn K cd_read_row "read_row" = true)
    (k_read_row : PySem.W.keepIn K (.ref f_read_row) = true)
    (a_write_nodes : PySem.W.nsIn K mainGlobals "write_nodes" = some (some (.ref f_write_nodes)))
    (l_write_nodes : K.lookup f_write_nodes = some ⟨oc_write_nodes, od_write_nodes, .func (PySem.W.fnOf "write_nodes" "write_nodes" (defArgs s_write_nodes) (defBody s_write_nodes) (defScope s_write_nodes) .none kV_write_nodes dc_write_nodes pm_write_nodes an_write_nodes cd_write_nodes ct_write_nodes), sl_write_nodes⟩)
    (c_write_nodes : PySem.W.codeIn K cd_write_nodes "write_nodes" = true)
    (k_write_nodes : PySem.W.keepIn K (.ref f_write_nodes) = true)
    (a_write_list : PySem.W.nsIn K mainGlobals "write_list" = some (some (.ref f_write_list)))
    (l_write_list : K.lookup f_write_list = some ⟨oc_write_list, od_write_list, .func (PySem.W.fnOf "write_list" "write_list" (defArgs s_write_list) (defBody s_write_list) (defScope s_write_list) .none kV_write_list dc_write_list pm_write_list an_write_list cd_write_list ct_write_list), sl_write_list⟩)
    (c_write_list : PySem.W.codeIn K cd_write_list "write_list" = true)
    (k_write_list : PySem.W.keepIn K (.ref f_write_list) = true)
    (a_write_part : PySem.W.nsIn K mainGlobals "write_part" = some (some (.ref f_write_part)))
    (l_write_part : K.lookup f_write_part = some ⟨oc_write_part, od_write_part, .func (PySem.W.fnOf "write_part" "write_part" (defArgs s_write_part) (defBody s_write_part) (defScope s_write_part) .none kV_write_part dc_write_part pm_write_part an_write_part cd_write_part ct_write_part), sl_write_part⟩)
    (c_write_part : PySem.W.codeIn K cd_write_part "write_part" = true)
    (k_write_part : PySem.W.keepIn K (.ref f_write_part) = true)
    (a_write_string : PySem.W.nsIn K mainGlobals "write_string" = some (some (.ref f_write_string)))
    (l_write_string : K.lookup f_write_string = some ⟨oc_write_string, od_write_string, .func (PySem.W.fnOf "write_string" "write_string" (defArgs s_write_string) (defBody s_write_string) (defScope s_write_string) .none kV_write_string dc_write_string pm_write_string an_write_string cd_write_string ct_write_string), sl_write_string⟩)
    (c_write_string : PySem.W.codeIn K cd_write_string "write_string" = true)
    (k_write_string : PySem.W.keepIn K (.ref f_write_string) = true)
    (a_write_byte : PySem.W.nsIn K mainGlobals "write_byte" = some (some (.ref f_write_byte)))
    (l_write_byte : K.lookup f_write_byte = some ⟨oc_write_byte, od_write_byte, .func (PySem.W.fnOf "write_byte" "write_byte" (defArgs s_write_byte) (defBody s_write_byte) (defScope s_write_byte) .none kV_write_byte dc_write_byte pm_write_byte an_write_byte cd_write_byte ct_write_byte), sl_write_byte⟩)
    (c_write_byte : PySem.W.codeIn K cd_write_byte "write_byte" = true)
    (k_write_byte : PySem.W.keepIn K (.ref f_write_byte) = true)
    (a_short_hex : PySem.W.nsIn K mainGlobals "short_hex" = some (some (.ref f_short_hex)))
    (l_short_hex : K.lookup f_short_hex = some ⟨oc_short_hex, od_short_hex, .func (PySem.W.fnOf "short_hex" "short_hex" (defArgs s_short_hex) (defBody s_short_hex) (defScope s_short_hex) .none kV_short_hex dc_short_hex pm_short_hex an_short_hex cd_short_hex ct_short_hex), sl_short_hex⟩)
    (c_short_hex : PySem.W.codeIn K cd_short_hex "short_hex" = true)
    (k_short_hex : PySem.W.keepIn K (.ref f_short_hex) = true)
    (a_difference_edits : PySem.W.nsIn K mainGlobals "difference_edits" = some (some (.ref f_difference_edits)))
    (l_difference_edits : K.lookup f_difference_edits = some ⟨oc_difference_edits, od_difference_edits, .func (PySem.W.fnOf "difference_edits" "difference_edits" (defArgs s_difference_edits) (defBody s_difference_edits) (defScope s_difference_edits) .none kV_difference_edits dc_difference_edits pm_difference_edits an_difference_edits cd_difference_edits ct_difference_edits), sl_difference_edits⟩)
    (c_difference_edits : PySem.W.codeIn K cd_difference_edits "difference_edits" = true)
    (k_difference_edits : PySem.W.keepIn K (.ref f_difference_edits) = true)
    (a_steps_between : PySem.W.nsIn K mainGlobals "steps_between" = some (some (.ref f_steps_between)))
    (l_steps_between : K.lookup f_steps_between = some ⟨oc_steps_between, od_steps_between, .func (PySem.W.fnOf "steps_between" "steps_between" (defArgs s_steps_between) (defBody s_steps_between) (defScope s_steps_between) .none kV_steps_between dc_steps_between pm_steps_between an_steps_between cd_steps_between ct_steps_between), sl_steps_between⟩)
    (c_steps_between : PySem.W.codeIn K cd_steps_between "steps_between" = true)
    (k_steps_between : PySem.W.keepIn K (.ref f_steps_between) = true)
    (a_common_lengths : PySem.W.nsIn K mainGlobals "common_lengths" = some (some (.ref f_common_lengths)))
    (l_common_lengths : K.lookup f_common_lengths = some ⟨oc_common_lengths, od_common_lengths, .func (PySem.W.fnOf "common_lengths" "common_lengths" (defArgs s_common_lengths) (defBody s_common_lengths) (defScope s_common_lengths) .none kV_common_lengths dc_common_lengths pm_common_lengths an_common_lengths cd_common_lengths ct_common_lengths), sl_common_lengths⟩)
    (c_common_lengths : PySem.W.codeIn K cd_common_lengths "common_lengths" = true)
    (k_common_lengths : PySem.W.keepIn K (.ref f_common_lengths) = true)
    (a_joined_edits : PySem.W.nsIn K mainGlobals "joined_edits" = some (some (.ref f_joined_edits)))
    (l_joined_edits : K.lookup f_joined_edits = some ⟨oc_joined_edits, od_joined_edits, .func (PySem.W.fnOf "joined_edits" "joined_edits" (defArgs s_joined_edits) (defBody s_joined_edits) (defScope s_joined_edits) .none kV_joined_edits dc_joined_edits pm_joined_edits an_joined_edits cd_joined_edits ct_joined_edits), sl_joined_edits⟩)
    (c_joined_edits : PySem.W.codeIn K cd_joined_edits "joined_edits" = true)
    (k_joined_edits : PySem.W.keepIn K (.ref f_joined_edits) = true)
    (a_edit_of : PySem.W.nsIn K mainGlobals "edit_of" = some (some (.ref f_edit_of)))
    (l_edit_of : K.lookup f_edit_of = some ⟨oc_edit_of, od_edit_of, .func (PySem.W.fnOf "edit_of" "edit_of" (defArgs s_edit_of) (defBody s_edit_of) (defScope s_edit_of) .none kV_edit_of dc_edit_of pm_edit_of an_edit_of cd_edit_of ct_edit_of), sl_edit_of⟩)
    (c_edit_of : PySem.W.codeIn K cd_edit_of "edit_of" = true)
    (k_edit_of : PySem.W.keepIn K (.ref f_edit_of) = true)
    (a_answer : PySem.W.nsIn K mainGlobals "answer" = some (some (.ref f_answer)))
    (l_answer : K.lookup f_answer = some ⟨oc_answer, od_answer, .func (PySem.W.fnOf "answer" "answer" (defArgs s_answer) (defBody s_answer) (defScope s_answer) .none kV_answer dc_answer pm_answer an_answer cd_answer ct_answer), sl_answer⟩)
    (c_answer : PySem.W.codeIn K cd_answer "answer" = true)
    (k_answer : PySem.W.keepIn K (.ref f_answer) = true)
    (a_answer_text : PySem.W.nsIn K mainGlobals "answer_text" = some (some (.ref f_answer_text)))
    (l_answer_text : K.lookup f_answer_text = some ⟨oc_answer_text, od_answer_text, .func (PySem.W.fnOf "answer_text" "answer_text" (defArgs s_answer_text) (defBody s_answer_text) (defScope s_answer_text) .none kV_answer_text dc_answer_text pm_answer_text an_answer_text (.ref cc_answer_text) ct_answer_text), sl_answer_text⟩)
    (c_answer_text : PySem.W.codeIn K (.ref cc_answer_text) "answer_text" = true)
    (k_answer_text : PySem.W.keepIn K (.ref f_answer_text) = true)
    (lc_answer_text : K.lookup cc_answer_text = some ⟨oc2_answer_text, od2_answer_text, .fields vs_answer_text, sl2_answer_text⟩)
    (vv_answer_text : vs_answer_text[11]? = some (.ref pp_answer_text))
    (nk_answer_text : K.lookup pp_answer_text = none)
    (a_with_length : PySem.W.nsIn K mainGlobals "with_length" = some (some (.ref f_with_length)))
    (l_with_length : K.lookup f_with_length = some ⟨oc_with_length, od_with_length, .func (PySem.W.fnOf "with_length" "with_length" (defArgs s_with_length) (defBody s_with_length) (defScope s_with_length) .none kV_with_length dc_with_length pm_with_length an_with_length cd_with_length ct_with_length), sl_with_length⟩)
    (c_with_length : PySem.W.codeIn K cd_with_length "with_length" = true)
    (k_with_length : PySem.W.keepIn K (.ref f_with_length) = true)
    (a_difference : PySem.W.nsIn K mainGlobals "difference" = some (some (.ref f_difference)))
    (l_difference : K.lookup f_difference = some ⟨oc_difference, od_difference, .func (PySem.W.fnOf "difference" "difference" (defArgs s_difference) (defBody s_difference) (defScope s_difference) .none kV_difference dc_difference pm_difference an_difference (.ref cc_difference) ct_difference), sl_difference⟩)
    (c_difference : PySem.W.codeIn K (.ref cc_difference) "difference" = true)
    (k_difference : PySem.W.keepIn K (.ref f_difference) = true)
    (lc_difference : K.lookup cc_difference = some ⟨oc2_difference, od2_difference, .fields vs_difference, sl2_difference⟩)
    (vv_difference : vs_difference[11]? = some (.ref pp_difference))
    (nk_difference : K.lookup pp_difference = none)
    (g_SPACE : PySem.W.nsIn K mainGlobals "SPACE" = some (some (.int 32 t_SPACE)))
    (g_TAB : PySem.W.nsIn K mainGlobals "TAB" = some (some (.int 9 t_TAB)))
    (g_LINE_FEED : PySem.W.nsIn K mainGlobals "LINE_FEED" = some (some (.int 10 t_LINE_FEED)))
    (g_CARRIAGE_RETURN : PySem.W.nsIn K mainGlobals "CARRIAGE_RETURN" = some (some (.int 13 t_CARRIAGE_RETURN)))
    (g_DEEPEST_NESTING : PySem.W.nsIn K mainGlobals "DEEPEST_NESTING" = some (some (.int 16 t_DEEPEST_NESTING)))
    (g_MOST_DIGITS : PySem.W.nsIn K mainGlobals "MOST_DIGITS" = some (some (.int 6 t_MOST_DIGITS)))
    (g_LARGEST_CODE : PySem.W.nsIn K mainGlobals "LARGEST_CODE" = some (some (.int 1114111 t_LARGEST_CODE)))
    (g_LETTERS : PySem.W.nsIn K mainGlobals "LETTERS" = some (some (.str "abcdefghijklmnopqrstuvwxyz" t_LETTERS)))
    (g_DIGITS : PySem.W.nsIn K mainGlobals "DIGITS" = some (some (.str "0123456789" t_DIGITS)))
    (g_BLOCKS : PySem.W.nsIn K mainGlobals "BLOCKS" = some (some (.ref d_BLOCKS)))
    (l_BLOCKS : K.lookup d_BLOCKS = some ⟨.type "dict", none, .dict es_BLOCKS n_BLOCKS, #[]⟩)
    (e_BLOCKS : es_BLOCKS.toList.map kyOf = kysIn w.params ["para", "heading", "code", "formula", "rule", "quote", "bullets", "numbers", "terms", "table", "figure", "group", "note"])
    (y_BLOCKS : (d_BLOCKS == sysModules) = false)
    (g_BLOCKS_0 : PySem.W.nsIn K d_BLOCKS "para" = some (some (.ref d_BLOCKS_0)))
    (lt_BLOCKS_0 : K.lookup d_BLOCKS_0 = some ⟨.type "tuple", od_BLOCKS_0, .seq #[.str "inline*" tk_BLOCKS_0_0] nn_BLOCKS_0, sl_BLOCKS_0⟩)
    (g_BLOCKS_1 : PySem.W.nsIn K d_BLOCKS "heading" = some (some (.ref d_BLOCKS_1)))
    (lt_BLOCKS_1 : K.lookup d_BLOCKS_1 = some ⟨.type "tuple", od_BLOCKS_1, .seq #[.str "level" tk_BLOCKS_1_0, .str "identifier" tk_BLOCKS_1_1, .str "inline*" tk_BLOCKS_1_2] nn_BLOCKS_1, sl_BLOCKS_1⟩)
    (g_BLOCKS_2 : PySem.W.nsIn K d_BLOCKS "code" = some (some (.ref d_BLOCKS_2)))
    (lt_BLOCKS_2 : K.lookup d_BLOCKS_2 = some ⟨.type "tuple", od_BLOCKS_2, .seq #[.str "identifier" tk_BLOCKS_2_0, .str "text" tk_BLOCKS_2_1] nn_BLOCKS_2, sl_BLOCKS_2⟩)
    (g_BLOCKS_3 : PySem.W.nsIn K d_BLOCKS "formula" = some (some (.ref d_BLOCKS_3)))
    (lt_BLOCKS_3 : K.lookup d_BLOCKS_3 = some ⟨.type "tuple", od_BLOCKS_3, .seq #[.str "identifier" tk_BLOCKS_3_0, .str "text" tk_BLOCKS_3_1] nn_BLOCKS_3, sl_BLOCKS_3⟩)
    (g_BLOCKS_4 : PySem.W.nsIn K d_BLOCKS "rule" = some (some (.ref d_BLOCKS_4)))
    (lt_BLOCKS_4 : K.lookup d_BLOCKS_4 = some ⟨.type "tuple", od_BLOCKS_4, .seq #[] nn_BLOCKS_4, sl_BLOCKS_4⟩)
    (g_BLOCKS_5 : PySem.W.nsIn K d_BLOCKS "quote" = some (some (.ref d_BLOCKS_5)))
    (lt_BLOCKS_5 : K.lookup d_BLOCKS_5 = some ⟨.type "tuple", od_BLOCKS_5, .seq #[.str "block*" tk_BLOCKS_5_0] nn_BLOCKS_5, sl_BLOCKS_5⟩)
    (g_BLOCKS_6 : PySem.W.nsIn K d_BLOCKS "bullets" = some (some (.ref d_BLOCKS_6)))
    (lt_BLOCKS_6 : K.lookup d_BLOCKS_6 = some ⟨.type "tuple", od_BLOCKS_6, .seq #[.str "item+" tk_BLOCKS_6_0] nn_BLOCKS_6, sl_BLOCKS_6⟩)
    (g_BLOCKS_7 : PySem.W.nsIn K d_BLOCKS "numbers" = some (some (.ref d_BLOCKS_7)))
    (lt_BLOCKS_7 : K.lookup d_BLOCKS_7 = some ⟨.type "tuple", od_BLOCKS_7, .seq #[.str "number" tk_BLOCKS_7_0, .str "item+" tk_BLOCKS_7_1] nn_BLOCKS_7, sl_BLOCKS_7⟩)
    (g_BLOCKS_8 : PySem.W.nsIn K d_BLOCKS "terms" = some (some (.ref d_BLOCKS_8)))
    (lt_BLOCKS_8 : K.lookup d_BLOCKS_8 = some ⟨.type "tuple", od_BLOCKS_8, .seq #[.str "term+" tk_BLOCKS_8_0] nn_BLOCKS_8, sl_BLOCKS_8⟩)
    (g_BLOCKS_9 : PySem.W.nsIn K d_BLOCKS "table" = some (some (.ref d_BLOCKS_9)))
    (lt_BLOCKS_9 : K.lookup d_BLOCKS_9 = some ⟨.type "tuple", od_BLOCKS_9, .seq #[.str "identifier" tk_BLOCKS_9_0, .str "caption" tk_BLOCKS_9_1, .str "align" tk_BLOCKS_9_2, .str "row+" tk_BLOCKS_9_3] nn_BLOCKS_9, sl_BLOCKS_9⟩)
    (g_BLOCKS_10 : PySem.W.nsIn K d_BLOCKS "figure" = some (some (.ref d_BLOCKS_10)))
    (lt_BLOCKS_10 : K.lookup d_BLOCKS_10 = some ⟨.type "tuple", od_BLOCKS_10, .seq #[.str "identifier" tk_BLOCKS_10_0, .str "text" tk_BLOCKS_10_1, .str "inline*" tk_BLOCKS_10_2] nn_BLOCKS_10, sl_BLOCKS_10⟩)
    (g_BLOCKS_11 : PySem.W.nsIn K d_BLOCKS "group" = some (some (.ref d_BLOCKS_11)))
    (lt_BLOCKS_11 : K.lookup d_BLOCKS_11 = some ⟨.type "tuple", od_BLOCKS_11, .seq #[.str "class" tk_BLOCKS_11_0, .str "block*" tk_BLOCKS_11_1] nn_BLOCKS_11, sl_BLOCKS_11⟩)
    (g_BLOCKS_12 : PySem.W.nsIn K d_BLOCKS "note" = some (some (.ref d_BLOCKS_12)))
    (lt_BLOCKS_12 : K.lookup d_BLOCKS_12 = some ⟨.type "tuple", od_BLOCKS_12, .seq #[.str "label" tk_BLOCKS_12_0, .str "block*" tk_BLOCKS_12_1] nn_BLOCKS_12, sl_BLOCKS_12⟩)
    (g_INLINES : PySem.W.nsIn K mainGlobals "INLINES" = some (some (.ref d_INLINES)))
    (l_INLINES : K.lookup d_INLINES = some ⟨.type "dict", none, .dict es_INLINES n_INLINES, #[]⟩)
    (e_INLINES : es_INLINES.toList.map kyOf = kysIn w.params ["code", "math", "break", "noteref", "ref", "cite", "emph", "strong", "strike", "super", "sub", "caps", "link", "image", "span"])
    (y_INLINES : (d_INLINES == sysModules) = false)
    (g_INLINES_0 : PySem.W.nsIn K d_INLINES "code" = some (some (.ref d_INLINES_0)))
    (lt_INLINES_0 : K.lookup d_INLINES_0 = some ⟨.type "tuple", od_INLINES_0, .seq #[.str "text" tk_INLINES_0_0] nn_INLINES_0, sl_INLINES_0⟩)
    (g_INLINES_1 : PySem.W.nsIn K d_INLINES "math" = some (some (.ref d_INLINES_1)))
    (lt_INLINES_1 : K.lookup d_INLINES_1 = some ⟨.type "tuple", od_INLINES_1, .seq #[.str "text" tk_INLINES_1_0] nn_INLINES_1, sl_INLINES_1⟩)
    (g_INLINES_2 : PySem.W.nsIn K d_INLINES "break" = some (some (.ref d_INLINES_2)))
    (lt_INLINES_2 : K.lookup d_INLINES_2 = some ⟨.type "tuple", od_INLINES_2, .seq #[] nn_INLINES_2, sl_INLINES_2⟩)
    (g_INLINES_3 : PySem.W.nsIn K d_INLINES "noteref" = some (some (.ref d_INLINES_3)))
    (lt_INLINES_3 : K.lookup d_INLINES_3 = some ⟨.type "tuple", od_INLINES_3, .seq #[.str "label" tk_INLINES_3_0] nn_INLINES_3, sl_INLINES_3⟩)
    (g_INLINES_4 : PySem.W.nsIn K d_INLINES "ref" = some (some (.ref d_INLINES_4)))
    (lt_INLINES_4 : K.lookup d_INLINES_4 = some ⟨.type "tuple", od_INLINES_4, .seq #[.str "label" tk_INLINES_4_0] nn_INLINES_4, sl_INLINES_4⟩)
    (g_INLINES_5 : PySem.W.nsIn K d_INLINES "cite" = some (some (.ref d_INLINES_5)))
    (lt_INLINES_5 : K.lookup d_INLINES_5 = some ⟨.type "tuple", od_INLINES_5, .seq #[.str "label+" tk_INLINES_5_0] nn_INLINES_5, sl_INLINES_5⟩)
    (g_INLINES_6 : PySem.W.nsIn K d_INLINES "emph" = some (some (.ref d_INLINES_6)))
    (lt_INLINES_6 : K.lookup d_INLINES_6 = some ⟨.type "tuple", od_INLINES_6, .seq #[.str "inline*" tk_INLINES_6_0] nn_INLINES_6, sl_INLINES_6⟩)
    (g_INLINES_7 : PySem.W.nsIn K d_INLINES "strong" = some (some (.ref d_INLINES_7)))
    (lt_INLINES_7 : K.lookup d_INLINES_7 = some ⟨.type "tuple", od_INLINES_7, .seq #[.str "inline*" tk_INLINES_7_0] nn_INLINES_7, sl_INLINES_7⟩)
    (g_INLINES_8 : PySem.W.nsIn K d_INLINES "strike" = some (some (.ref d_INLINES_8)))
    (lt_INLINES_8 : K.lookup d_INLINES_8 = some ⟨.type "tuple", od_INLINES_8, .seq #[.str "inline*" tk_INLINES_8_0] nn_INLINES_8, sl_INLINES_8⟩)
    (g_INLINES_9 : PySem.W.nsIn K d_INLINES "super" = some (some (.ref d_INLINES_9)))
    (lt_INLINES_9 : K.lookup d_INLINES_9 = some ⟨.type "tuple", od_INLINES_9, .seq #[.str "inline*" tk_INLINES_9_0] nn_INLINES_9, sl_INLINES_9⟩)
    (g_INLINES_10 : PySem.W.nsIn K d_INLINES "sub" = some (some (.ref d_INLINES_10)))
    (lt_INLINES_10 : K.lookup d_INLINES_10 = some ⟨.type "tuple", od_INLINES_10, .seq #[.str "inline*" tk_INLINES_10_0] nn_INLINES_10, sl_INLINES_10⟩)
    (g_INLINES_11 : PySem.W.nsIn K d_INLINES "caps" = some (some (.ref d_INLINES_11)))
    (lt_INLINES_11 : K.lookup d_INLINES_11 = some ⟨.type "tuple", od_INLINES_11, .seq #[.str "inline*" tk_INLINES_11_0] nn_INLINES_11, sl_INLINES_11⟩)
    (g_INLINES_12 : PySem.W.nsIn K d_INLINES "link" = some (some (.ref d_INLINES_12)))
    (lt_INLINES_12 : K.lookup d_INLINES_12 = some ⟨.type "tuple", od_INLINES_12, .seq #[.str "text" tk_INLINES_12_0, .str "inline*" tk_INLINES_12_1] nn_INLINES_12, sl_INLINES_12⟩)
    (g_INLINES_13 : PySem.W.nsIn K d_INLINES "image" = some (some (.ref d_INLINES_13)))
    (lt_INLINES_13 : K.lookup d_INLINES_13 = some ⟨.type "tuple", od_INLINES_13, .seq #[.str "text" tk_INLINES_13_0, .str "inline*" tk_INLINES_13_1] nn_INLINES_13, sl_INLINES_13⟩)
    (g_INLINES_14 : PySem.W.nsIn K d_INLINES "span" = some (some (.ref d_INLINES_14)))
    (lt_INLINES_14 : K.lookup d_INLINES_14 = some ⟨.type "tuple", od_INLINES_14, .seq #[.str "class" tk_INLINES_14_0, .str "inline*" tk_INLINES_14_1] nn_INLINES_14, sl_INLINES_14⟩)
    (g_PARTS : PySem.W.nsIn K mainGlobals "PARTS" = some (some (.ref d_PARTS)))
    (l_PARTS : K.lookup d_PARTS = some ⟨.type "dict", none, .dict es_PARTS n_PARTS, #[]⟩)
    (e_PARTS : es_PARTS.toList.map kyOf = kysIn w.params ["item", "term", "caption", "align", "row", "cell", "class"])
    (y_PARTS : (d_PARTS == sysModules) = false)
    (g_PARTS_0 : PySem.W.nsIn K d_PARTS "item" = some (some (.ref d_PARTS_0)))
    (lt_PARTS_0 : K.lookup d_PARTS_0 = some ⟨.type "tuple", od_PARTS_0, .seq #[.str "block*" tk_PARTS_0_0] nn_PARTS_0, sl_PARTS_0⟩)
    (g_PARTS_1 : PySem.W.nsIn K d_PARTS "term" = some (some (.ref d_PARTS_1)))
    (lt_PARTS_1 : K.lookup d_PARTS_1 = some ⟨.type "tuple", od_PARTS_1, .seq #[.str "inlines" tk_PARTS_1_0, .str "block*" tk_PARTS_1_1] nn_PARTS_1, sl_PARTS_1⟩)
    (g_PARTS_2 : PySem.W.nsIn K d_PARTS "caption" = some (some (.ref d_PARTS_2)))
    (lt_PARTS_2 : K.lookup d_PARTS_2 = some ⟨.type "tuple", od_PARTS_2, .seq #[.str "inline*" tk_PARTS_2_0] nn_PARTS_2, sl_PARTS_2⟩)
    (g_PARTS_3 : PySem.W.nsIn K d_PARTS "align" = some (some (.ref d_PARTS_3)))
    (lt_PARTS_3 : K.lookup d_PARTS_3 = some ⟨.type "tuple", od_PARTS_3, .seq #[.str "alignment*" tk_PARTS_3_0] nn_PARTS_3, sl_PARTS_3⟩)
    (g_PARTS_4 : PySem.W.nsIn K d_PARTS "row" = some (some (.ref d_PARTS_4)))
    (lt_PARTS_4 : K.lookup d_PARTS_4 = some ⟨.type "tuple", od_PARTS_4, .seq #[.str "cell*" tk_PARTS_4_0] nn_PARTS_4, sl_PARTS_4⟩)
    (g_PARTS_5 : PySem.W.nsIn K d_PARTS "cell" = some (some (.ref d_PARTS_5)))
    (lt_PARTS_5 : K.lookup d_PARTS_5 = some ⟨.type "tuple", od_PARTS_5, .seq #[.str "inline*" tk_PARTS_5_0] nn_PARTS_5, sl_PARTS_5⟩)
    (g_PARTS_6 : PySem.W.nsIn K d_PARTS "class" = some (some (.ref d_PARTS_6)))
    (lt_PARTS_6 : K.lookup d_PARTS_6 = some ⟨.type "tuple", od_PARTS_6, .seq #[.str "label*" tk_PARTS_6_0] nn_PARTS_6, sl_PARTS_6⟩)
    (g_LONGEST_LABEL : PySem.W.nsIn K mainGlobals "LONGEST_LABEL" = some (some (.int 40 t_LONGEST_LABEL)))
    (g_HIGHEST_LEVEL : PySem.W.nsIn K mainGlobals "HIGHEST_LEVEL" = some (some (.int 6 t_HIGHEST_LEVEL)))
    (g_ALIGNMENTS : PySem.W.nsIn K mainGlobals "ALIGNMENTS" = some (some (.ref d_ALIGNMENTS)))
    (lt_ALIGNMENTS : K.lookup d_ALIGNMENTS = some ⟨.type "tuple", od_ALIGNMENTS, .seq #[.str "none" tk_ALIGNMENTS_0, .str "left" tk_ALIGNMENTS_1, .str "center" tk_ALIGNMENTS_2, .str "right" tk_ALIGNMENTS_3] nn_ALIGNMENTS, sl_ALIGNMENTS⟩)
    (g_HEX_DIGITS : PySem.W.nsIn K mainGlobals "HEX_DIGITS" = some (some (.str "0123456789abcdef" t_HEX_DIGITS)))
    (z_all : PySem.W.nsIn K mainGlobals "all" = some none)
    (z_enumerate : PySem.W.nsIn K mainGlobals "enumerate" = some none)
    (z_isinstance : PySem.W.nsIn K mainGlobals "isinstance" = some none)
    (z_len : PySem.W.nsIn K mainGlobals "len" = some none)
    (z_list : PySem.W.nsIn K mainGlobals "list" = some none)
    (z_max : PySem.W.nsIn K mainGlobals "max" = some none)
    (z_ord : PySem.W.nsIn K mainGlobals "ord" = some none)
    (z_range : PySem.W.nsIn K mainGlobals "range" = some none)
    (z_str : PySem.W.nsIn K mainGlobals "str" = some none)
    (z_tuple : PySem.W.nsIn K mainGlobals "tuple" = some none)
    (z_zip : PySem.W.nsIn K mainGlobals "zip" = some none)
    (g_Refusal : PySem.W.nsIn K mainGlobals "Refusal" = some (some (.ref C_Refusal)))
    (lx_Refusal : K.lookup C_Refusal = some (excClassObj nm_Refusal qn_Refusal C_Refusal N_Refusal bs_Refusal bm_Refusal true sn_Refusal sub_Refusal ab_Refusal co_Refusal dd_Refusal x0_Refusal x1_Refusal x2_Refusal x3_Refusal x5_Refusal "Exception.__new__"))
    (bm_Refusal : PySem.W.excTail exTail bm_Refusal = true)
    (sa_Refusal : PySem.W.findIn K (.ref C_Refusal) "__setattr__" = some (some (.builtin "object.__setattr__")))
    (be_Refusal : PySem.W.subIn K (.ref C_Refusal) (.type "BaseException") = some true)
    (ty_Refusal : PySem.W.typeIn K (.ref C_Refusal) = some (.type "type"))
    (kp_Refusal : PySem.W.keepIn K (.ref C_Refusal) = true)
    (ga_Refusal : PySem.W.findIn K (.ref C_Refusal) "__getattribute__" = some (some (.builtin "BaseException.__getattribute__")))
    (gg_Refusal : PySem.W.findIn K (.ref C_Refusal) "__getattr__" = some none)
    (hd_Refusal : PySem.W.hasDictIn K C_Refusal = true)
    (ic_Refusal : PySem.W.isClsIn K C_Refusal = true)
    (nf_Refusal_code : PySem.W.findIn K (.ref C_Refusal) "code" = some none)
    (nf_Refusal_kind : PySem.W.findIn K (.ref C_Refusal) "kind" = some none)
    (nf_Refusal_position : PySem.W.findIn K (.ref C_Refusal) "position" = some none)
    (su_Refusal_Refusal : PySem.W.subIn K (.ref C_Refusal) (.ref C_Refusal) = some true)
    (fi_Refusal_init : PySem.W.findIn K (.ref C_Refusal) "__init__" = some (some (.ref f_Refusal_init)))
    (l_Refusal_init : K.lookup f_Refusal_init = some ⟨oc_Refusal_init, od_Refusal_init, .func (PySem.W.fnOf "__init__" "Refusal.__init__" (defArgs s_Refusal_init) (defBody s_Refusal_init) (defScope s_Refusal_init) .none kV_Refusal_init dc_Refusal_init pm_Refusal_init an_Refusal_init cd_Refusal_init ct_Refusal_init), sl_Refusal_init⟩)
    (c_Refusal_init : PySem.W.codeIn K cd_Refusal_init "Refusal.__init__" = true)
    (k_Refusal_init : PySem.W.keepIn K (.ref f_Refusal_init) = true)
    (ti_Refusal_init : PySem.W.typeIn K (.ref f_Refusal_init) = some (.type "function"))
    (sp_Refusal : PySem.W.specialIn K (.ref C_Refusal) "__getattribute__" = some (some (.builtin "type.__getattribute__")))
    (rd_Refusal : PySem.W.readsIn K C_Refusal (.type "type") = true)
    (fc_Refusal : PySem.W.findCls K (.ref C_Refusal) (.type "type") "__init__" = some (.val (.ref f_Refusal_init)))
    (g_NotationError : PySem.W.nsIn K mainGlobals "NotationError" = some (some (.ref C_NotationError)))
    (lx_NotationError : K.lookup C_NotationError = some (excClassObj nm_NotationError qn_NotationError C_NotationError N_NotationError bs_NotationError bm_NotationError true sn_NotationError sub_NotationError ab_NotationError co_NotationError dd_NotationError x0_NotationError x1_NotationError x2_NotationError x3_NotationError x5_NotationError "Exception.__new__"))
    (bm_NotationError : PySem.W.excTail exTail bm_NotationError = true)
    (sa_NotationError : PySem.W.findIn K (.ref C_NotationError) "__setattr__" = some (some (.builtin "object.__setattr__")))
    (be_NotationError : PySem.W.subIn K (.ref C_NotationError) (.type "BaseException") = some true)
    (ty_NotationError : PySem.W.typeIn K (.ref C_NotationError) = some (.type "type"))
    (kp_NotationError : PySem.W.keepIn K (.ref C_NotationError) = true)
    (ga_NotationError : PySem.W.findIn K (.ref C_NotationError) "__getattribute__" = some (some (.builtin "BaseException.__getattribute__")))
    (gg_NotationError : PySem.W.findIn K (.ref C_NotationError) "__getattr__" = some none)
    (hd_NotationError : PySem.W.hasDictIn K C_NotationError = true)
    (ic_NotationError : PySem.W.isClsIn K C_NotationError = true)
    (nf_NotationError_code : PySem.W.findIn K (.ref C_NotationError) "code" = some none)
    (nf_NotationError_kind : PySem.W.findIn K (.ref C_NotationError) "kind" = some none)
    (nf_NotationError_position : PySem.W.findIn K (.ref C_NotationError) "position" = some none)
    (su_NotationError_Refusal : PySem.W.subIn K (.ref C_NotationError) (.ref C_Refusal) = some true)
    (su_NotationError_NotationError : PySem.W.subIn K (.ref C_NotationError) (.ref C_NotationError) = some true)
    (fi_NotationError_init : PySem.W.findIn K (.ref C_NotationError) "__init__" = some (some (.ref f_NotationError_init)))
    (l_NotationError_init : K.lookup f_NotationError_init = some ⟨oc_NotationError_init, od_NotationError_init, .func (PySem.W.fnOf "__init__" "NotationError.__init__" (defArgs s_NotationError_init) (defBody s_NotationError_init) (defScope s_NotationError_init) .none kV_NotationError_init dc_NotationError_init pm_NotationError_init an_NotationError_init cd_NotationError_init ct_NotationError_init), sl_NotationError_init⟩)
    (c_NotationError_init : PySem.W.codeIn K cd_NotationError_init "NotationError.__init__" = true)
    (k_NotationError_init : PySem.W.keepIn K (.ref f_NotationError_init) = true)
    (ti_NotationError_init : PySem.W.typeIn K (.ref f_NotationError_init) = some (.type "function"))
    (g_Expression : PySem.W.nsIn K mainGlobals "Expression" = some (some (.ref C_Expression)))
    (pg_Expression : PySem.W.plainGet K C_Expression Str.empty = true)
    (hd_Expression : PySem.W.hasDictIn K C_Expression = true)
    (po_Expression : PySem.W.plainOver K C_Expression = true)
    (sa_Expression : PySem.W.findIn K (.ref C_Expression) "__setattr__" = some (some (.builtin "object.__setattr__")))
    (nf_Expression_kind : PySem.W.findIn K (.ref C_Expression) "kind" = some none)
    (nf_Expression_value : PySem.W.findIn K (.ref C_Expression) "value" = some none)
    (nf_Expression_position : PySem.W.findIn K (.ref C_Expression) "position" = some none)
    (fi_Expression_init : PySem.W.findIn K (.ref C_Expression) "__init__" = some (some (.ref f_Expression_init)))
    (fn_Expression_init : PySem.W.isFn K (.ref f_Expression_init) = true)
    (l_Expression_init : K.lookup f_Expression_init = some ⟨oc_Expression_init, od_Expression_init, .func (PySem.W.fnOf "__init__" "Expression.__init__" (defArgs s_Expression_init) (defBody s_Expression_init) (defScope s_Expression_init) .none kV_Expression_init dc_Expression_init pm_Expression_init an_Expression_init cd_Expression_init ct_Expression_init), sl_Expression_init⟩)
    (c_Expression_init : PySem.W.codeIn K cd_Expression_init "Expression.__init__" = true)
    (k_Expression_init : PySem.W.keepIn K (.ref f_Expression_init) = true)
    (mk_Expression : PySem.W.makesIn K C_Expression = true)
    (kp_Expression : PySem.W.keepIn K (.ref C_Expression) = true)
    (g_Reader : PySem.W.nsIn K mainGlobals "Reader" = some (some (.ref C_Reader)))
    (pg_Reader : PySem.W.plainGet K C_Reader Str.empty = true)
    (hd_Reader : PySem.W.hasDictIn K C_Reader = true)
    (po_Reader : PySem.W.plainOver K C_Reader = true)
    (sa_Reader : PySem.W.findIn K (.ref C_Reader) "__setattr__" = some (some (.builtin "object.__setattr__")))
    (nf_Reader_data : PySem.W.findIn K (.ref C_Reader) "data" = some none)
    (nf_Reader_position : PySem.W.findIn K (.ref C_Reader) "position" = some none)
    (nf_Reader_levels : PySem.W.findIn K (.ref C_Reader) "levels" = some none)
    (fi_Reader_init : PySem.W.findIn K (.ref C_Reader) "__init__" = some (some (.ref f_Reader_init)))
    (fn_Reader_init : PySem.W.isFn K (.ref f_Reader_init) = true)
    (l_Reader_init : K.lookup f_Reader_init = some ⟨oc_Reader_init, od_Reader_init, .func (PySem.W.fnOf "__init__" "Reader.__init__" (defArgs s_Reader_init) (defBody s_Reader_init) (defScope s_Reader_init) .none kV_Reader_init dc_Reader_init pm_Reader_init an_Reader_init cd_Reader_init ct_Reader_init), sl_Reader_init⟩)
    (c_Reader_init : PySem.W.codeIn K cd_Reader_init "Reader.__init__" = true)
    (k_Reader_init : PySem.W.keepIn K (.ref f_Reader_init) = true)
    (mk_Reader : PySem.W.makesIn K C_Reader = true)
    (kp_Reader : PySem.W.keepIn K (.ref C_Reader) = true)
    (fi_Reader_read_all : PySem.W.findIn K (.ref C_Reader) "read_all" = some (some (.ref f_Reader_read_all)))
    (fn_Reader_read_all : PySem.W.isFn K (.ref f_Reader_read_all) = true)
    (l_Reader_read_all : K.lookup f_Reader_read_all = some ⟨oc_Reader_read_all, od_Reader_read_all, .func (PySem.W.fnOf "read_all" "Reader.read_all" (defArgs s_Reader_read_all) (defBody s_Reader_read_all) (defScope s_Reader_read_all) .none kV_Reader_read_all dc_Reader_read_all pm_Reader_read_all an_Reader_read_all cd_Reader_read_all ct_Reader_read_all), sl_Reader_read_all⟩)
    (c_Reader_read_all : PySem.W.codeIn K cd_Reader_read_all "Reader.read_all" = true)
    (k_Reader_read_all : PySem.W.keepIn K (.ref f_Reader_read_all) = true)
    (fi_Reader_skip_blanks : PySem.W.findIn K (.ref C_Reader) "skip_blanks" = some (some (.ref f_Reader_skip_blanks)))
    (fn_Reader_skip_blanks : PySem.W.isFn K (.ref f_Reader_skip_blanks) = true)
    (l_Reader_skip_blanks : K.lookup f_Reader_skip_blanks = some ⟨oc_Reader_skip_blanks, od_Reader_skip_blanks, .func (PySem.W.fnOf "skip_blanks" "Reader.skip_blanks" (defArgs s_Reader_skip_blanks) (defBody s_Reader_skip_blanks) (defScope s_Reader_skip_blanks) .none kV_Reader_skip_blanks dc_Reader_skip_blanks pm_Reader_skip_blanks an_Reader_skip_blanks cd_Reader_skip_blanks ct_Reader_skip_blanks), sl_Reader_skip_blanks⟩)
    (c_Reader_skip_blanks : PySem.W.codeIn K cd_Reader_skip_blanks "Reader.skip_blanks" = true)
    (k_Reader_skip_blanks : PySem.W.keepIn K (.ref f_Reader_skip_blanks) = true)
    (fi_Reader_read_next : PySem.W.findIn K (.ref C_Reader) "read_next" = some (some (.ref f_Reader_read_next)))
    (fn_Reader_read_next : PySem.W.isFn K (.ref f_Reader_read_next) = true)
    (l_Reader_read_next : K.lookup f_Reader_read_next = some ⟨oc_Reader_read_next, od_Reader_read_next, .func (PySem.W.fnOf "read_next" "Reader.read_next" (defArgs s_Reader_read_next) (defBody s_Reader_read_next) (defScope s_Reader_read_next) .none kV_Reader_read_next dc_Reader_read_next pm_Reader_read_next an_Reader_read_next cd_Reader_read_next ct_Reader_read_next), sl_Reader_read_next⟩)
    (c_Reader_read_next : PySem.W.codeIn K cd_Reader_read_next "Reader.read_next" = true)
    (k_Reader_read_next : PySem.W.keepIn K (.ref f_Reader_read_next) = true)
    (fi_Reader_add_expression : PySem.W.findIn K (.ref C_Reader) "add_expression" = some (some (.ref f_Reader_add_expression)))
    (fn_Reader_add_expression : PySem.W.isFn K (.ref f_Reader_add_expression) = true)
    (l_Reader_add_expression : K.lookup f_Reader_add_expression = some ⟨oc_Reader_add_expression, od_Reader_add_expression, .func (PySem.W.fnOf "add_expression" "Reader.add_expression" (defArgs s_Reader_add_expression) (defBody s_Reader_add_expression) (defScope s_Reader_add_expression) .none kV_Reader_add_expression dc_Reader_add_expression pm_Reader_add_expression an_Reader_add_expression cd_Reader_add_expression ct_Reader_add_expression), sl_Reader_add_expression⟩)
    (c_Reader_add_expression : PySem.W.codeIn K cd_Reader_add_expression "Reader.add_expression" = true)
    (k_Reader_add_expression : PySem.W.keepIn K (.ref f_Reader_add_expression) = true)
    (fi_Reader_begin_list : PySem.W.findIn K (.ref C_Reader) "begin_list" = some (some (.ref f_Reader_begin_list)))
    (fn_Reader_begin_list : PySem.W.isFn K (.ref f_Reader_begin_list) = true)
    (l_Reader_begin_list : K.lookup f_Reader_begin_list = some ⟨oc_Reader_begin_list, od_Reader_begin_list, .func (PySem.W.fnOf "begin_list" "Reader.begin_list" (defArgs s_Reader_begin_list) (defBody s_Reader_begin_list) (defScope s_Reader_begin_list) .none kV_Reader_begin_list dc_Reader_begin_list pm_Reader_begin_list an_Reader_begin_list cd_Reader_begin_list ct_Reader_begin_list), sl_Reader_begin_list⟩)
    (c_Reader_begin_list : PySem.W.codeIn K cd_Reader_begin_list "Reader.begin_list" = true)
    (k_Reader_begin_list : PySem.W.keepIn K (.ref f_Reader_begin_list) = true)
    (fi_Reader_end_list : PySem.W.findIn K (.ref C_Reader) "end_list" = some (some (.ref f_Reader_end_list)))
    (fn_Reader_end_list : PySem.W.isFn K (.ref f_Reader_end_list) = true)
    (l_Reader_end_list : K.lookup f_Reader_end_list = some ⟨oc_Reader_end_list, od_Reader_end_list, .func (PySem.W.fnOf "end_list" "Reader.end_list" (defArgs s_Reader_end_list) (defBody s_Reader_end_list) (defScope s_Reader_end_list) .none kV_Reader_end_list dc_Reader_end_list pm_Reader_end_list an_Reader_end_list cd_Reader_end_list ct_Reader_end_list), sl_Reader_end_list⟩)
    (c_Reader_end_list : PySem.W.codeIn K cd_Reader_end_list "Reader.end_list" = true)
    (k_Reader_end_list : PySem.W.keepIn K (.ref f_Reader_end_list) = true)
    (fi_Reader_read_integer : PySem.W.findIn K (.ref C_Reader) "read_integer" = some (some (.ref f_Reader_read_integer)))
    (fn_Reader_read_integer : PySem.W.isFn K (.ref f_Reader_read_integer) = true)
    (l_Reader_read_integer : K.lookup f_Reader_read_integer = some ⟨oc_Reader_read_integer, od_Reader_read_integer, .func (PySem.W.fnOf "read_integer" "Reader.read_integer" (defArgs s_Reader_read_integer) (defBody s_Reader_read_integer) (defScope s_Reader_read_integer) .none kV_Reader_read_integer dc_Reader_read_integer pm_Reader_read_integer an_Reader_read_integer cd_Reader_read_integer ct_Reader_read_integer), sl_Reader_read_integer⟩)
    (c_Reader_read_integer : PySem.W.codeIn K cd_Reader_read_integer "Reader.read_integer" = true)
    (k_Reader_read_integer : PySem.W.keepIn K (.ref f_Reader_read_integer) = true)
    (fi_Reader_read_symbol : PySem.W.findIn K (.ref C_Reader) "read_symbol" = some (some (.ref f_Reader_read_symbol)))
    (fn_Reader_read_symbol : PySem.W.isFn K (.ref f_Reader_read_symbol) = true)
    (l_Reader_read_symbol : K.lookup f_Reader_read_symbol = some ⟨oc_Reader_read_symbol, od_Reader_read_symbol, .func (PySem.W.fnOf "read_symbol" "Reader.read_symbol" (defArgs s_Reader_read_symbol) (defBody s_Reader_read_symbol) (defScope s_Reader_read_symbol) .none kV_Reader_read_symbol dc_Reader_read_symbol pm_Reader_read_symbol an_Reader_read_symbol cd_Reader_read_symbol ct_Reader_read_symbol), sl_Reader_read_symbol⟩)
    (c_Reader_read_symbol : PySem.W.codeIn K cd_Reader_read_symbol "Reader.read_symbol" = true)
    (k_Reader_read_symbol : PySem.W.keepIn K (.ref f_Reader_read_symbol) = true)
    (fi_Reader_take_while : PySem.W.findIn K (.ref C_Reader) "take_while" = some (some (.ref f_Reader_take_while)))
    (fn_Reader_take_while : PySem.W.isFn K (.ref f_Reader_take_while) = true)
    (l_Reader_take_while : K.lookup f_Reader_take_while = some ⟨oc_Reader_take_while, od_Reader_take_while, .func (PySem.W.fnOf "take_while" "Reader.take_while" (defArgs s_Reader_take_while) (defBody s_Reader_take_while) (defScope s_Reader_take_while) .none kV_Reader_take_while dc_Reader_take_while pm_Reader_take_while an_Reader_take_while cd_Reader_take_while ct_Reader_take_while), sl_Reader_take_while⟩)
    (c_Reader_take_while : PySem.W.codeIn K cd_Reader_take_while "Reader.take_while" = true)
    (k_Reader_take_while : PySem.W.keepIn K (.ref f_Reader_take_while) = true)
    (fi_Reader_read_string : PySem.W.findIn K (.ref C_Reader) "read_string" = some (some (.ref f_Reader_read_string)))
    (fn_Reader_read_string : PySem.W.isFn K (.ref f_Reader_read_string) = true)
    (l_Reader_read_string : K.lookup f_Reader_read_string = some ⟨oc_Reader_read_string, od_Reader_read_string, .func (PySem.W.fnOf "read_string" "Reader.read_string" (defArgs s_Reader_read_string) (defBody s_Reader_read_string) (defScope s_Reader_read_string) .none kV_Reader_read_string dc_Reader_read_string pm_Reader_read_string an_Reader_read_string cd_Reader_read_string ct_Reader_read_string), sl_Reader_read_string⟩)
    (c_Reader_read_string : PySem.W.codeIn K cd_Reader_read_string "Reader.read_string" = true)
    (k_Reader_read_string : PySem.W.keepIn K (.ref f_Reader_read_string) = true)
    (fi_Reader_string_byte : PySem.W.findIn K (.ref C_Reader) "string_byte" = some (some (.ref f_Reader_string_byte)))
    (fn_Reader_string_byte : PySem.W.isFn K (.ref f_Reader_string_byte) = true)
    (l_Reader_string_byte : K.lookup f_Reader_string_byte = some ⟨oc_Reader_string_byte, od_Reader_string_byte, .func (PySem.W.fnOf "string_byte" "Reader.string_byte" (defArgs s_Reader_string_byte) (defBody s_Reader_string_byte) (defScope s_Reader_string_byte) .none kV_Reader_string_byte dc_Reader_string_byte pm_Reader_string_byte an_Reader_string_byte cd_Reader_string_byte ct_Reader_string_byte), sl_Reader_string_byte⟩)
    (c_Reader_string_byte : PySem.W.codeIn K cd_Reader_string_byte "Reader.string_byte" = true)
    (k_Reader_string_byte : PySem.W.keepIn K (.ref f_Reader_string_byte) = true)
    (fi_Reader_read_character : PySem.W.findIn K (.ref C_Reader) "read_character" = some (some (.ref f_Reader_read_character)))
    (fn_Reader_read_character : PySem.W.isFn K (.ref f_Reader_read_character) = true)
    (l_Reader_read_character : K.lookup f_Reader_read_character = some ⟨oc_Reader_read_character, od_Reader_read_character, .func (PySem.W.fnOf "read_character" "Reader.read_character" (defArgs s_Reader_read_character) (defBody s_Reader_read_character) (defScope s_Reader_read_character) .none kV_Reader_read_character dc_Reader_read_character pm_Reader_read_character an_Reader_read_character cd_Reader_read_character ct_Reader_read_character), sl_Reader_read_character⟩)
    (c_Reader_read_character : PySem.W.codeIn K cd_Reader_read_character "Reader.read_character" = true)
    (k_Reader_read_character : PySem.W.keepIn K (.ref f_Reader_read_character) = true)
    (fi_Reader_read_escape : PySem.W.findIn K (.ref C_Reader) "read_escape" = some (some (.ref f_Reader_read_escape)))
    (fn_Reader_read_escape : PySem.W.isFn K (.ref f_Reader_read_escape) = true)
    (l_Reader_read_escape : K.lookup f_Reader_read_escape = some ⟨oc_Reader_read_escape, od_Reader_read_escape, .func (PySem.W.fnOf "read_escape" "Reader.read_escape" (defArgs s_Reader_read_escape) (defBody s_Reader_read_escape) (defScope s_Reader_read_escape) .none kV_Reader_read_escape dc_Reader_read_escape pm_Reader_read_escape an_Reader_read_escape cd_Reader_read_escape ct_Reader_read_escape), sl_Reader_read_escape⟩)
    (c_Reader_read_escape : PySem.W.codeIn K cd_Reader_read_escape "Reader.read_escape" = true)
    (k_Reader_read_escape : PySem.W.keepIn K (.ref f_Reader_read_escape) = true)
    (fi_Reader_read_code_point : PySem.W.findIn K (.ref C_Reader) "read_code_point" = some (some (.ref f_Reader_read_code_point)))
    (fn_Reader_read_code_point : PySem.W.isFn K (.ref f_Reader_read_code_point) = true)
    (l_Reader_read_code_point : K.lookup f_Reader_read_code_point = some ⟨oc_Reader_read_code_point, od_Reader_read_code_point, .func (PySem.W.fnOf "read_code_point" "Reader.read_code_point" (defArgs s_Reader_read_code_point) (defBody s_Reader_read_code_point) (defScope s_Reader_read_code_point) .none kV_Reader_read_code_point dc_Reader_read_code_point pm_Reader_read_code_point an_Reader_read_code_point cd_Reader_read_code_point ct_Reader_read_code_point), sl_Reader_read_code_point⟩)
    (c_Reader_read_code_point : PySem.W.codeIn K cd_Reader_read_code_point "Reader.read_code_point" = true)
    (k_Reader_read_code_point : PySem.W.keepIn K (.ref f_Reader_read_code_point) = true)
    (fi_Reader_skip_sign : PySem.W.findIn K (.ref C_Reader) "skip_sign" = some (some (.ref f_Reader_skip_sign)))
    (fn_Reader_skip_sign : PySem.W.isFn K (.ref f_Reader_skip_sign) = true)
    (l_Reader_skip_sign : K.lookup f_Reader_skip_sign = some ⟨oc_Reader_skip_sign, od_Reader_skip_sign, .func (PySem.W.fnOf "skip_sign" "Reader.skip_sign" (defArgs s_Reader_skip_sign) (defBody s_Reader_skip_sign) (defScope s_Reader_skip_sign) .none kV_Reader_skip_sign dc_Reader_skip_sign pm_Reader_skip_sign an_Reader_skip_sign cd_Reader_skip_sign ct_Reader_skip_sign), sl_Reader_skip_sign⟩)
    (c_Reader_skip_sign : PySem.W.codeIn K cd_Reader_skip_sign "Reader.skip_sign" = true)
    (k_Reader_skip_sign : PySem.W.keepIn K (.ref f_Reader_skip_sign) = true)
    (g_Node : PySem.W.nsIn K mainGlobals "Node" = some (some (.ref C_Node)))
    (pg_Node : PySem.W.plainGet K C_Node Str.empty = true)
    (hd_Node : PySem.W.hasDictIn K C_Node = true)
    (po_Node : PySem.W.plainOver K C_Node = true)
    (sa_Node : PySem.W.findIn K (.ref C_Node) "__setattr__" = some (some (.builtin "object.__setattr__")))
    (nf_Node_symbol : PySem.W.findIn K (.ref C_Node) "symbol" = some none)
    (nf_Node_head : PySem.W.findIn K (.ref C_Node) "head" = some none)
    (nf_Node_children : PySem.W.findIn K (.ref C_Node) "children" = some none)
    (nf_Node_holds : PySem.W.findIn K (.ref C_Node) "holds" = some none)
    (fi_Node_init : PySem.W.findIn K (.ref C_Node) "__init__" = some (some (.ref f_Node_init)))
    (fn_Node_init : PySem.W.isFn K (.ref f_Node_init) = true)
    (l_Node_init : K.lookup f_Node_init = some ⟨oc_Node_init, od_Node_init, .func (PySem.W.fnOf "__init__" "Node.__init__" (defArgs s_Node_init) (defBody s_Node_init) (defScope s_Node_init) .none kV_Node_init dc_Node_init pm_Node_init an_Node_init cd_Node_init ct_Node_init), sl_Node_init⟩)
    (c_Node_init : PySem.W.codeIn K cd_Node_init "Node.__init__" = true)
    (k_Node_init : PySem.W.keepIn K (.ref f_Node_init) = true)
    (mk_Node : PySem.W.makesIn K C_Node = true)
    (kp_Node : PySem.W.keepIn K (.ref C_Node) = true)
    (g_Shape : PySem.W.nsIn K mainGlobals "Shape" = some (some (.ref C_Shape)))
    (pg_Shape : PySem.W.plainGet K C_Shape Str.empty = true)
    (hd_Shape : PySem.W.hasDictIn K C_Shape = true)
    (po_Shape : PySem.W.plainOver K C_Shape = true)
    (sa_Shape : PySem.W.findIn K (.ref C_Shape) "__setattr__" = some (some (.builtin "object.__setattr__")))
    (nf_Shape_leading : PySem.W.findIn K (.ref C_Shape) "leading" = some none)
    (nf_Shape_following : PySem.W.findIn K (.ref C_Shape) "following" = some none)
    (nf_Shape_least : PySem.W.findIn K (.ref C_Shape) "least" = some none)
    (fi_Shape_init : PySem.W.findIn K (.ref C_Shape) "__init__" = some (some (.ref f_Shape_init)))
    (fn_Shape_init : PySem.W.isFn K (.ref f_Shape_init) = true)
    (l_Shape_init : K.lookup f_Shape_init = some ⟨oc_Shape_init, od_Shape_init, .func (PySem.W.fnOf "__init__" "Shape.__init__" (defArgs s_Shape_init) (defBody s_Shape_init) (defScope s_Shape_init) .none kV_Shape_init dc_Shape_init pm_Shape_init an_Shape_init cd_Shape_init ct_Shape_init), sl_Shape_init⟩)
    (c_Shape_init : PySem.W.codeIn K cd_Shape_init "Shape.__init__" = true)
    (k_Shape_init : PySem.W.keepIn K (.ref f_Shape_init) = true)
    (mk_Shape : PySem.W.makesIn K C_Shape = true)
    (kp_Shape : PySem.W.keepIn K (.ref C_Shape) = true)
    (fi_Shape_allows_number : PySem.W.findIn K (.ref C_Shape) "allows_number" = some (some (.ref f_Shape_allows_number)))
    (fn_Shape_allows_number : PySem.W.isFn K (.ref f_Shape_allows_number) = true)
    (l_Shape_allows_number : K.lookup f_Shape_allows_number = some ⟨oc_Shape_allows_number, od_Shape_allows_number, .func (PySem.W.fnOf "allows_number" "Shape.allows_number" (defArgs s_Shape_allows_number) (defBody s_Shape_allows_number) (defScope s_Shape_allows_number) .none kV_Shape_allows_number dc_Shape_allows_number pm_Shape_allows_number an_Shape_allows_number cd_Shape_allows_number ct_Shape_allows_number), sl_Shape_allows_number⟩)
    (c_Shape_allows_number : PySem.W.codeIn K cd_Shape_allows_number "Shape.allows_number" = true)
    (k_Shape_allows_number : PySem.W.keepIn K (.ref f_Shape_allows_number) = true)
    (fi_Shape_begins_with_integer : PySem.W.findIn K (.ref C_Shape) "begins_with_integer" = some (some (.ref f_Shape_begins_with_integer)))
    (fn_Shape_begins_with_integer : PySem.W.isFn K (.ref f_Shape_begins_with_integer) = true)
    (l_Shape_begins_with_integer : K.lookup f_Shape_begins_with_integer = some ⟨oc_Shape_begins_with_integer, od_Shape_begins_with_integer, .func (PySem.W.fnOf "begins_with_integer" "Shape.begins_with_integer" (defArgs s_Shape_begins_with_integer) (defBody s_Shape_begins_with_integer) (defScope s_Shape_begins_with_integer) .none kV_Shape_begins_with_integer dc_Shape_begins_with_integer pm_Shape_begins_with_integer an_Shape_begins_with_integer cd_Shape_begins_with_integer ct_Shape_begins_with_integer), sl_Shape_begins_with_integer⟩)
    (c_Shape_begins_with_integer : PySem.W.codeIn K cd_Shape_begins_with_integer "Shape.begins_with_integer" = true)
    (k_Shape_begins_with_integer : PySem.W.keepIn K (.ref f_Shape_begins_with_integer) = true)
    (g_Step : PySem.W.nsIn K mainGlobals "Step" = some (some (.ref C_Step)))
    (pg_Step : PySem.W.plainGet K C_Step Str.empty = true)
    (hd_Step : PySem.W.hasDictIn K C_Step = true)
    (po_Step : PySem.W.plainOver K C_Step = true)
    (sa_Step : PySem.W.findIn K (.ref C_Step) "__setattr__" = some (some (.builtin "object.__setattr__")))
    (nf_Step_symbol : PySem.W.findIn K (.ref C_Step) "symbol" = some none)
    (nf_Step_block : PySem.W.findIn K (.ref C_Step) "block" = some none)
    (fi_Step_init : PySem.W.findIn K (.ref C_Step) "__init__" = some (some (.ref f_Step_init)))
    (fn_Step_init : PySem.W.isFn K (.ref f_Step_init) = true)
    (l_Step_init : K.lookup f_Step_init = some ⟨oc_Step_init, od_Step_init, .func (PySem.W.fnOf "__init__" "Step.__init__" (defArgs s_Step_init) (defBody s_Step_init) (defScope s_Step_init) .none kV_Step_init dc_Step_init pm_Step_init an_Step_init cd_Step_init ct_Step_init), sl_Step_init⟩)
    (c_Step_init : PySem.W.codeIn K cd_Step_init "Step.__init__" = true)
    (k_Step_init : PySem.W.keepIn K (.ref f_Step_init) = true)
    (mk_Step : PySem.W.makesIn K C_Step = true)
    (kp_Step : PySem.W.keepIn K (.ref C_Step) = true)
    (ia_Node : PySem.W.findIn K (.ref C_Node) "__class__" = some (some (.builtin "object.__class__")))
    (in_obj : PySem.W.specialIn K (.builtin "object.__class__") "__get__" = some (some (.builtin "getset_descriptor.__get__")))
    (it_obj : PySem.W.takesIn K (.builtin "object.__class__") = some true)
    (im_Node : PySem.W.mroIn K C_Node (.type "object") = some true)
    (iC_Node : PySem.W.isClsIn K C_Node = true)
    (iY_Node : PySem.W.typeIn K (.ref C_Node) = some (.type "type"))
    (iT_Node : PySem.W.subIn K (.type "tuple") (.ref C_Node) = some false)
    (iI_Node : PySem.W.subIn K (.type "int") (.ref C_Node) = some false)
    (iS_Node : PySem.W.subIn K (.type "str") (.ref C_Node) = some false)
    (ne_answer_text_difference : pp_answer_text ≠ pp_difference)
    (ne_difference_answer_text : pp_difference ≠ pp_answer_text) : Goal := by
  have G := top.g
  have D_ascii_bytes : Dn K mg "ascii_bytes" s_ascii_bytes ["text"] := dn_mk X G a_ascii_bytes l_ascii_bytes c_ascii_bytes k_ascii_bytes fun _ _ _ _ _ _ us hl => match us, hl with | [_], _ => rfl
  have D_is_space : Dn K mg "is_space" s_is_space ["byte"] := dn_mk X G a_is_space l_is_space c_is_space k_is_space fun _ _ _ _ _ _ us hl => match us, hl with | [_], _ => rfl
  have D_is_lowercase : Dn K mg "is_lowercase" s_is_lowercase ["byte"] := dn_mk X G a_is_lowercase l_is_lowercase c_is_lowercase k_is_lowercase fun _ _ _ _ _ _ us hl => match us, hl with | [_], _ => rfl
  have D_is_uppercase : Dn K mg "is_uppercase" s_is_uppercase ["byte"] := dn_mk X G a_is_uppercase l_is_uppercase c_is_uppercase k_is_uppercase fun _ _ _ _ _ _ us hl => match us, hl with | [_], _ => rfl
  have D_is_digit : Dn K mg "is_digit" s_is_digit ["byte"] := dn_mk X G a_is_digit l_is_digit c_is_digit k_is_digit fun _ _ _ _ _ _ us hl => match us, hl with | [_], _ => rfl
  have D_is_letter_or_digit : Dn K mg "is_letter_or_digit" s_is_letter_or_digit ["byte"] := dn_mk X G a_is_letter_or_digit l_is_letter_or_digit c_is_letter_or_digit k_is_letter_or_digit fun _ _ _ _ _ _ us hl => match us, hl with | [_], _ => rfl
  have D_is_continuation : Dn K mg "is_continuation" s_is_continuation ["byte"] := dn_mk X G a_is_continuation l_is_continuation c_is_continuation k_is_continuation fun _ _ _ _ _ _ us hl => match us, hl with | [_], _ => rfl
  have D_announced_length : Dn K mg "announced_length" s_announced_length ["first"] := dn_mk X G a_announced_length l_announced_length c_announced_length k_announced_length fun _ _ _ _ _ _ us hl => match us, hl with | [_], _ => rfl
  have D_second_byte_fits : Dn K mg "second_byte_fits" s_second_byte_fits ["first", "second"] := dn_mk X G a_second_byte_fits l_second_byte_fits c_second_byte_fits k_second_byte_fits fun _ _ _ _ _ _ us hl => match us, hl with | [_, _], _ => rfl
  have D_sequence_length : Dn K mg "sequence_length" s_sequence_length ["data", "start"] := dn_mk X G a_sequence_length l_sequence_length c_sequence_length k_sequence_length fun _ _ _ _ _ _ us hl => match us, hl with | [_, _], _ => rfl
  have D_encoded : Dn K mg "encoded" s_encoded ["code"] := dn_mk X G a_encoded l_encoded c_encoded k_encoded fun _ _ _ _ _ _ us hl => match us, hl with | [_], _ => rfl
  have D_continuation : Dn K mg "continuation" s_continuation ["code"] := dn_mk X G a_continuation l_continuation c_continuation k_continuation fun _ _ _ _ _ _ us hl => match us, hl with | [_], _ => rfl
  have D_joined : Dn K mg "joined" s_joined ["texts", "separator"] := dn_mk X G a_joined l_joined c_joined k_joined fun _ _ _ _ _ _ us hl => match us, hl with | [_, _], _ => rfl
  have D_is_symbol_byte : Dn K mg "is_symbol_byte" s_is_symbol_byte ["byte"] := dn_mk X G a_is_symbol_byte l_is_symbol_byte c_is_symbol_byte k_is_symbol_byte fun _ _ _ _ _ _ us hl => match us, hl with | [_], _ => rfl
  have D_symbol_sign : Dn K mg "symbol_sign" s_symbol_sign ["byte"] := dn_mk X G a_symbol_sign l_symbol_sign c_symbol_sign k_symbol_sign fun _ _ _ _ _ _ us hl => match us, hl with | [_], _ => rfl
  have D_hex_value : Dn K mg "hex_value" s_hex_value ["byte"] := dn_mk X G a_hex_value l_hex_value c_hex_value k_hex_value fun _ _ _ _ _ _ us hl => match us, hl with | [_], _ => rfl
  have D_is_hex_digit : Dn K mg "is_hex_digit" s_is_hex_digit ["byte"] := dn_mk X G a_is_hex_digit l_is_hex_digit c_is_hex_digit k_is_hex_digit fun _ _ _ _ _ _ us hl => match us, hl with | [_], _ => rfl
  have D_is_code_point : Dn K mg "is_code_point" s_is_code_point ["code"] := dn_mk X G a_is_code_point l_is_code_point c_is_code_point k_is_code_point fun _ _ _ _ _ _ us hl => match us, hl with | [_], _ => rfl
  have D_read_expressions : Dn K mg "read_expressions" s_read_expressions ["data"] := dn_mk X G a_read_expressions l_read_expressions c_read_expressions k_read_expressions fun _ _ _ _ _ _ us hl => match us, hl with | [_], _ => rfl
  have D_leaf : Dn K mg "leaf" s_leaf ["symbol", "head"] := dn_mk X G a_leaf l_leaf c_leaf k_leaf fun _ _ _ _ _ _ us hl => match us, hl with | [_, _], _ => rfl
  have D_block_shape : Dn K mg "block_shape" s_block_shape ["symbol"] := dn_mk X G a_block_shape l_block_shape c_block_shape k_block_shape fun _ _ _ _ _ _ us hl => match us, hl with | [_], _ => rfl
  have D_inline_shape : Dn K mg "inline_shape" s_inline_shape ["symbol"] := dn_mk X G a_inline_shape l_inline_shape c_inline_shape k_inline_shape fun _ _ _ _ _ _ us hl => match us, hl with | [_], _ => rfl
  have D_part_shape : Dn K mg "part_shape" s_part_shape ["symbol"] := dn_mk X G a_part_shape l_part_shape c_part_shape k_part_shape fun _ _ _ _ _ _ us hl => match us, hl with | [_], _ => rfl
  have D_read_document : Dn K mg "read_document" s_read_document ["data"] := dn_mk X G a_read_document l_read_document c_read_document k_read_document fun _ _ _ _ _ _ us hl => match us, hl with | [_], _ => rfl
  have D_is_label : Dn K mg "is_label" s_is_label ["text"] := dn_mk X G a_is_label l_is_label c_is_label k_is_label fun _ _ _ _ _ _ us hl => match us, hl with | [_], _ => rfl
  have D_is_label_byte : Dn K mg "is_label_byte" s_is_label_byte ["byte"] := dn_mk X G a_is_label_byte l_is_label_byte c_is_label_byte k_is_label_byte fun _ _ _ _ _ _ us hl => match us, hl with | [_], _ => rfl
  have D_list_symbol : Dn K mg "list_symbol" s_list_symbol ["expression"] := dn_mk X G a_list_symbol l_list_symbol c_list_symbol k_list_symbol fun _ _ _ _ _ _ us hl => match us, hl with | [_], _ => rfl
  have D_read_block : Dn K mg "read_block" s_read_block ["expression"] := dn_mk X G a_read_block l_read_block c_read_block k_read_block fun _ _ _ _ _ _ us hl => match us, hl with | [_], _ => rfl
  have D_read_inline : Dn K mg "read_inline" s_read_inline ["expression"] := dn_mk X G a_read_inline l_read_inline c_read_inline k_read_inline fun _ _ _ _ _ _ us hl => match us, hl with | [_], _ => rfl
  have D_read_shaped : Dn K mg "read_shaped" s_read_shaped ["expression", "shape"] := dn_mk X G a_read_shaped l_read_shaped c_read_shaped k_read_shaped fun _ _ _ _ _ _ us hl => match us, hl with | [_, _], _ => rfl
  have D_read_list : Dn K mg "read_list" s_read_list ["expression", "shape"] := dn_mk X G a_read_list l_read_list c_read_list k_read_list fun _ _ _ _ _ _ us hl => match us, hl with | [_, _], _ => rfl
  have D_read_argument : Dn K mg "read_argument" s_read_argument ["kind", "expression"] := dn_mk X G a_read_argument l_read_argument c_read_argument k_read_argument fun _ _ _ _ _ _ us hl => match us, hl with | [_, _], _ => rfl
  have D_read_string : Dn K mg "read_string" s_read_string ["kind", "expression"] := dn_mk X G a_read_string l_read_string c_read_string k_read_string fun _ _ _ _ _ _ us hl => match us, hl with | [_, _], _ => rfl
  have D_is_level : Dn K mg "is_level" s_is_level ["number"] := dn_mk X G a_is_level l_is_level c_is_level k_is_level fun _ _ _ _ _ _ us hl => match us, hl with | [_], _ => rfl
  have D_read_level : Dn K mg "read_level" s_read_level ["expression"] := dn_mk X G a_read_level l_read_level c_read_level k_read_level fun _ _ _ _ _ _ us hl => match us, hl with | [_], _ => rfl
  have D_read_alignment : Dn K mg "read_alignment" s_read_alignment ["expression"] := dn_mk X G a_read_alignment l_read_alignment c_read_alignment k_read_alignment fun _ _ _ _ _ _ us hl => match us, hl with | [_], _ => rfl
  have D_read_part : Dn K mg "read_part" s_read_part ["symbol", "expression"] := dn_mk X G a_read_part l_read_part c_read_part k_read_part fun _ _ _ _ _ _ us hl => match us, hl with | [_, _], _ => rfl
  have D_require_part : Dn K mg "require_part" s_require_part ["symbol", "expression"] := dn_mk X G a_require_part l_require_part c_require_part k_require_part fun _ _ _ _ _ _ us hl => match us, hl with | [_, _], _ => rfl
  have D_begins_with_list : Dn K mg "begins_with_list" s_begins_with_list ["arguments"] := dn_mk X G a_begins_with_list l_begins_with_list c_begins_with_list k_begins_with_list fun _ _ _ _ _ _ us hl => match us, hl with | [_], _ => rfl
  have D_read_row : Dn K mg "read_row" s_read_row ["expression", "columns"] := dn_mk X G a_read_row l_read_row c_read_row k_read_row fun _ _ _ _ _ _ us hl => match us, hl with | [_, _], _ => rfl
  have D_write_nodes : Dn K mg "write_nodes" s_write_nodes ["nodes"] := dn_mk X G a_write_nodes l_write_nodes c_write_nodes k_write_nodes fun _ _ _ _ _ _ us hl => match us, hl with | [_], _ => rfl
  have D_write_list : Dn K mg "write_list" s_write_list ["node"] := dn_mk X G a_write_list l_write_list c_write_list k_write_list fun _ _ _ _ _ _ us hl => match us, hl with | [_], _ => rfl
  have D_write_part : Dn K mg "write_part" s_write_part ["part"] := dn_mk X G a_write_part l_write_part c_write_part k_write_part fun _ _ _ _ _ _ us hl => match us, hl with | [_], _ => rfl
  have D_write_string : Dn K mg "write_string" s_write_string ["text"] := dn_mk X G a_write_string l_write_string c_write_string k_write_string fun _ _ _ _ _ _ us hl => match us, hl with | [_], _ => rfl
  have D_write_byte : Dn K mg "write_byte" s_write_byte ["byte"] := dn_mk X G a_write_byte l_write_byte c_write_byte k_write_byte fun _ _ _ _ _ _ us hl => match us, hl with | [_], _ => rfl
  have D_short_hex : Dn K mg "short_hex" s_short_hex ["number"] := dn_mk X G a_short_hex l_short_hex c_short_hex k_short_hex fun _ _ _ _ _ _ us hl => match us, hl with | [_], _ => rfl
  have D_difference_edits : Dn K mg "difference_edits" s_difference_edits ["first", "second"] := dn_mk X G a_difference_edits l_difference_edits c_difference_edits k_difference_edits fun _ _ _ _ _ _ us hl => match us, hl with | [_, _], _ => rfl
  have D_steps_between : Dn K mg "steps_between" s_steps_between ["first", "second"] := dn_mk X G a_steps_between l_steps_between c_steps_between k_steps_between fun _ _ _ _ _ _ us hl => match us, hl with | [_, _], _ => rfl
  have D_common_lengths : Dn K mg "common_lengths" s_common_lengths ["old", "new"] := dn_mk X G a_common_lengths l_common_lengths c_common_lengths k_common_lengths fun _ _ _ _ _ _ us hl => match us, hl with | [_, _], _ => rfl
  have D_joined_edits : Dn K mg "joined_edits" s_joined_edits ["steps"] := dn_mk X G a_joined_edits l_joined_edits c_joined_edits k_joined_edits fun _ _ _ _ _ _ us hl => match us, hl with | [_], _ => rfl
  have D_edit_of : Dn K mg "edit_of" s_edit_of ["symbol", "blocks"] := dn_mk X G a_edit_of l_edit_of c_edit_of k_edit_of fun _ _ _ _ _ _ us hl => match us, hl with | [_, _], _ => rfl
  have D_answer : Dn K mg "answer" s_answer ["operation"] := dn_mk X G a_answer l_answer c_answer k_answer fun _ _ _ _ _ _ us hl => match us, hl with | [_], _ => rfl
  have DC_answer_text : DnC K mg "answer_text" s_answer_text ["operation"] cc_answer_text := ⟨f_answer_text, _, _, _, _, _, _, _, _, PySem.W.mg_of X G a_answer_text, l_answer_text, c_answer_text, k_answer_text, ((fun_mk l_answer_text c_answer_text k_answer_text).binds fun _ _ _ _ _ _ us hl => match us, hl with | [_], _ => rfl)⟩
  have ta_answer_text := tab_obj top fi_answer_text X a_answer_text l_answer_text rfl lc_answer_text vv_answer_text
  have D_with_length : Dn K mg "with_length" s_with_length ["data"] := dn_mk X G a_with_length l_with_length c_with_length k_with_length fun _ _ _ _ _ _ us hl => match us, hl with | [_], _ => rfl
  have DC_difference : DnC K mg "difference" s_difference ["first", "second"] cc_difference := ⟨f_difference, _, _, _, _, _, _, _, _, PySem.W.mg_of X G a_difference, l_difference, c_difference, k_difference, ((fun_mk l_difference c_difference k_difference).binds fun _ _ _ _ _ _ us hl => match us, hl with | [_, _], _ => rfl)⟩
  have ta_difference := tab_obj top fi_difference X a_difference l_difference rfl lc_difference vv_difference
  have c_SPACE : IsC mg "SPACE" (.int 32) := ⟨_, PySem.W.mg_of X G g_SPACE, _, rfl⟩
  have c_TAB : IsC mg "TAB" (.int 9) := ⟨_, PySem.W.mg_of X G g_TAB, _, rfl⟩
  have c_LINE_FEED : IsC mg "LINE_FEED" (.int 10) := ⟨_, PySem.W.mg_of X G g_LINE_FEED, _, rfl⟩
  have c_CARRIAGE_RETURN : IsC mg "CARRIAGE_RETURN" (.int 13) := ⟨_, PySem.W.mg_of X G g_CARRIAGE_RETURN, _, rfl⟩
  have c_DEEPEST_NESTING : IsC mg "DEEPEST_NESTING" (.int 16) := ⟨_, PySem.W.mg_of X G g_DEEPEST_NESTING, _, rfl⟩
  have c_MOST_DIGITS : IsC mg "MOST_DIGITS" (.int 6) := ⟨_, PySem.W.mg_of X G g_MOST_DIGITS, _, rfl⟩
  have c_LARGEST_CODE : IsC mg "LARGEST_CODE" (.int 1114111) := ⟨_, PySem.W.mg_of X G g_LARGEST_CODE, _, rfl⟩
  have c_LETTERS : IsC mg "LETTERS" (.str "abcdefghijklmnopqrstuvwxyz") := ⟨_, PySem.W.mg_of X G g_LETTERS, _, rfl⟩
  have c_DIGITS : IsC mg "DIGITS" (.str "0123456789") := ⟨_, PySem.W.mg_of X G g_DIGITS, _, rfl⟩
  have T_BLOCKS : Tb K w d_BLOCKS es_BLOCKS n_BLOCKS BLt := tb_mk (ks := ["para", "heading", "code", "formula", "rule", "quote", "bullets", "numbers", "terms", "table", "figure", "group", "note"]) l_BLOCKS e_BLOCKS y_BLOCKS (by decide +kernel) (by decide +kernel) (tbAll_cons ⟨g_BLOCKS_0, (fun H => .inr ⟨_, _, _, lt_BLOCKS_0, rfl, rfl, (show 1 ≤ sizeLine from le_line (by decide)), .cons ⟨_, rfl⟩ (.nil)⟩)⟩ (tbAll_cons ⟨g_BLOCKS_1, (fun H => .inr ⟨_, _, _, lt_BLOCKS_1, rfl, rfl, (show 3 ≤ sizeLine from le_line (by decide)), .cons ⟨_, rfl⟩ (.cons ⟨_, rfl⟩ (.cons ⟨_, rfl⟩ (.nil)))⟩)⟩ (tbAll_cons ⟨g_BLOCKS_2, (fun H => .inr ⟨_, _, _, lt_BLOCKS_2, rfl, rfl, (show 2 ≤ sizeLine from le_line (by decide)), .cons ⟨_, rfl⟩ (.cons ⟨_, rfl⟩ (.nil))⟩)⟩ (tbAll_cons ⟨g_BLOCKS_3, (fun H => .inr ⟨_, _, _, lt_BLOCKS_3, rfl, rfl, (show 2 ≤ sizeLine from le_line (by decide)), .cons ⟨_, rfl⟩ (.cons ⟨_, rfl⟩ (.nil))⟩)⟩ (tbAll_cons ⟨g_BLOCKS_4, (fun H => .inr ⟨_, _, _, lt_BLOCKS_4, rfl, rfl, (show 0 ≤ sizeLine from le_line (by decide)), .nil⟩)⟩ (tbAll_cons ⟨g_BLOCKS_5, (fun H => .inr ⟨_, _, _, lt_BLOCKS_5, rfl, rfl, (show 1 ≤ sizeLine from le_line (by decide)), .cons ⟨_, rfl⟩ (.nil)⟩)⟩ (tbAll_cons ⟨g_BLOCKS_6, (fun H => .inr ⟨_, _, _, lt_BLOCKS_6, rfl, rfl, (show 1 ≤ sizeLine from le_line (by decide)), .cons ⟨_, rfl⟩ (.nil)⟩)⟩ (tbAll_cons ⟨g_BLOCKS_7, (fun H => .inr ⟨_, _, _, lt_BLOCKS_7, rfl, rfl, (show 2 ≤ sizeLine from le_line (by decide)), .cons ⟨_, rfl⟩ (.cons ⟨_, rfl⟩ (.nil))⟩)⟩ (tbAll_cons ⟨g_BLOCKS_8, (fun H => .inr ⟨_, _, _, lt_BLOCKS_8, rfl, rfl, (show 1 ≤ sizeLine from le_line (by decide)), .cons ⟨_, rfl⟩ (.nil)⟩)⟩ (tbAll_cons ⟨g_BLOCKS_9, (fun H => .inr ⟨_, _, _, lt_BLOCKS_9, rfl, rfl, (show 4 ≤ sizeLine from le_line (by decide)), .cons ⟨_, rfl⟩ (.cons ⟨_, rfl⟩ (.cons ⟨_, rfl⟩ (.cons ⟨_, rfl⟩ (.nil))))⟩)⟩ (tbAll_cons ⟨g_BLOCKS_10, (fun H => .inr ⟨_, _, _, lt_BLOCKS_10, rfl, rfl, (show 3 ≤ sizeLine from le_line (by decide)), .cons ⟨_, rfl⟩ (.cons ⟨_, rfl⟩ (.cons ⟨_, rfl⟩ (.nil)))⟩)⟩ (tbAll_cons ⟨g_BLOCKS_11, (fun H => .inr ⟨_, _, _, lt_BLOCKS_11, rfl, rfl, (show 2 ≤ sizeLine from le_line (by decide)), .cons ⟨_, rfl⟩ (.cons ⟨_, rfl⟩ (.nil))⟩)⟩ (tbAll_cons ⟨g_BLOCKS_12, (fun H => .inr ⟨_, _, _, lt_BLOCKS_12, rfl, rfl, (show 2 ≤ sizeLine from le_line (by decide)), .cons ⟨_, rfl⟩ (.cons ⟨_, rfl⟩ (.nil))⟩)⟩ (tbAll_nil))))))))))))))
  have c_BLOCKS : IsC mg "BLOCKS" (.ref d_BLOCKS) := ⟨_, PySem.W.mg_of X G g_BLOCKS, rfl⟩
  have T_INLINES : Tb K w d_INLINES es_INLINES n_INLINES ILt := tb_mk (ks := ["code", "math", "break", "noteref", "ref", "cite", "emph", "strong", "strike", "super", "sub", "caps", "link", "image", "span"]) l_INLINES e_INLINES y_INLINES (by decide +kernel) (by decide +kernel) (tbAll_cons ⟨g_INLINES_0, (fun H => .inr ⟨_, _, _, lt_INLINES_0, rfl, rfl, (show 1 ≤ sizeLine from le_line (by decide)), .cons ⟨_, rfl⟩ (.nil)⟩)⟩ (tbAll_cons ⟨g_INLINES_1, (fun H => .inr ⟨_, _, _, lt_INLINES_1, rfl, rfl, (show 1 ≤ sizeLine from le_line (by decide)), .cons ⟨_, rfl⟩ (.nil)⟩)⟩ (tbAll_cons ⟨g_INLINES_2, (fun H => .inr ⟨_, _, _, lt_INLINES_2, rfl, rfl, (show 0 ≤ sizeLine from le_line (by decide)), .nil⟩)⟩ (tbAll_cons ⟨g_INLINES_3, (fun H => .inr ⟨_, _, _, lt_INLINES_3, rfl, rfl, (show 1 ≤ sizeLine from le_line (by decide)), .cons ⟨_, rfl⟩ (.nil)⟩)⟩ (tbAll_cons ⟨g_INLINES_4, (fun H => .inr ⟨_, _, _, lt_INLINES_4, rfl, rfl, (show 1 ≤ sizeLine from le_line (by decide)), .cons ⟨_, rfl⟩ (.nil)⟩)⟩ (tbAll_cons ⟨g_INLINES_5, (fun H => .inr ⟨_, _, _, lt_INLINES_5, rfl, rfl, (show 1 ≤ sizeLine from le_line (by decide)), .cons ⟨_, rfl⟩ (.nil)⟩)⟩ (tbAll_cons ⟨g_INLINES_6, (fun H => .inr ⟨_, _, _, lt_INLINES_6, rfl, rfl, (show 1 ≤ sizeLine from le_line (by decide)), .cons ⟨_, rfl⟩ (.nil)⟩)⟩ (tbAll_cons ⟨g_INLINES_7, (fun H => .inr ⟨_, _, _, lt_INLINES_7, rfl, rfl, (show 1 ≤ sizeLine from le_line (by decide)), .cons ⟨_, rfl⟩ (.nil)⟩)⟩ (tbAll_cons ⟨g_INLINES_8, (fun H => .inr ⟨_, _, _, lt_INLINES_8, rfl, rfl, (show 1 ≤ sizeLine from le_line (by decide)), .cons ⟨_, rfl⟩ (.nil)⟩)⟩ (tbAll_cons ⟨g_INLINES_9, (fun H => .inr ⟨_, _, _, lt_INLINES_9, rfl, rfl, (show 1 ≤ sizeLine from le_line (by decide)), .cons ⟨_, rfl⟩ (.nil)⟩)⟩ (tbAll_cons ⟨g_INLINES_10, (fun H => .inr ⟨_, _, _, lt_INLINES_10, rfl, rfl, (show 1 ≤ sizeLine from le_line (by decide)), .cons ⟨_, rfl⟩ (.nil)⟩)⟩ (tbAll_cons ⟨g_INLINES_11, (fun H => .inr ⟨_, _, _, lt_INLINES_11, rfl, rfl, (show 1 ≤ sizeLine from le_line (by decide)), .cons ⟨_, rfl⟩ (.nil)⟩)⟩ (tbAll_cons ⟨g_INLINES_12, (fun H => .inr ⟨_, _, _, lt_INLINES_12, rfl, rfl, (show 2 ≤ sizeLine from le_line (by decide)), .cons ⟨_, rfl⟩ (.cons ⟨_, rfl⟩ (.nil))⟩)⟩ (tbAll_cons ⟨g_INLINES_13, (fun H => .inr ⟨_, _, _, lt_INLINES_13, rfl, rfl, (show 2 ≤ sizeLine from le_line (by decide)), .cons ⟨_, rfl⟩ (.cons ⟨_, rfl⟩ (.nil))⟩)⟩ (tbAll_cons ⟨g_INLINES_14, (fun H => .inr ⟨_, _, _, lt_INLINES_14, rfl, rfl, (show 2 ≤ sizeLine from le_line (by decide)), .cons ⟨_, rfl⟩ (.cons ⟨_, rfl⟩ (.nil))⟩)⟩ (tbAll_nil))))))))))))))))
  have c_INLINES : IsC mg "INLINES" (.ref d_INLINES) := ⟨_, PySem.W.mg_of X G g_INLINES, rfl⟩
  have T_PARTS : Tb K w d_PARTS es_PARTS n_PARTS PTt := tb_mk (ks := ["item", "term", "caption", "align", "row", "cell", "class"]) l_PARTS e_PARTS y_PARTS (by decide +kernel) (by decide +kernel) (tbAll_cons ⟨g_PARTS_0, (fun H => .inr ⟨_, _, _, lt_PARTS_0, rfl, rfl, (show 1 ≤ sizeLine from le_line (by decide)), .cons ⟨_, rfl⟩ (.nil)⟩)⟩ (tbAll_cons ⟨g_PARTS_1, (fun H => .inr ⟨_, _, _, lt_PARTS_1, rfl, rfl, (show 2 ≤ sizeLine from le_line (by decide)), .cons ⟨_, rfl⟩ (.cons ⟨_, rfl⟩ (.nil))⟩)⟩ (tbAll_cons ⟨g_PARTS_2, (fun H => .inr ⟨_, _, _, lt_PARTS_2, rfl, rfl, (show 1 ≤ sizeLine from le_line (by decide)), .cons ⟨_, rfl⟩ (.nil)⟩)⟩ (tbAll_cons ⟨g_PARTS_3, (fun H => .inr ⟨_, _, _, lt_PARTS_3, rfl, rfl, (show 1 ≤ sizeLine from le_line (by decide)), .cons ⟨_, rfl⟩ (.nil)⟩)⟩ (tbAll_cons ⟨g_PARTS_4, (fun H => .inr ⟨_, _, _, lt_PARTS_4, rfl, rfl, (show 1 ≤ sizeLine from le_line (by decide)), .cons ⟨_, rfl⟩ (.nil)⟩)⟩ (tbAll_cons ⟨g_PARTS_5, (fun H => .inr ⟨_, _, _, lt_PARTS_5, rfl, rfl, (show 1 ≤ sizeLine from le_line (by decide)), .cons ⟨_, rfl⟩ (.nil)⟩)⟩ (tbAll_cons ⟨g_PARTS_6, (fun H => .inr ⟨_, _, _, lt_PARTS_6, rfl, rfl, (show 1 ≤ sizeLine from le_line (by decide)), .cons ⟨_, rfl⟩ (.nil)⟩)⟩ (tbAll_nil))))))))
  have c_PARTS : IsC mg "PARTS" (.ref d_PARTS) := ⟨_, PySem.W.mg_of X G g_PARTS, rfl⟩
  have c_LONGEST_LABEL : IsC mg "LONGEST_LABEL" (.int 40) := ⟨_, PySem.W.mg_of X G g_LONGEST_LABEL, _, rfl⟩
  have c_HIGHEST_LEVEL : IsC mg "HIGHEST_LEVEL" (.int 6) := ⟨_, PySem.W.mg_of X G g_HIGHEST_LEVEL, _, rfl⟩
  have c_ALIGNMENTS : IsC mg "ALIGNMENTS" (.ref d_ALIGNMENTS) := ⟨_, PySem.W.mg_of X G g_ALIGNMENTS, rfl⟩
  have A_ALIGNMENTS : ∀ H, SqT K H d_ALIGNMENTS [.str "none", .str "left", .str "center", .str "right"] := (fun H => .inr ⟨_, _, _, lt_ALIGNMENTS, rfl, rfl, (show 4 ≤ sizeLine from le_line (by decide)), .cons ⟨_, rfl⟩ (.cons ⟨_, rfl⟩ (.cons ⟨_, rfl⟩ (.cons ⟨_, rfl⟩ (.nil))))⟩)
  have c_HEX_DIGITS : IsC mg "HEX_DIGITS" (.str "0123456789abcdef") := ⟨_, PySem.W.mg_of X G g_HEX_DIGITS, _, rfl⟩
  have n_all : mg "all" = none := PySem.W.mg_none_of X G z_all
  have n_enumerate : mg "enumerate" = none := PySem.W.mg_none_of X G z_enumerate
  have n_isinstance : mg "isinstance" = none := PySem.W.mg_none_of X G z_isinstance
  have n_len : mg "len" = none := PySem.W.mg_none_of X G z_len
  have n_list : mg "list" = none := PySem.W.mg_none_of X G z_list
  have n_max : mg "max" = none := PySem.W.mg_none_of X G z_max
  have n_ord : mg "ord" = none := PySem.W.mg_none_of X G z_ord
  have n_range : mg "range" = none := PySem.W.mg_none_of X G z_range
  have n_str : mg "str" = none := PySem.W.mg_none_of X G z_str
  have n_tuple : mg "tuple" = none := PySem.W.mg_none_of X G z_tuple
  have n_zip : mg "zip" = none := PySem.W.mg_none_of X G z_zip
  have at_Refusal : mg "Refusal" = some (.ref C_Refusal) := PySem.W.mg_of X G g_Refusal
  have ec_Refusal : ErrC K C_Refusal := ⟨⟨_, _, _, _, _, _, _, _, _, _, _, _, _, _, _, lx_Refusal, bm_Refusal⟩, sa_Refusal, be_Refusal, ty_Refusal, kp_Refusal⟩
  have tx_Refusal : XfC K C_Refusal := ⟨ga_Refusal, gg_Refusal, be_Refusal, hd_Refusal⟩
  have te_Refusal_Refusal : PySem.W.exmOne K (.ref C_Refusal) (.ref C_Refusal) = some true := exm_sub be_Refusal ic_Refusal ty_Refusal su_Refusal_Refusal
  have B_Refusal_init : DnB K mg "Refusal" "Refusal.__init__" s_Refusal_init ["self", "code"] := ⟨C_Refusal, f_Refusal_init, _, ⟨at_Refusal, sp_Refusal, rd_Refusal, fc_Refusal, k_Refusal_init⟩, (fun_mk l_Refusal_init c_Refusal_init k_Refusal_init), ((fun_mk l_Refusal_init c_Refusal_init k_Refusal_init).binds fun _ _ _ _ _ _ us hl => match us, hl with | [_, _], _ => rfl)⟩
  have at_NotationError : mg "NotationError" = some (.ref C_NotationError) := PySem.W.mg_of X G g_NotationError
  have ec_NotationError : ErrC K C_NotationError := ⟨⟨_, _, _, _, _, _, _, _, _, _, _, _, _, _, _, lx_NotationError, bm_NotationError⟩, sa_NotationError, be_NotationError, ty_NotationError, kp_NotationError⟩
  have tx_NotationError : XfC K C_NotationError := ⟨ga_NotationError, gg_NotationError, be_NotationError, hd_NotationError⟩
  have te_NotationError_Refusal : PySem.W.exmOne K (.ref C_NotationError) (.ref C_Refusal) = some true := exm_sub be_Refusal ic_Refusal ty_Refusal su_NotationError_Refusal
  have te_NotationError_NotationError : PySem.W.exmOne K (.ref C_NotationError) (.ref C_NotationError) = some true := exm_sub be_NotationError ic_NotationError ty_NotationError su_NotationError_NotationError
  have X_NotationError_init : DnX K mg "NotationError" "NotationError.__init__" C_NotationError s_NotationError_init ["self", "kind", "position"] := ⟨ec_NotationError, at_NotationError, f_NotationError_init, _, fi_NotationError_init, ti_NotationError_init, (fun_mk l_NotationError_init c_NotationError_init k_NotationError_init), ((fun_mk l_NotationError_init c_NotationError_init k_NotationError_init).binds fun _ _ _ _ _ _ us hl => match us, hl with | [_, _, _], _ => rfl)⟩
  have at_Expression : mg "Expression" = some (.ref C_Expression) := PySem.W.mg_of X G g_Expression
  have cl_Expression : Cls K C_Expression := ⟨pg_Expression, hd_Expression, po_Expression, sa_Expression⟩
  have q_Expression_kind : Kf K C_Expression "kind" := ⟨cl_Expression, nf_Expression_kind⟩
  have q_Expression_value : Kf K C_Expression "value" := ⟨cl_Expression, nf_Expression_value⟩
  have q_Expression_position : Kf K C_Expression "position" := ⟨cl_Expression, nf_Expression_position⟩
  have I_Expression_init : DnI K mg "Expression" "Expression.__init__" C_Expression s_Expression_init ["self", "kind", "value", "position"] := ⟨cl_Expression, at_Expression, f_Expression_init, _, ⟨mk_Expression, fi_Expression_init, fn_Expression_init, kp_Expression⟩, (fun_mk l_Expression_init c_Expression_init k_Expression_init), ((fun_mk l_Expression_init c_Expression_init k_Expression_init).binds fun _ _ _ _ _ _ us hl => match us, hl with | [_, _, _, _], _ => rfl)⟩
  have at_Reader : mg "Reader" = some (.ref C_Reader) := PySem.W.mg_of X G g_Reader
  have cl_Reader : Cls K C_Reader := ⟨pg_Reader, hd_Reader, po_Reader, sa_Reader⟩
  have q_Reader_data : Kf K C_Reader "data" := ⟨cl_Reader, nf_Reader_data⟩
  have q_Reader_position : Kf K C_Reader "position" := ⟨cl_Reader, nf_Reader_position⟩
  have q_Reader_levels : Kf K C_Reader "levels" := ⟨cl_Reader, nf_Reader_levels⟩
  have I_Reader_init : DnI K mg "Reader" "Reader.__init__" C_Reader s_Reader_init ["self", "data"] := ⟨cl_Reader, at_Reader, f_Reader_init, _, ⟨mk_Reader, fi_Reader_init, fn_Reader_init, kp_Reader⟩, (fun_mk l_Reader_init c_Reader_init k_Reader_init), ((fun_mk l_Reader_init c_Reader_init k_Reader_init).binds fun _ _ _ _ _ _ us hl => match us, hl with | [_, _], _ => rfl)⟩
  have M_Reader_read_all : DnM K C_Reader "read_all" "Reader.read_all" s_Reader_read_all ["self"] := ⟨cl_Reader, f_Reader_read_all, _, ⟨fi_Reader_read_all, fn_Reader_read_all, k_Reader_read_all⟩, (fun_mk l_Reader_read_all c_Reader_read_all k_Reader_read_all), ((fun_mk l_Reader_read_all c_Reader_read_all k_Reader_read_all).binds fun _ _ _ _ _ _ us hl => match us, hl with | [_], _ => rfl)⟩
  have M_Reader_skip_blanks : DnM K C_Reader "skip_blanks" "Reader.skip_blanks" s_Reader_skip_blanks ["self"] := ⟨cl_Reader, f_Reader_skip_blanks, _, ⟨fi_Reader_skip_blanks, fn_Reader_skip_blanks, k_Reader_skip_blanks⟩, (fun_mk l_Reader_skip_blanks c_Reader_skip_blanks k_Reader_skip_blanks), ((fun_mk l_Reader_skip_blanks c_Reader_skip_blanks k_Reader_skip_blanks).binds fun _ _ _ _ _ _ us hl => match us, hl with | [_], _ => rfl)⟩
  have M_Reader_read_next : DnM K C_Reader "read_next" "Reader.read_next" s_Reader_read_next ["self"] := ⟨cl_Reader, f_Reader_read_next, _, ⟨fi_Reader_read_next, fn_Reader_read_next, k_Reader_read_next⟩, (fun_mk l_Reader_read_next c_Reader_read_next k_Reader_read_next), ((fun_mk l_Reader_read_next c_Reader_read_next k_Reader_read_next).binds fun _ _ _ _ _ _ us hl => match us, hl with | [_], _ => rfl)⟩
  have M_Reader_add_expression : DnM K C_Reader "add_expression" "Reader.add_expression" s_Reader_add_expression ["self", "kind", "value", "position"] := ⟨cl_Reader, f_Reader_add_expression, _, ⟨fi_Reader_add_expression, fn_Reader_add_expression, k_Reader_add_expression⟩, (fun_mk l_Reader_add_expression c_Reader_add_expression k_Reader_add_expression), ((fun_mk l_Reader_add_expression c_Reader_add_expression k_Reader_add_expression).binds fun _ _ _ _ _ _ us hl => match us, hl with | [_, _, _, _], _ => rfl)⟩
  have M_Reader_begin_list : DnM K C_Reader "begin_list" "Reader.begin_list" s_Reader_begin_list ["self"] := ⟨cl_Reader, f_Reader_begin_list, _, ⟨fi_Reader_begin_list, fn_Reader_begin_list, k_Reader_begin_list⟩, (fun_mk l_Reader_begin_list c_Reader_begin_list k_Reader_begin_list), ((fun_mk l_Reader_begin_list c_Reader_begin_list k_Reader_begin_list).binds fun _ _ _ _ _ _ us hl => match us, hl with | [_], _ => rfl)⟩
  have M_Reader_end_list : DnM K C_Reader "end_list" "Reader.end_list" s_Reader_end_list ["self"] := ⟨cl_Reader, f_Reader_end_list, _, ⟨fi_Reader_end_list, fn_Reader_end_list, k_Reader_end_list⟩, (fun_mk l_Reader_end_list c_Reader_end_list k_Reader_end_list), ((fun_mk l_Reader_end_list c_Reader_end_list k_Reader_end_list).binds fun _ _ _ _ _ _ us hl => match us, hl with | [_], _ => rfl)⟩
  have M_Reader_read_integer : DnM K C_Reader "read_integer" "Reader.read_integer" s_Reader_read_integer ["self"] := ⟨cl_Reader, f_Reader_read_integer, _, ⟨fi_Reader_read_integer, fn_Reader_read_integer, k_Reader_read_integer⟩, (fun_mk l_Reader_read_integer c_Reader_read_integer k_Reader_read_integer), ((fun_mk l_Reader_read_integer c_Reader_read_integer k_Reader_read_integer).binds fun _ _ _ _ _ _ us hl => match us, hl with | [_], _ => rfl)⟩
  have M_Reader_read_symbol : DnM K C_Reader "read_symbol" "Reader.read_symbol" s_Reader_read_symbol ["self"] := ⟨cl_Reader, f_Reader_read_symbol, _, ⟨fi_Reader_read_symbol, fn_Reader_read_symbol, k_Reader_read_symbol⟩, (fun_mk l_Reader_read_symbol c_Reader_read_symbol k_Reader_read_symbol), ((fun_mk l_Reader_read_symbol c_Reader_read_symbol k_Reader_read_symbol).binds fun _ _ _ _ _ _ us hl => match us, hl with | [_], _ => rfl)⟩
  have M_Reader_take_while : DnM K C_Reader "take_while" "Reader.take_while" s_Reader_take_while ["self", "fits"] := ⟨cl_Reader, f_Reader_take_while, _, ⟨fi_Reader_take_while, fn_Reader_take_while, k_Reader_take_while⟩, (fun_mk l_Reader_take_while c_Reader_take_while k_Reader_take_while), ((fun_mk l_Reader_take_while c_Reader_take_while k_Reader_take_while).binds fun _ _ _ _ _ _ us hl => match us, hl with | [_, _], _ => rfl)⟩
  have M_Reader_read_string : DnM K C_Reader "read_string" "Reader.read_string" s_Reader_read_string ["self"] := ⟨cl_Reader, f_Reader_read_string, _, ⟨fi_Reader_read_string, fn_Reader_read_string, k_Reader_read_string⟩, (fun_mk l_Reader_read_string c_Reader_read_string k_Reader_read_string), ((fun_mk l_Reader_read_string c_Reader_read_string k_Reader_read_string).binds fun _ _ _ _ _ _ us hl => match us, hl with | [_], _ => rfl)⟩
  have M_Reader_string_byte : DnM K C_Reader "string_byte" "Reader.string_byte" s_Reader_string_byte ["self"] := ⟨cl_Reader, f_Reader_string_byte, _, ⟨fi_Reader_string_byte, fn_Reader_string_byte, k_Reader_string_byte⟩, (fun_mk l_Reader_string_byte c_Reader_string_byte k_Reader_string_byte), ((fun_mk l_Reader_string_byte c_Reader_string_byte k_Reader_string_byte).binds fun _ _ _ _ _ _ us hl => match us, hl with | [_], _ => rfl)⟩
  have M_Reader_read_character : DnM K C_Reader "read_character" "Reader.read_character" s_Reader_read_character ["self"] := ⟨cl_Reader, f_Reader_read_character, _, ⟨fi_Reader_read_character, fn_Reader_read_character, k_Reader_read_character⟩, (fun_mk l_Reader_read_character c_Reader_read_character k_Reader_read_character), ((fun_mk l_Reader_read_character c_Reader_read_character k_Reader_read_character).binds fun _ _ _ _ _ _ us hl => match us, hl with | [_], _ => rfl)⟩
  have M_Reader_read_escape : DnM K C_Reader "read_escape" "Reader.read_escape" s_Reader_read_escape ["self"] := ⟨cl_Reader, f_Reader_read_escape, _, ⟨fi_Reader_read_escape, fn_Reader_read_escape, k_Reader_read_escape⟩, (fun_mk l_Reader_read_escape c_Reader_read_escape k_Reader_read_escape), ((fun_mk l_Reader_read_escape c_Reader_read_escape k_Reader_read_escape).binds fun _ _ _ _ _ _ us hl => match us, hl with | [_], _ => rfl)⟩
  have M_Reader_read_code_point : DnM K C_Reader "read_code_point" "Reader.read_code_point" s_Reader_read_code_point ["self", "backslash"] := ⟨cl_Reader, f_Reader_read_code_point, _, ⟨fi_Reader_read_code_point, fn_Reader_read_code_point, k_Reader_read_code_point⟩, (fun_mk l_Reader_read_code_point c_Reader_read_code_point k_Reader_read_code_point), ((fun_mk l_Reader_read_code_point c_Reader_read_code_point k_Reader_read_code_point).binds fun _ _ _ _ _ _ us hl => match us, hl with | [_, _], _ => rfl)⟩
  have M_Reader_skip_sign : DnM K C_Reader "skip_sign" "Reader.skip_sign" s_Reader_skip_sign ["self", "sign"] := ⟨cl_Reader, f_Reader_skip_sign, _, ⟨fi_Reader_skip_sign, fn_Reader_skip_sign, k_Reader_skip_sign⟩, (fun_mk l_Reader_skip_sign c_Reader_skip_sign k_Reader_skip_sign), ((fun_mk l_Reader_skip_sign c_Reader_skip_sign k_Reader_skip_sign).binds fun _ _ _ _ _ _ us hl => match us, hl with | [_, _], _ => rfl)⟩
  have at_Node : mg "Node" = some (.ref C_Node) := PySem.W.mg_of X G g_Node
  have cl_Node : Cls K C_Node := ⟨pg_Node, hd_Node, po_Node, sa_Node⟩
  have q_Node_symbol : Kf K C_Node "symbol" := ⟨cl_Node, nf_Node_symbol⟩
  have q_Node_head : Kf K C_Node "head" := ⟨cl_Node, nf_Node_head⟩
  have q_Node_children : Kf K C_Node "children" := ⟨cl_Node, nf_Node_children⟩
  have q_Node_holds : Kf K C_Node "holds" := ⟨cl_Node, nf_Node_holds⟩
  have I_Node_init : DnI K mg "Node" "Node.__init__" C_Node s_Node_init ["self", "symbol", "head", "children", "holds"] := ⟨cl_Node, at_Node, f_Node_init, _, ⟨mk_Node, fi_Node_init, fn_Node_init, kp_Node⟩, (fun_mk l_Node_init c_Node_init k_Node_init), ((fun_mk l_Node_init c_Node_init k_Node_init).binds fun _ _ _ _ _ _ us hl => match us, hl with | [_, _, _, _, _], _ => rfl)⟩
  have at_Shape : mg "Shape" = some (.ref C_Shape) := PySem.W.mg_of X G g_Shape
  have cl_Shape : Cls K C_Shape := ⟨pg_Shape, hd_Shape, po_Shape, sa_Shape⟩
  have q_Shape_leading : Kf K C_Shape "leading" := ⟨cl_Shape, nf_Shape_leading⟩
  have q_Shape_following : Kf K C_Shape "following" := ⟨cl_Shape, nf_Shape_following⟩
  have q_Shape_least : Kf K C_Shape "least" := ⟨cl_Shape, nf_Shape_least⟩
  have I_Shape_init : DnI K mg "Shape" "Shape.__init__" C_Shape s_Shape_init ["self", "words"] := ⟨cl_Shape, at_Shape, f_Shape_init, _, ⟨mk_Shape, fi_Shape_init, fn_Shape_init, kp_Shape⟩, (fun_mk l_Shape_init c_Shape_init k_Shape_init), ((fun_mk l_Shape_init c_Shape_init k_Shape_init).binds fun _ _ _ _ _ _ us hl => match us, hl with | [_, _], _ => rfl)⟩
  have M_Shape_allows_number : DnM K C_Shape "allows_number" "Shape.allows_number" s_Shape_allows_number ["self", "number"] := ⟨cl_Shape, f_Shape_allows_number, _, ⟨fi_Shape_allows_number, fn_Shape_allows_number, k_Shape_allows_number⟩, (fun_mk l_Shape_allows_number c_Shape_allows_number k_Shape_allows_number), ((fun_mk l_Shape_allows_number c_Shape_allows_number k_Shape_allows_number).binds fun _ _ _ _ _ _ us hl => match us, hl with | [_, _], _ => rfl)⟩
  have M_Shape_begins_with_integer : DnM K C_Shape "begins_with_integer" "Shape.begins_with_integer" s_Shape_begins_with_integer ["self"] := ⟨cl_Shape, f_Shape_begins_with_integer, _, ⟨fi_Shape_begins_with_integer, fn_Shape_begins_with_integer, k_Shape_begins_with_integer⟩, (fun_mk l_Shape_begins_with_integer c_Shape_begins_with_integer k_Shape_begins_with_integer), ((fun_mk l_Shape_begins_with_integer c_Shape_begins_with_integer k_Shape_begins_with_integer).binds fun _ _ _ _ _ _ us hl => match us, hl with | [_], _ => rfl)⟩
  have at_Step : mg "Step" = some (.ref C_Step) := PySem.W.mg_of X G g_Step
  have cl_Step : Cls K C_Step := ⟨pg_Step, hd_Step, po_Step, sa_Step⟩
  have q_Step_symbol : Kf K C_Step "symbol" := ⟨cl_Step, nf_Step_symbol⟩
  have q_Step_block : Kf K C_Step "block" := ⟨cl_Step, nf_Step_block⟩
  have I_Step_init : DnI K mg "Step" "Step.__init__" C_Step s_Step_init ["self", "symbol", "block"] := ⟨cl_Step, at_Step, f_Step_init, _, ⟨mk_Step, fi_Step_init, fn_Step_init, kp_Step⟩, (fun_mk l_Step_init c_Step_init k_Step_init), ((fun_mk l_Step_init c_Step_init k_Step_init).binds fun _ _ _ _ _ _ us hl => match us, hl with | [_, _, _], _ => rfl)⟩
  have is_Node : IsN K C_Node := ⟨⟨cl_Node, ia_Node, in_obj, it_obj, im_Node, kit_me⟩, kit_sub iC_Node iY_Node iT_Node rfl, kit_sub iC_Node iY_Node iI_Node rfl, kit_sub iC_Node iY_Node iS_Node rfl⟩
  have mem_answer_text : (pp_answer_text, ("answer_text.<locals>.<lambda>" : Str)) ∈ ([(pp_answer_text, ("answer_text.<locals>.<lambda>" : Str)), (pp_difference, ("difference.<locals>.<lambda>" : Str))] : List (Addr × Str)) := by simp
  have one_answer_text : ∀ p ∈ ([(pp_answer_text, ("answer_text.<locals>.<lambda>" : Str)), (pp_difference, ("difference.<locals>.<lambda>" : Str))] : List (Addr × Str)), p.1 = pp_answer_text → p.2 = "answer_text.<locals>.<lambda>" := fun p hp e => by
    simp only [List.mem_cons, List.not_mem_nil, or_false] at hp
    rcases hp with rfl | rfl <;> first | rfl | exact absurd e ne_difference_answer_text
  have mem_difference : (pp_difference, ("difference.<locals>.<lambda>" : Str)) ∈ ([(pp_answer_text, ("answer_text.<locals>.<lambda>" : Str)), (pp_difference, ("difference.<locals>.<lambda>" : Str))] : List (Addr × Str)) := by simp
  have one_difference : ∀ p ∈ ([(pp_answer_text, ("answer_text.<locals>.<lambda>" : Str)), (pp_difference, ("difference.<locals>.<lambda>" : Str))] : List (Addr × Str)), p.1 = pp_difference → p.2 = "difference.<locals>.<lambda>" := fun p hp e => by
    simp only [List.mem_cons, List.not_mem_nil, or_false] at hp
    rcases hp with rfl | rfl <;> first | rfl | exact absurd e ne_answer_text_difference
  have go : ∀ base : Heap, (∀ p ∈ ([(cc_answer_text, pp_answer_text), (cc_difference, pp_difference)] : List (Addr × Addr)), TabB base mg p.1 p.2) → FnOk P w K mg base CX0 78 f_difference _ ["first", "second"] ((fun K T => spDif K T) K [(pp_answer_text, ("answer_text.<locals>.<lambda>" : Str)), (pp_difference, ("difference.<locals>.<lambda>" : Str))]) := fun base tabs => by
    have tb_answer_text : TabB base mg cc_answer_text pp_answer_text := tabs (cc_answer_text, pp_answer_text) (by simp)
    have tb_difference : TabB base mg cc_difference pp_difference := tabs (cc_difference, pp_difference) (by simp)
    have o_is_space := ok_is_space (P := P) (w := w) (mg := mg) (base := base)  (D := D_is_space) (c_SPACE := c_SPACE) (c_TAB := c_TAB) (c_LINE_FEED := c_LINE_FEED) (c_CARRIAGE_RETURN := c_CARRIAGE_RETURN)
    have o_is_lowercase := ok_is_lowercase (P := P) (w := w) (mg := mg) (base := base)  (D := D_is_lowercase) (n_ord := n_ord)
    have o_is_uppercase := ok_is_uppercase (P := P) (w := w) (mg := mg) (base := base)  (D := D_is_uppercase) (n_ord := n_ord)
    have o_is_digit := ok_is_digit (P := P) (w := w) (mg := mg) (base := base)  (D := D_is_digit) (n_ord := n_ord)
    have o_is_continuation := ok_is_continuation (P := P) (w := w) (mg := mg) (base := base)  (D := D_is_continuation)
    have o_is_letter_or_digit := ok_is_letter_or_digit (P := P) (w := w) (mg := mg) (base := base)  (D := D_is_letter_or_digit) (o_is_lowercase := o_is_lowercase) (o_is_uppercase := o_is_uppercase) (o_is_digit := o_is_digit)
    have o_announced_length := ok_announced_length (P := P) (w := w) (mg := mg) (base := base)  (D := D_announced_length)
    have o_second_byte_fits := ok_second_byte_fits (P := P) (w := w) (mg := mg) (base := base)  (D := D_second_byte_fits)
    have o_sequence_length := ok_sequence_length (P := P) (w := w) (mg := mg) (base := base)  (D := D_sequence_length) (n_len := n_len) (o_announced_length := o_announced_length) (o_is_continuation := o_is_continuation) (o_second_byte_fits := o_second_byte_fits)
    have o_joined := ok_joined (P := P) (w := w) (mg := mg) (base := base)  (D := D_joined) (n_enumerate := n_enumerate)
    have o_ascii_bytes := ok_ascii_bytes (P := P) (w := w) (mg := mg) (base := base)  (D := D_ascii_bytes) (n_ord := n_ord)
    have o_with_length := ok_with_length (P := P) (w := w) (mg := mg) (base := base)  (D := D_with_length) (n_len := n_len)
    have o_continuation := ok_continuation (P := P) (w := w) (mg := mg) (base := base)  (D := D_continuation)
    have o_encoded := ok_encoded (P := P) (w := w) (mg := mg) (base := base)  (D := D_encoded) (o_continuation := o_continuation)
    have o_is_symbol_byte := ok_is_symbol_byte (P := P) (w := w) (mg := mg) (base := base)  (D := D_is_symbol_byte) (n_ord := n_ord) (o_is_lowercase := o_is_lowercase) (o_is_digit := o_is_digit)
    have o_hex_value := ok_hex_value (P := P) (w := w) (mg := mg) (base := base)  (D := D_hex_value) (n_ord := n_ord) (o_is_digit := o_is_digit)
    have o_is_hex_digit := ok_is_hex_digit (P := P) (w := w) (mg := mg) (base := base)  (D := D_is_hex_digit) (n_ord := n_ord) (o_is_digit := o_is_digit)
    have o_is_code_point := ok_is_code_point (P := P) (w := w) (mg := mg) (base := base)  (D := D_is_code_point) (c_LARGEST_CODE := c_LARGEST_CODE)
    have o_symbol_sign := ok_symbol_sign (P := P) (w := w) (mg := mg) (base := base)  (D := D_symbol_sign) (n_ord := n_ord) (o_is_lowercase := o_is_lowercase) (o_is_digit := o_is_digit) (c_LETTERS := c_LETTERS) (c_DIGITS := c_DIGITS)
    have b_Refusal := ok_Refusal_init (P := P) (w := w) (mg := mg) (base := base)  (D := B_Refusal_init)
    have x_NotationError := ok_NotationError_init (P := P) (w := w) (mg := mg) (base := base)  (D := X_NotationError_init) (b_Refusal := b_Refusal) (nc := nf_NotationError_code) (nk := nf_NotationError_kind) (np := nf_NotationError_position)
    have k_Expression := ok_Expression_init (P := P) (w := w) (mg := mg) (base := base)  (D := I_Expression_init) (q_Expression_kind := q_Expression_kind) (q_Expression_value := q_Expression_value) (q_Expression_position := q_Expression_position)
    have o_answer := ok_answer (P := P) (w := w) (mg := mg) (base := base)  (T := [(pp_answer_text, ("answer_text.<locals>.<lambda>" : Str)), (pp_difference, ("difference.<locals>.<lambda>" : Str))]) (CF := C_Refusal) (D := D_answer) (at_Refusal := at_Refusal)
    have o_answer_text := ok_answer_text (P := P) (w := w) (mg := mg) (base := base)  (T := [(pp_answer_text, ("answer_text.<locals>.<lambda>" : Str)), (pp_difference, ("difference.<locals>.<lambda>" : Str))]) (CF := C_Refusal) (D := DC_answer_text) (tb_answer_text := tb_answer_text) (mem := mem_answer_text) (one := one_answer_text) (o_answer := o_answer) (o_with_length := o_with_length)
    have m_Reader_skip_blanks := ok_Reader_skip_blanks (P := P) (w := w) (mg := mg) (base := base)  (CR := C_Reader) (DD := M_Reader_skip_blanks) (n_len := n_len) (n_ord := n_ord) (c_LINE_FEED := c_LINE_FEED) (q_Reader_position := q_Reader_position) (q_Reader_data := q_Reader_data) (o_is_space := o_is_space)
    have m_Reader_take_while := ok_Reader_take_while (P := P) (w := w) (mg := mg) (base := base)  (CR := C_Reader) (DD := M_Reader_take_while) (n_len := n_len) (q_Reader_position := q_Reader_position) (q_Reader_data := q_Reader_data)
    have m_Reader_string_byte := ok_Reader_string_byte (P := P) (w := w) (mg := mg) (base := base)  (CE := C_NotationError) (CR := C_Reader) (DD := M_Reader_string_byte) (n_len := n_len) (q_Reader_position := q_Reader_position) (q_Reader_data := q_Reader_data) (x_NotationError := x_NotationError)
    have m_Reader_read_character := ok_Reader_read_character (P := P) (w := w) (mg := mg) (base := base)  (CE := C_NotationError) (CR := C_Reader) (DD := M_Reader_read_character) (c_SPACE := c_SPACE) (q_Reader_position := q_Reader_position) (q_Reader_data := q_Reader_data) (o_sequence_length := o_sequence_length) (x_NotationError := x_NotationError)
    have m_Reader_skip_sign := ok_Reader_skip_sign (P := P) (w := w) (mg := mg) (base := base)  (CR := C_Reader) (DD := M_Reader_skip_sign) (n_ord := n_ord) (q_Reader_position := q_Reader_position) (q_Reader_data := q_Reader_data)
    have m_Reader_read_code_point := ok_Reader_read_code_point (P := P) (w := w) (mg := mg) (base := base)  (CE := C_NotationError) (CR := C_Reader) (DD := M_Reader_read_code_point) (n_len := n_len) (c_MOST_DIGITS := c_MOST_DIGITS) (m_Reader_skip_sign := m_Reader_skip_sign) (m_Reader_take_while := m_Reader_take_while) (o_is_hex_digit := o_is_hex_digit) (o_hex_value := o_hex_value) (o_is_code_point := o_is_code_point) (x_NotationError := x_NotationError)
    have m_Reader_read_escape := ok_Reader_read_escape (P := P) (w := w) (mg := mg) (base := base)  (CE := C_NotationError) (CR := C_Reader) (DD := M_Reader_read_escape) (n_ord := n_ord) (c_LINE_FEED := c_LINE_FEED) (c_TAB := c_TAB) (q_Reader_position := q_Reader_position) (o_encoded := o_encoded) (m_Reader_string_byte := m_Reader_string_byte) (m_Reader_read_code_point := m_Reader_read_code_point) (x_NotationError := x_NotationError)
    have m_Reader_add_expression := ok_Reader_add_expression (P := P) (w := w) (mg := mg) (base := base)  (CR := C_Reader) (CX := C_Expression) (DD := M_Reader_add_expression) (q_Reader_levels := q_Reader_levels) (k_Expression := k_Expression)
    have m_Reader_begin_list := ok_Reader_begin_list (P := P) (w := w) (mg := mg) (base := base)  (CE := C_NotationError) (CR := C_Reader) (CX := C_Expression) (DD := M_Reader_begin_list) (n_len := n_len) (c_DEEPEST_NESTING := c_DEEPEST_NESTING) (q_Reader_position := q_Reader_position) (q_Reader_levels := q_Reader_levels) (m_Reader_add_expression := m_Reader_add_expression) (x_NotationError := x_NotationError)
    have m_Reader_end_list := ok_Reader_end_list (P := P) (w := w) (mg := mg) (base := base)  (CE := C_NotationError) (CR := C_Reader) (CX := C_Expression) (DD := M_Reader_end_list) (n_len := n_len) (q_Reader_position := q_Reader_position) (q_Reader_levels := q_Reader_levels) (x_NotationError := x_NotationError)
    have m_Reader_read_integer := ok_Reader_read_integer (P := P) (w := w) (mg := mg) (base := base)  (CE := C_NotationError) (CR := C_Reader) (CX := C_Expression) (DD := M_Reader_read_integer) (n_len := n_len) (n_ord := n_ord) (c_MOST_DIGITS := c_MOST_DIGITS) (q_Reader_position := q_Reader_position) (o_is_digit := o_is_digit) (m_Reader_take_while := m_Reader_take_while) (m_Reader_add_expression := m_Reader_add_expression) (x_NotationError := x_NotationError)
    have m_Reader_read_symbol := ok_Reader_read_symbol (P := P) (w := w) (mg := mg) (base := base)  (CR := C_Reader) (CX := C_Expression) (DD := M_Reader_read_symbol) (q_Reader_position := q_Reader_position) (o_is_symbol_byte := o_is_symbol_byte) (o_symbol_sign := o_symbol_sign) (m_Reader_take_while := m_Reader_take_while) (m_Reader_add_expression := m_Reader_add_expression)
    have m_Reader_read_string := ok_Reader_read_string (P := P) (w := w) (mg := mg) (base := base)  (CE := C_NotationError) (CR := C_Reader) (CX := C_Expression) (DD := M_Reader_read_string) (n_ord := n_ord) (n_tuple := n_tuple) (q_Reader_position := q_Reader_position) (m_Reader_string_byte := m_Reader_string_byte) (m_Reader_read_escape := m_Reader_read_escape) (m_Reader_read_character := m_Reader_read_character) (m_Reader_add_expression := m_Reader_add_expression)
    have m_Reader_read_next := ok_Reader_read_next (P := P) (w := w) (mg := mg) (base := base)  (CE := C_NotationError) (CR := C_Reader) (CX := C_Expression) (DD := M_Reader_read_next) (n_ord := n_ord) (q_Reader_position := q_Reader_position) (q_Reader_data := q_Reader_data) (o_is_digit := o_is_digit) (o_is_lowercase := o_is_lowercase) (m_Reader_begin_list := m_Reader_begin_list) (m_Reader_end_list := m_Reader_end_list) (m_Reader_read_string := m_Reader_read_string) (m_Reader_read_integer := m_Reader_read_integer) (m_Reader_read_symbol := m_Reader_read_symbol) (x_NotationError := x_NotationError)
    have m_Reader_read_all := ok_Reader_read_all (P := P) (w := w) (mg := mg) (base := base)  (CE := C_NotationError) (CR := C_Reader) (CX := C_Expression) (DD := M_Reader_read_all) (n_len := n_len) (q_Reader_position := q_Reader_position) (q_Reader_data := q_Reader_data) (q_Reader_levels := q_Reader_levels) (m_Reader_skip_blanks := m_Reader_skip_blanks) (m_Reader_read_next := m_Reader_read_next) (x_NotationError := x_NotationError)
    have k_Reader := ok_Reader_init (P := P) (w := w) (mg := mg) (base := base)  (CR := C_Reader) (D := I_Reader_init) (n_list := n_list) (q_Reader_data := q_Reader_data) (q_Reader_position := q_Reader_position) (q_Reader_levels := q_Reader_levels)
    have o_read_expressions := ok_read_expressions (P := P) (w := w) (mg := mg) (base := base)  (CE := C_NotationError) (CR := C_Reader) (CX := C_Expression) (DD := D_read_expressions) (k_Reader := k_Reader) (m_Reader_read_all := m_Reader_read_all)
    have o_is_label_byte := ok_is_label_byte (P := P) (w := w) (mg := mg) (base := base)  (D := D_is_label_byte) (n_ord := n_ord) (o_is_letter_or_digit := o_is_letter_or_digit)
    have o_is_label := ok_is_label (P := P) (w := w) (mg := mg) (base := base)  (D := D_is_label) (n_len := n_len) (n_all := n_all) (c_LONGEST_LABEL := c_LONGEST_LABEL) (o_is_label_byte := o_is_label_byte)
    have o_list_symbol := ok_list_symbol (P := P) (w := w) (mg := mg) (base := base)  (CX := C_Expression) (D := D_list_symbol) (q_Expression_kind := q_Expression_kind) (q_Expression_value := q_Expression_value)
    have o_begins_with_list := ok_begins_with_list (P := P) (w := w) (mg := mg) (base := base)  (CX := C_Expression) (D := D_begins_with_list) (n_len := n_len) (q_Expression_kind := q_Expression_kind)
    have k_Shape := ok_Shape_init (P := P) (w := w) (mg := mg) (base := base)  (CS := C_Shape) (D := I_Shape_init) (q_Shape_leading := q_Shape_leading) (q_Shape_following := q_Shape_following) (q_Shape_least := q_Shape_least)
    have m_Shape_allows_number := ok_Shape_allows_number (P := P) (w := w) (mg := mg) (base := base)  (CS := C_Shape) (DD := M_Shape_allows_number) (q_Shape_following := q_Shape_following) (q_Shape_least := q_Shape_least)
    have o_block_shape := ok_block_shape (P := P) (w := w) (mg := mg) (base := base)  (CS := C_Shape) (D := D_block_shape) (T := T_BLOCKS) (c_BLOCKS := c_BLOCKS) (k_Shape := k_Shape)
    have o_inline_shape := ok_inline_shape (P := P) (w := w) (mg := mg) (base := base)  (CS := C_Shape) (D := D_inline_shape) (T := T_INLINES) (c_INLINES := c_INLINES) (k_Shape := k_Shape)
    have o_part_shape := ok_part_shape (P := P) (w := w) (mg := mg) (base := base)  (CS := C_Shape) (D := D_part_shape) (T := T_PARTS) (c_PARTS := c_PARTS) (k_Shape := k_Shape)
    have o_is_level := ok_is_level (P := P) (w := w) (mg := mg) (base := base)  (D := D_is_level) (c_HIGHEST_LEVEL := c_HIGHEST_LEVEL)
    have o_read_level := ok_read_level (P := P) (w := w) (mg := mg) (base := base)  (CE := C_NotationError) (CX := C_Expression) (D := D_read_level) (o_is_level := o_is_level) (q_Expression_value := q_Expression_value) (q_Expression_position := q_Expression_position) (x_NotationError := x_NotationError)
    have o_read_alignment := ok_read_alignment (P := P) (w := w) (mg := mg) (base := base)  (CE := C_NotationError) (CX := C_Expression) (D := D_read_alignment) (c_ALIGNMENTS := c_ALIGNMENTS) (hal := A_ALIGNMENTS) (q_Expression_kind := q_Expression_kind) (q_Expression_value := q_Expression_value) (q_Expression_position := q_Expression_position) (x_NotationError := x_NotationError)
    have o_read_string := ok_read_string (P := P) (w := w) (mg := mg) (base := base)  (CE := C_NotationError) (CX := C_Expression) (D := D_read_string) (n_len := n_len) (o_is_label := o_is_label) (q_Expression_kind := q_Expression_kind) (q_Expression_value := q_Expression_value) (q_Expression_position := q_Expression_position) (x_NotationError := x_NotationError)
    have o_require_part := ok_require_part (P := P) (w := w) (mg := mg) (base := base)  (CE := C_NotationError) (CX := C_Expression) (D := D_require_part) (o_list_symbol := o_list_symbol) (o_begins_with_list := o_begins_with_list) (q_Expression_value := q_Expression_value) (q_Expression_position := q_Expression_position) (x_NotationError := x_NotationError)
    have k_Node := ok_Node_init (P := P) (w := w) (mg := mg) (base := base)  (CN := C_Node) (D := I_Node_init) (q_Node_symbol := q_Node_symbol) (q_Node_head := q_Node_head) (q_Node_children := q_Node_children) (q_Node_holds := q_Node_holds)
    have m_Shape_begins_with_integer := ok_Shape_begins_with_integer (P := P) (w := w) (mg := mg) (base := base)  (CS := C_Shape) (DD := M_Shape_begins_with_integer) (n_len := n_len) (q_Shape_leading := q_Shape_leading)
    have o_read_block := (rd_all D_read_list D_read_shaped D_read_block D_read_inline D_read_part D_read_row D_read_argument n_len n_zip o_list_symbol o_block_shape o_inline_shape o_part_shape m_Shape_allows_number m_Shape_begins_with_integer o_require_part o_read_string o_read_level o_read_alignment k_Node q_Expression_kind q_Expression_value q_Expression_position q_Shape_leading q_Shape_following q_Node_children x_NotationError 16).2
    have o_read_document := ok_read_document (P := P) (w := w) (mg := mg) (base := base)  (CE := C_NotationError) (CN := C_Node) (CX := C_Expression) (D := D_read_document) (o_read_expressions := o_read_expressions) (o_read_block := o_read_block)
    have o_short_hex := ok_short_hex (P := P) (w := w) (mg := mg) (base := base)  (D := D_short_hex) (c_HEX_DIGITS := c_HEX_DIGITS)
    have o_write_byte := ok_write_byte (P := P) (w := w) (mg := mg) (base := base)  (D := D_write_byte) (n_ord := n_ord) (c_LINE_FEED := c_LINE_FEED) (c_TAB := c_TAB) (c_SPACE := c_SPACE) (o_ascii_bytes := o_ascii_bytes) (o_short_hex := o_short_hex)
    have o_asciiN := asciiN_ok (P := P) (w := w) (mg := mg) (base := base) D_ascii_bytes n_ord
    have o_write_string := ok_write_string (P := P) (w := w) (mg := mg) (base := base)  (D := D_write_string) (o_ascii_bytes := o_asciiN) (o_write_byte := o_write_byte)
    have o_leaf := ok_leaf (P := P) (w := w) (mg := mg) (base := base)  (CN := C_Node) (D := D_leaf) (k_Node := k_Node)
    have k_Step := ok_Step_init (P := P) (w := w) (mg := mg) (base := base)  (CP := C_Step) (D := I_Step_init) (q_Step_symbol := q_Step_symbol) (q_Step_block := q_Step_block)
    have o_edit_of := ok_edit_of (P := P) (w := w) (mg := mg) (base := base)  (CN := C_Node) (D := D_edit_of) (n_len := n_len) (k_Node := k_Node) (o_leaf := o_leaf)
    have o_joined_edits := ok_joined_edits (P := P) (w := w) (mg := mg) (base := base)  (CP := C_Step) (CN := C_Node) (D := D_joined_edits) (n_len := n_len) (q_Step_symbol := q_Step_symbol) (q_Step_block := q_Step_block) (o_edit_of := o_edit_of)
    have o_common_lengths := ok_common_lengths (P := P) (w := w) (mg := mg) (base := base)  (D := D_common_lengths) (n_len := n_len) (n_range := n_range) (n_max := n_max)
    have o_write_list := (wr_all (P := P) (w := w) (mg := mg) (base := base) D_write_list D_write_part n_isinstance n_tuple n_str at_Node is_Node q_Node_symbol q_Node_head q_Node_children c_SPACE o_write_string o_ascii_bytes o_joined 16).1
    have o_steps_between := ok_steps_between (P := P) (w := w) (mg := mg) (base := base)  (CP := C_Step) (CN := C_Node) (D := D_steps_between) (n_len := n_len) (k_Step := k_Step) (o_write_list := o_write_list) (o_common_lengths := o_common_lengths)
    have o_write_nodes := wn_deep (P := P) (w := w) (mg := mg) (base := base) (j := 17) D_write_nodes c_LINE_FEED (wr_all (P := P) (w := w) (mg := mg) (base := base) D_write_list D_write_part n_isinstance n_tuple n_str at_Node is_Node q_Node_symbol q_Node_head q_Node_children c_SPACE o_write_string o_ascii_bytes o_joined 17).1 o_joined
    have o_difference_edits := ok_difference_edits (P := P) (w := w) (mg := mg) (base := base)  (CP := C_Step) (CN := C_Node) (D := D_difference_edits) (o_steps_between := o_steps_between) (o_joined_edits := o_joined_edits)
    exact fn_difference (CF := C_Refusal) (CE := C_NotationError) (CN := C_Node) (cs := cc_difference) (Ps := pp_difference) l_difference c_difference tb_difference mem_difference one_difference o_answer_text o_read_document o_difference_edits o_write_nodes te_NotationError_Refusal tx_NotationError nf_NotationError_code
  cases hfa.symm.trans (PySem.W.mg_of X G a_difference)
  refine fin _ [(cc_answer_text, pp_answer_text), (cc_difference, pp_difference)] [(pp_answer_text, ("answer_text.<locals>.<lambda>" : Str)), (pp_difference, ("difference.<locals>.<lambda>" : Str))] (fun p hp => ?_) (fun p hp => ?_) (fun s us hu => match us, hu with | [_, _], _ => .of_eq rfl) (fun base _ _ => go base) (fun H hH p hp => ?_)
  · simp only [List.mem_cons, List.not_mem_nil, or_false] at hp
    rcases hp with rfl | rfl
    · exact ta_answer_text
    · exact ta_difference
  · simp only [List.mem_cons, List.not_mem_nil, or_false] at hp
    rcases hp with rfl | rfl
    · exact nk_answer_text
    · exact nk_difference
  · simp only [List.mem_cons, List.not_mem_nil, or_false] at hp
    rcases hp with rfl | rfl
    · exact TabS.nil (hH (cc_answer_text, pp_answer_text) (by simp))
    · exact TabS.nil (hH (cc_difference, pp_difference) (by simp))
end Bt

namespace Bt
open PySem PySem.Spec PyProof.Rows L2 LamX
open PySem.W (Codec OpenSpec)

theorem said (K : PySem.W.Frag) (T : List (Addr × Str)) : ∀ (H : Hp) (xs : List V) (a : Codec.denoteAll PySem.Challenge.rw_blocktrees_s20_difference.args), Tabs T H → Codec.withinAll PySem.Challenge.rw_blocktrees_s20_difference.args a = true → Codec.app PySem.Challenge.rw_blocktrees_s20_difference.args PySem.Challenge.rw_blocktrees_s20_difference.asked a = true → DwAll K H xs (Codec.encAll PySem.Challenge.rw_blocktrees_s20_difference.args a) →
    ((fun K T => spDif K T) K T) xs H (fun v H' => Dw K H' v (PySem.Challenge.rw_blocktrees_s20_difference.ret.enc (Codec.app PySem.Challenge.rw_blocktrees_s20_difference.args PySem.Challenge.rw_blocktrees_s20_difference.f a))) fun _ _ _ => False := by
    intro H xs a hT hwi hask hx
    cases hx with
    | cons h1 h2 =>
      cases h2 with
      | cons h2 h3 =>
      cases h3
      cases h1 with
      | lst hs1 ha1 =>
      cases h2 with
      | lst hs ha =>
        have e := L2.ints_dw a.2.1 _ ha
        subst e
        have e1 := L2.ints_dw a.1 _ ha1
        subst e1
        have q : ((Codec.inLen 0 600 a.1 && a.1.all (Codec.inInt 0 255)) && ((Codec.inLen 0 600 a.2.1 && a.2.1.all (Codec.inInt 0 255)) && true)) = true := hwi
        rw [Bool.and_eq_true, Bool.and_eq_true, Bool.and_eq_true, Bool.and_eq_true] at q
        have hle1 := (Codec.inNat_iff.mp q.1.1).2
        have hle := (Codec.inNat_iff.mp q.2.1.1).2
        have hb1 : ∀ x ∈ a.1, 0 ≤ x ∧ x ≤ 255 := fun x hx => by
          have := List.all_eq_true.mp q.1.2 x hx
          simpa [Codec.inInt] using this
        have hb : ∀ x ∈ a.2.1, 0 ≤ x ∧ x ≤ 255 := fun x hx => by
          have := List.all_eq_true.mp q.2.1.2 x hx
          simpa [Codec.inInt] using this
        refine ⟨_, _, a.1.map Int.toNat, a.2.1.map Int.toNat, rfl, ⟨_, rfl, ?_⟩, ⟨_, rfl, ?_⟩, hT, by rw [List.length_map]; exact hle1, by rw [List.length_map]; exact hle, fun x hx => ?_, fun x hx => ?_, fun p H' hp => ?_⟩
        · rw [Bt.nV_toNat hb1]; exact hs1
        · rw [Bt.nV_toNat hb]; exact hs
        · obtain ⟨y, hy, rfl⟩ := List.mem_map.mp hx
          obtain ⟨h1, h2⟩ := (show (0 : Int) ≤ y ∧ (y : Int) ≤ 255 from hb1 y hy)
          show Int.toNat y < 256
          omega
        · obtain ⟨y, hy, rfl⟩ := List.mem_map.mp hx
          obtain ⟨h1, h2⟩ := (show (0 : Int) ≤ y ∧ (y : Int) ≤ 255 from hb y hy)
          show Int.toNat y < 256
          omega
        · rw [← Bt.dif_is a.1 a.2.1 hle1 hle] at hp
          exact .lst (L2.SqL.of hp) (L2.dw_ints _)
end Bt

open PySem PySem.W PyProof.Rows
set_option maxRecDepth 100000 in
set_option maxHeartbeats 16000000 in
theorem PySem.Challenge.cw_blocktrees_s20_difference_holds : PySem.Challenge.rw_blocktrees_s20_difference.Holds := by
  w_on; k_headS; (case hw => exact ⟨[.list [], .list []], by decide +kernel, by decide +kernel⟩)
  k_fillS
  refine Bt.walk_tabs (r := PySem.Challenge.rw_blocktrees_s20_difference) (k := 78) (ps := ["first", "second"]) (by decide +kernel) rfl rfl ⟨rfl, by decide, by decide⟩ (fun w h Y => PySem.W.kIn_of Y) ?F
  case F =>
    intro w mean mg mb fa h Y KX top hmg
    refine' Bt.all_mk KX top hmg (by decide +kernel) (by decide +kernel) (fun fd cs T h1 h2 h3 h4 h5 => ⟨fd, cs, _, h1, h2, h3, h4, fun H xs a hT hw ha hd => Bt.said _ T H xs a (h5 H hT) hw ha hd⟩) ?a_ascii_bytes ?l_ascii_bytes ?c_ascii_bytes ?k_ascii_bytes ?a_is_space ?l_is_space ?c_is_space ?k_is_space ?a_is_lowercase ?l_is_lowercase ?c_is_lowercase ?k_is_lowercase ?a_is_uppercase ?l_is_uppercase ?c_is_uppercase ?k_is_uppercase ?a_is_digit ?l_is_digit ?c_is_digit ?k_is_digit ?a_is_letter_or_digit ?l_is_letter_or_digit ?c_is_letter_or_digit ?k_is_letter_or_digit ?a_is_continuation ?l_is_continuation ?c_is_continuation ?k_is_continuation ?a_announced_length ?l_announced_length ?c_announced_length ?k_announced_length ?a_second_byte_fits ?l_second_byte_fits ?c_second_byte_fits ?k_second_byte_fits ?a_sequence_length ?l_sequence_length ?c_sequence_length ?k_sequence_length ?a_encoded ?l_encoded ?c_encoded ?k_encoded ?a_continuation ?l_continuation ?c_continuation ?k_continuation ?a_joined ?l_joined ?c_joined ?k_joined ?a_is_symbol_byte ?l_is_symbol_byte ?c_is_symbol_byte ?k_is_symbol_byte ?a_symbol_sign ?l_symbol_sign ?c_symbol_sign ?k_symbol_sign ?a_hex_value ?l_hex_value ?c_hex_value ?k_hex_value ?a_is_hex_digit ?l_is_hex_digit ?c_is_hex_digit ?k_is_hex_digit ?a_is_code_point ?l_is_code_point ?c_is_code_point ?k_is_code_point ?a_read_expressions ?l_read_expressions ?c_read_expressions ?k_read_expressions ?a_leaf ?l_leaf ?c_leaf ?k_leaf ?a_block_shape ?l_block_shape ?c_block_shape ?k_block_shape ?a_inline_shape ?l_inline_shape ?c_inline_shape ?k_inline_shape ?a_part_shape ?l_part_shape ?c_part_shape ?k_part_shape ?a_read_document ?l_read_document ?c_read_document ?k_read_document ?a_is_label ?l_is_label ?c_is_label ?k_is_label ?a_is_label_byte ?l_is_label_byte ?c_is_label_byte ?k_is_label_byte ?a_list_symbol ?l_list_symbol ?c_list_symbol ?k_list_symbol ?a_read_block ?l_read_block ?c_read_block ?k_read_block ?a_read_inline ?l_read_inline ?c_read_inline ?k_read_inline ?a_read_shaped ?l_read_shaped ?c_read_shaped ?k_read_shaped ?a_read_list ?l_read_list ?c_read_list ?k_read_list ?a_read_argument ?l_read_argument ?c_read_argument ?k_read_argument ?a_read_string ?l_read_string ?c_read_string ?k_read_string ?a_is_level ?l_is_level ?c_is_level ?k_is_level ?a_read_level ?l_read_level ?c_read_level ?k_read_level ?a_read_alignment ?l_read_alignment ?c_read_alignment ?k_read_alignment ?a_read_part ?l_read_part ?c_read_part ?k_read_part ?a_require_part ?l_require_part ?c_require_part ?k_require_part ?a_begins_with_list ?l_begins_with_list ?c_begins_with_list ?k_begins_with_list ?a_read_row ?l_read_row ?c_read_row ?k_read_row ?a_write_nodes ?l_write_nodes ?c_write_nodes ?k_write_nodes ?a_write_list ?l_write_list ?c_write_list ?k_write_list ?a_write_part ?l_write_part ?c_write_part ?k_write_part ?a_write_string ?l_write_string ?c_write_string ?k_write_string ?a_write_byte ?l_write_byte ?c_write_byte ?k_write_byte ?a_short_hex ?l_short_hex ?c_short_hex ?k_short_hex ?a_difference_edits ?l_difference_edits ?c_difference_edits ?k_difference_edits ?a_steps_between ?l_steps_between ?c_steps_between ?k_steps_between ?a_common_lengths ?l_common_lengths ?c_common_lengths ?k_common_lengths ?a_joined_edits ?l_joined_edits ?c_joined_edits ?k_joined_edits ?a_edit_of ?l_edit_of ?c_edit_of ?k_edit_of ?a_answer ?l_answer ?c_answer ?k_answer ?a_answer_text ?l_answer_text ?c_answer_text ?k_answer_text ?lc_answer_text ?vv_answer_text ?nk_answer_text ?a_with_length ?l_with_length ?c_with_length ?k_with_length ?a_difference ?l_difference ?c_difference ?k_difference ?lc_difference ?vv_difference ?nk_difference ?g_SPACE ?g_TAB ?g_LINE_FEED ?g_CARRIAGE_RETURN ?g_DEEPEST_NESTING ?g_MOST_DIGITS ?g_LARGEST_CODE ?g_LETTERS ?g_DIGITS ?g_BLOCKS ?l_BLOCKS ?e_BLOCKS ?y_BLOCKS ?g_BLOCKS_0 ?lt_BLOCKS_0 ?g_BLOCKS_1 ?lt_BLOCKS_1 ?g_BLOCKS_2 ?lt_BLOCKS_2 ?g_BLOCKS_3 ?lt_BLOCKS_3 ?g_BLOCKS_4 ?lt_BLOCKS_4 ?g_BLOCKS_5 ?lt_BLOCKS_5 ?g_BLOCKS_6 ?lt_BLOCKS_6 ?g_BLOCKS_7 ?lt_BLOCKS_7 ?g_BLOCKS_8 ?lt_BLOCKS_8 ?g_BLOCKS_9 ?lt_BLOCKS_9 ?g_BLOCKS_10 ?lt_BLOCKS_10 ?g_BLOCKS_11 ?lt_BLOCKS_11 ?g_BLOCKS_12 ?lt_BLOCKS_12 ?g_INLINES ?l_INLINES ?e_INLINES ?y_INLINES ?g_INLINES_0 ?lt_INLINES_0 ?g_INLINES_1 ?lt_INLINES_1 ?g_INLINES_2 ?lt_INLINES_2 ?g_INLINES_3 ?lt_INLINES_3 ?g_INLINES_4 ?lt_INLINES_4 ?g_INLINES_5 ?lt_INLINES_5 ?g_INLINES_6 ?lt_INLINES_6 ?g_INLINES_7 ?lt_INLINES_7 ?g_INLINES_8 ?lt_INLINES_8 ?g_INLINES_9 ?lt_INLINES_9 ?g_INLINES_10 ?lt_INLINES_10 ?g_INLINES_11 ?lt_INLINES_11 ?g_INLINES_12 ?lt_INLINES_12 ?g_INLINES_13 ?lt_INLINES_13 ?g_INLINES_14 ?lt_INLINES_14 ?g_PARTS ?l_PARTS ?e_PARTS ?y_PARTS ?g_PARTS_0 ?lt_PARTS_0 ?g_PARTS_1 ?lt_PARTS_1 ?g_PARTS_2 ?lt_PARTS_2 ?g_PARTS_3 ?lt_PARTS_3 ?g_PARTS_4 ?lt_PARTS_4 ?g_PARTS_5 ?lt_PARTS_5 ?g_PARTS_6 ?lt_PARTS_6 ?g_LONGEST_LABEL ?g_HIGHEST_LEVEL ?g_ALIGNMENTS ?lt_ALIGNMENTS ?g_HEX_DIGITS ?z_all ?z_enumerate ?z_isinstance ?z_len ?z_list ?z_max ?z_ord ?z_range ?z_str ?z_tuple ?z_zip ?g_Refusal ?lx_Refusal ?bm_Refusal ?sa_Refusal ?be_Refusal ?ty_Refusal ?kp_Refusal ?ga_Refusal ?gg_Refusal ?hd_Refusal ?ic_Refusal ?nf_Refusal_code ?nf_Refusal_kind ?nf_Refusal_position ?su_Refusal_Refusal ?fi_Refusal_init ?l_Refusal_init ?c_Refusal_init ?k_Refusal_init ?ti_Refusal_init ?sp_Refusal ?rd_Refusal ?fc_Refusal ?g_NotationError ?lx_NotationError ?bm_NotationError ?sa_NotationError ?be_NotationError ?ty_NotationError ?kp_NotationError ?ga_NotationError ?gg_NotationError ?hd_NotationError ?ic_NotationError ?nf_NotationError_code ?nf_NotationError_kind ?nf_NotationError_position ?su_NotationError_Refusal ?su_NotationError_NotationError ?fi_NotationError_init ?l_NotationError_init ?c_NotationError_init ?k_NotationError_init ?ti_NotationError_init ?g_Expression ?pg_Expression ?hd_Expression ?po_Expression ?sa_Expression ?nf_Expression_kind ?nf_Expression_value ?nf_Expression_position ?fi_Expression_init ?fn_Expression_init ?l_Expression_init ?c_Expression_init ?k_Expression_init ?mk_Expression ?kp_Expression ?g_Reader ?pg_Reader ?hd_Reader ?po_Reader ?sa_Reader ?nf_Reader_data ?nf_Reader_position ?nf_Reader_levels ?fi_Reader_init ?fn_Reader_init ?l_Reader_init ?c_Reader_init ?k_Reader_init ?mk_Reader ?kp_Reader ?fi_Reader_read_all ?fn_Reader_read_all ?l_Reader_read_all ?c_Reader_read_all ?k_Reader_read_all ?fi_Reader_skip_blanks ?fn_Reader_skip_blanks ?l_Reader_skip_blanks ?c_Reader_skip_blanks ?k_Reader_skip_blanks ?fi_Reader_read_next ?fn_Reader_read_next ?l_Reader_read_next ?c_Reader_read_next ?k_Reader_read_next ?fi_Reader_add_expression ?fn_Reader_add_expression ?l_Reader_add_expression ?c_Reader_add_expression ?k_Reader_add_expression ?fi_Reader_begin_list ?fn_Reader_begin_list ?l_Reader_begin_list ?c_Reader_begin_list ?k_Reader_begin_list ?fi_Reader_end_list ?fn_Reader_end_list ?l_Reader_end_list ?c_Reader_end_list ?k_Reader_end_list ?fi_Reader_read_integer ?fn_Reader_read_integer ?l_Reader_read_integer ?c_Reader_read_integer ?k_Reader_read_integer ?fi_Reader_read_symbol ?fn_Reader_read_symbol ?l_Reader_read_symbol ?c_Reader_read_symbol ?k_Reader_read_symbol ?fi_Reader_take_while ?fn_Reader_take_while ?l_Reader_take_while ?c_Reader_take_while ?k_Reader_take_while ?fi_Reader_read_string ?fn_Reader_read_string ?l_Reader_read_string ?c_Reader_read_string ?k_Reader_read_string ?fi_Reader_string_byte ?fn_Reader_string_byte ?l_Reader_string_byte ?c_Reader_string_byte ?k_Reader_string_byte ?fi_Reader_read_character ?fn_Reader_read_character ?l_Reader_read_character ?c_Reader_read_character ?k_Reader_read_character ?fi_Reader_read_escape ?fn_Reader_read_escape ?l_Reader_read_escape ?c_Reader_read_escape ?k_Reader_read_escape ?fi_Reader_read_code_point ?fn_Reader_read_code_point ?l_Reader_read_code_point ?c_Reader_read_code_point ?k_Reader_read_code_point ?fi_Reader_skip_sign ?fn_Reader_skip_sign ?l_Reader_skip_sign ?c_Reader_skip_sign ?k_Reader_skip_sign ?g_Node ?pg_Node ?hd_Node ?po_Node ?sa_Node ?nf_Node_symbol ?nf_Node_head ?nf_Node_children ?nf_Node_holds ?fi_Node_init ?fn_Node_init ?l_Node_init ?c_Node_init ?k_Node_init ?mk_Node ?kp_Node ?g_Shape ?pg_Shape ?hd_Shape ?po_Shape ?sa_Shape ?nf_Shape_leading ?nf_Shape_following ?nf_Shape_least ?fi_Shape_init ?fn_Shape_init ?l_Shape_init ?c_Shape_init ?k_Shape_init ?mk_Shape ?kp_Shape ?fi_Shape_allows_number ?fn_Shape_allows_number ?l_Shape_allows_number ?c_Shape_allows_number ?k_Shape_allows_number ?fi_Shape_begins_with_integer ?fn_Shape_begins_with_integer ?l_Shape_begins_with_integer ?c_Shape_begins_with_integer ?k_Shape_begins_with_integer ?g_Step ?pg_Step ?hd_Step ?po_Step ?sa_Step ?nf_Step_symbol ?nf_Step_block ?fi_Step_init ?fn_Step_init ?l_Step_init ?c_Step_init ?k_Step_init ?mk_Step ?kp_Step ?ia_Node ?in_obj ?it_obj ?im_Node ?iC_Node ?iY_Node ?iT_Node ?iI_Node ?iS_Node ?ne_answer_text_difference ?ne_difference_answer_text
    (case a_ascii_bytes => k_is)
    (case l_ascii_bytes => k_is)
    (case c_ascii_bytes => k_is)
    (case k_ascii_bytes => k_is)
    (case a_is_space => k_is)
    (case l_is_space => k_is)
    (case c_is_space => k_is)
    (case k_is_space => k_is)
    (case a_is_lowercase => k_is)
    (case l_is_lowercase => k_is)
    (case c_is_lowercase => k_is)
    (case k_is_lowercase => k_is)
    (case a_is_uppercase => k_is)
    (case l_is_uppercase => k_is)
    (case c_is_uppercase => k_is)
    (case k_is_uppercase => k_is)
    (case a_is_digit => k_is)
    (case l_is_digit => k_is)
    (case c_is_digit => k_is)
    (case k_is_digit => k_is)
    (case a_is_letter_or_digit => k_is)
    (case l_is_letter_or_digit => k_is)
    (case c_is_letter_or_digit => k_is)
    (case k_is_letter_or_digit => k_is)
    (case a_is_continuation => k_is)
    (case l_is_continuation => k_is)
    (case c_is_continuation => k_is)
    (case k_is_continuation => k_is)
    (case a_announced_length => k_is)
    (case l_announced_length => k_is)
    (case c_announced_length => k_is)
    (case k_announced_length => k_is)
    (case a_second_byte_fits => k_is)
    (case l_second_byte_fits => k_is)
    (case c_second_byte_fits => k_is)
    (case k_second_byte_fits => k_is)
    (case a_sequence_length => k_is)
    (case l_sequence_length => k_is)
    (case c_sequence_length => k_is)
    (case k_sequence_length => k_is)
    (case a_encoded => k_is)
    (case l_encoded => k_is)
    (case c_encoded => k_is)
    (case k_encoded => k_is)
    (case a_continuation => k_is)
    (case l_continuation => k_is)
    (case c_continuation => k_is)
    (case k_continuation => k_is)
    (case a_joined => k_is)
    (case l_joined => k_is)
    (case c_joined => k_is)
    (case k_joined => k_is)
    (case a_is_symbol_byte => k_is)
    (case l_is_symbol_byte => k_is)
    (case c_is_symbol_byte => k_is)
    (case k_is_symbol_byte => k_is)
    (case a_symbol_sign => k_is)
    (case l_symbol_sign => k_is)
    (case c_symbol_sign => k_is)
    (case k_symbol_sign => k_is)
    (case a_hex_value => k_is)
    (case l_hex_value => k_is)
    (case c_hex_value => k_is)
    (case k_hex_value => k_is)
    (case a_is_hex_digit => k_is)
    (case l_is_hex_digit => k_is)
    (case c_is_hex_digit => k_is)
    (case k_is_hex_digit => k_is)
    (case a_is_code_point => k_is)
    (case l_is_code_point => k_is)
    (case c_is_code_point => k_is)
    (case k_is_code_point => k_is)
    (case a_read_expressions => k_is)
    (case l_read_expressions => k_is)
    (case c_read_expressions => k_is)
    (case k_read_expressions => k_is)
    (case a_leaf => k_is)
    (case l_leaf => k_is)
    (case c_leaf => k_is)
    (case k_leaf => k_is)
    (case a_block_shape => k_is)
    (case l_block_shape => k_is)
    (case c_block_shape => k_is)
    (case k_block_shape => k_is)
    (case a_inline_shape => k_is)
    (case l_inline_shape => k_is)
    (case c_inline_shape => k_is)
    (case k_inline_shape => k_is)
    (case a_part_shape => k_is)
    (case l_part_shape => k_is)
    (case c_part_shape => k_is)
    (case k_part_shape => k_is)
    (case a_read_document => k_is)
    (case l_read_document => k_is)
    (case c_read_document => k_is)
    (case k_read_document => k_is)
    (case a_is_label => k_is)
    (case l_is_label => k_is)
    (case c_is_label => k_is)
    (case k_is_label => k_is)
    (case a_is_label_byte => k_is)
    (case l_is_label_byte => k_is)
    (case c_is_label_byte => k_is)
    (case k_is_label_byte => k_is)
    (case a_list_symbol => k_is)
    (case l_list_symbol => k_is)
    (case c_list_symbol => k_is)
    (case k_list_symbol => k_is)
    (case a_read_block => k_is)
    (case l_read_block => k_is)
    (case c_read_block => k_is)
    (case k_read_block => k_is)
    (case a_read_inline => k_is)
    (case l_read_inline => k_is)
    (case c_read_inline => k_is)
    (case k_read_inline => k_is)
    (case a_read_shaped => k_is)
    (case l_read_shaped => k_is)
    (case c_read_shaped => k_is)
    (case k_read_shaped => k_is)
    (case a_read_list => k_is)
    (case l_read_list => k_is)
    (case c_read_list => k_is)
    (case k_read_list => k_is)
    (case a_read_argument => k_is)
    (case l_read_argument => k_is)
    (case c_read_argument => k_is)
    (case k_read_argument => k_is)
    (case a_read_string => k_is)
    (case l_read_string => k_is)
    (case c_read_string => k_is)
    (case k_read_string => k_is)
    (case a_is_level => k_is)
    (case l_is_level => k_is)
    (case c_is_level => k_is)
    (case k_is_level => k_is)
    (case a_read_level => k_is)
    (case l_read_level => k_is)
    (case c_read_level => k_is)
    (case k_read_level => k_is)
    (case a_read_alignment => k_is)
    (case l_read_alignment => k_is)
    (case c_read_alignment => k_is)
    (case k_read_alignment => k_is)
    (case a_read_part => k_is)
    (case l_read_part => k_is)
    (case c_read_part => k_is)
    (case k_read_part => k_is)
    (case a_require_part => k_is)
    (case l_require_part => k_is)
    (case c_require_part => k_is)
    (case k_require_part => k_is)
    (case a_begins_with_list => k_is)
    (case l_begins_with_list => k_is)
    (case c_begins_with_list => k_is)
    (case k_begins_with_list => k_is)
    (case a_read_row => k_is)
    (case l_read_row => k_is)
    (case c_read_row => k_is)
    (case k_read_row => k_is)
    (case a_write_nodes => k_is)
    (case l_write_nodes => k_is)
    (case c_write_nodes => k_is)
    (case k_write_nodes => k_is)
    (case a_write_list => k_is)
    (case l_write_list => k_is)
    (case c_write_list => k_is)
    (case k_write_list => k_is)
    (case a_write_part => k_is)
    (case l_write_part => k_is)
    (case c_write_part => k_is)
    (case k_write_part => k_is)
    (case a_write_string => k_is)
    (case l_write_string => k_is)
    (case c_write_string => k_is)
    (case k_write_string => k_is)
    (case a_write_byte => k_is)
    (case l_write_byte => k_is)
    (case c_write_byte => k_is)
    (case k_write_byte => k_is)
    (case a_short_hex => k_is)
    (case l_short_hex => k_is)
    (case c_short_hex => k_is)
    (case k_short_hex => k_is)
    (case a_difference_edits => k_is)
    (case l_difference_edits => k_is)
    (case c_difference_edits => k_is)
    (case k_difference_edits => k_is)
    (case a_steps_between => k_is)
    (case l_steps_between => k_is)
    (case c_steps_between => k_is)
    (case k_steps_between => k_is)
    (case a_common_lengths => k_is)
    (case l_common_lengths => k_is)
    (case c_common_lengths => k_is)
    (case k_common_lengths => k_is)
    (case a_joined_edits => k_is)
    (case l_joined_edits => k_is)
    (case c_joined_edits => k_is)
    (case k_joined_edits => k_is)
    (case a_edit_of => k_is)
    (case l_edit_of => k_is)
    (case c_edit_of => k_is)
    (case k_edit_of => k_is)
    (case a_answer => k_is)
    (case l_answer => k_is)
    (case c_answer => k_is)
    (case k_answer => k_is)
    (case a_answer_text => k_is)
    (case l_answer_text => k_is)
    (case c_answer_text => k_is)
    (case k_answer_text => k_is)
    (case lc_answer_text => k_is)
    (case vv_answer_text => rfl)
    (case nk_answer_text => rfl)
    (case a_with_length => k_is)
    (case l_with_length => k_is)
    (case c_with_length => k_is)
    (case k_with_length => k_is)
    (case a_difference => k_is)
    (case l_difference => k_is)
    (case c_difference => k_is)
    (case k_difference => k_is)
    (case lc_difference => k_is)
    (case vv_difference => rfl)
    (case nk_difference => rfl)
    (case g_SPACE => k_is)
    (case g_TAB => k_is)
    (case g_LINE_FEED => k_is)
    (case g_CARRIAGE_RETURN => k_is)
    (case g_DEEPEST_NESTING => k_is)
    (case g_MOST_DIGITS => k_is)
    (case g_LARGEST_CODE => k_is)
    (case g_LETTERS => k_is)
    (case g_DIGITS => k_is)
    (case g_BLOCKS => k_is)
    (case l_BLOCKS => k_is)
    (case e_BLOCKS => rfl)
    (case y_BLOCKS => decide +kernel)
    (case g_BLOCKS_0 => k_is)
    (case lt_BLOCKS_0 => k_is)
    (case g_BLOCKS_1 => k_is)
    (case lt_BLOCKS_1 => k_is)
    (case g_BLOCKS_2 => k_is)
    (case lt_BLOCKS_2 => k_is)
    (case g_BLOCKS_3 => k_is)
    (case lt_BLOCKS_3 => k_is)
    (case g_BLOCKS_4 => k_is)
    (case lt_BLOCKS_4 => k_is)
    (case g_BLOCKS_5 => k_is)
    (case lt_BLOCKS_5 => k_is)
    (case g_BLOCKS_6 => k_is)
    (case lt_BLOCKS_6 => k_is)
    (case g_BLOCKS_7 => k_is)
    (case lt_BLOCKS_7 => k_is)
    (case g_BLOCKS_8 => k_is)
    (case lt_BLOCKS_8 => k_is)
    (case g_BLOCKS_9 => k_is)
    (case lt_BLOCKS_9 => k_is)
    (case g_BLOCKS_10 => k_is)
    (case lt_BLOCKS_10 => k_is)
    (case g_BLOCKS_11 => k_is)
    (case lt_BLOCKS_11 => k_is)
    (case g_BLOCKS_12 => k_is)
    (case lt_BLOCKS_12 => k_is)
    (case g_INLINES => k_is)
    (case l_INLINES => k_is)
    (case e_INLINES => rfl)
    (case y_INLINES => decide +kernel)
    (case g_INLINES_0 => k_is)
    (case lt_INLINES_0 => k_is)
    (case g_INLINES_1 => k_is)
    (case lt_INLINES_1 => k_is)
    (case g_INLINES_2 => k_is)
    (case lt_INLINES_2 => k_is)
    (case g_INLINES_3 => k_is)
    (case lt_INLINES_3 => k_is)
    (case g_INLINES_4 => k_is)
    (case lt_INLINES_4 => k_is)
    (case g_INLINES_5 => k_is)
    (case lt_INLINES_5 => k_is)
    (case g_INLINES_6 => k_is)
    (case lt_INLINES_6 => k_is)
    (case g_INLINES_7 => k_is)
    (case lt_INLINES_7 => k_is)
    (case g_INLINES_8 => k_is)
    (case lt_INLINES_8 => k_is)
    (case g_INLINES_9 => k_is)
    (case lt_INLINES_9 => k_is)
    (case g_INLINES_10 => k_is)
    (case lt_INLINES_10 => k_is)
    (case g_INLINES_11 => k_is)
    (case lt_INLINES_11 => k_is)
    (case g_INLINES_12 => k_is)
    (case lt_INLINES_12 => k_is)
    (case g_INLINES_13 => k_is)
    (case lt_INLINES_13 => k_is)
    (case g_INLINES_14 => k_is)
    (case lt_INLINES_14 => k_is)
    (case g_PARTS => k_is)
    (case l_PARTS => k_is)
    (case e_PARTS => rfl)
    (case y_PARTS => decide +kernel)
    (case g_PARTS_0 => k_is)
    (case lt_PARTS_0 => k_is)
    (case g_PARTS_1 => k_is)
    (case lt_PARTS_1 => k_is)
    (case g_PARTS_2 => k_is)
    (case lt_PARTS_2 => k_is)
    (case g_PARTS_3 => k_is)
    (case lt_PARTS_3 => k_is)
    (case g_PARTS_4 => k_is)
    (case lt_PARTS_4 => k_is)
    (case g_PARTS_5 => k_is)
    (case lt_PARTS_5 => k_is)
    (case g_PARTS_6 => k_is)
    (case lt_PARTS_6 => k_is)
    (case g_LONGEST_LABEL => k_is)
    (case g_HIGHEST_LEVEL => k_is)
    (case g_ALIGNMENTS => k_is)
    (case lt_ALIGNMENTS => k_is)
    (case g_HEX_DIGITS => k_is)
    (case z_all => k_is)
    (case z_enumerate => k_is)
    (case z_isinstance => k_is)
    (case z_len => k_is)
    (case z_list => k_is)
    (case z_max => k_is)
    (case z_ord => k_is)
    (case z_range => k_is)
    (case z_str => k_is)
    (case z_tuple => k_is)
    (case z_zip => k_is)
    (case g_Refusal => k_is)
    (case lx_Refusal => k_is)
    (case bm_Refusal => rfl)
    (case sa_Refusal => k_is)
    (case be_Refusal => k_is)
    (case ty_Refusal => k_is)
    (case kp_Refusal => k_is)
    (case ga_Refusal => k_is)
    (case gg_Refusal => k_is)
    (case hd_Refusal => k_is)
    (case ic_Refusal => k_is)
    (case nf_Refusal_code => k_is)
    (case nf_Refusal_kind => k_is)
    (case nf_Refusal_position => k_is)
    (case su_Refusal_Refusal => k_is)
    (case fi_Refusal_init => k_is)
    (case l_Refusal_init => k_is)
    (case c_Refusal_init => k_is)
    (case k_Refusal_init => k_is)
    (case ti_Refusal_init => k_is)
    (case sp_Refusal => k_is)
    (case rd_Refusal => k_is)
    (case fc_Refusal => k_is)
    (case g_NotationError => k_is)
    (case lx_NotationError => k_is)
    (case bm_NotationError => rfl)
    (case sa_NotationError => k_is)
    (case be_NotationError => k_is)
    (case ty_NotationError => k_is)
    (case kp_NotationError => k_is)
    (case ga_NotationError => k_is)
    (case gg_NotationError => k_is)
    (case hd_NotationError => k_is)
    (case ic_NotationError => k_is)
    (case nf_NotationError_code => k_is)
    (case nf_NotationError_kind => k_is)
    (case nf_NotationError_position => k_is)
    (case su_NotationError_Refusal => k_is)
    (case su_NotationError_NotationError => k_is)
    (case fi_NotationError_init => k_is)
    (case l_NotationError_init => k_is)
    (case c_NotationError_init => k_is)
    (case k_NotationError_init => k_is)
    (case ti_NotationError_init => k_is)
    (case g_Expression => k_is)
    (case pg_Expression => k_is)
    (case hd_Expression => k_is)
    (case po_Expression => k_is)
    (case sa_Expression => k_is)
    (case nf_Expression_kind => k_is)
    (case nf_Expression_value => k_is)
    (case nf_Expression_position => k_is)
    (case fi_Expression_init => k_is)
    (case fn_Expression_init => k_is)
    (case l_Expression_init => k_is)
    (case c_Expression_init => k_is)
    (case k_Expression_init => k_is)
    (case mk_Expression => k_is)
    (case kp_Expression => k_is)
    (case g_Reader => k_is)
    (case pg_Reader => k_is)
    (case hd_Reader => k_is)
    (case po_Reader => k_is)
    (case sa_Reader => k_is)
    (case nf_Reader_data => k_is)
    (case nf_Reader_position => k_is)
    (case nf_Reader_levels => k_is)
    (case fi_Reader_init => k_is)
    (case fn_Reader_init => k_is)
    (case l_Reader_init => k_is)
    (case c_Reader_init => k_is)
    (case k_Reader_init => k_is)
    (case mk_Reader => k_is)
    (case kp_Reader => k_is)
    (case fi_Reader_read_all => k_is)
    (case fn_Reader_read_all => k_is)
    (case l_Reader_read_all => k_is)
    (case c_Reader_read_all => k_is)
    (case k_Reader_read_all => k_is)
    (case fi_Reader_skip_blanks => k_is)
    (case fn_Reader_skip_blanks => k_is)
    (case l_Reader_skip_blanks => k_is)
    (case c_Reader_skip_blanks => k_is)
    (case k_Reader_skip_blanks => k_is)
    (case fi_Reader_read_next => k_is)
    (case fn_Reader_read_next => k_is)
    (case l_Reader_read_next => k_is)
    (case c_Reader_read_next => k_is)
    (case k_Reader_read_next => k_is)
    (case fi_Reader_add_expression => k_is)
    (case fn_Reader_add_expression => k_is)
    (case l_Reader_add_expression => k_is)
    (case c_Reader_add_expression => k_is)
    (case k_Reader_add_expression => k_is)
    (case fi_Reader_begin_list => k_is)
    (case fn_Reader_begin_list => k_is)
    (case l_Reader_begin_list => k_is)
    (case c_Reader_begin_list => k_is)
    (case k_Reader_begin_list => k_is)
    (case fi_Reader_end_list => k_is)
    (case fn_Reader_end_list => k_is)
    (case l_Reader_end_list => k_is)
    (case c_Reader_end_list => k_is)
    (case k_Reader_end_list => k_is)
    (case fi_Reader_read_integer => k_is)
    (case fn_Reader_read_integer => k_is)
    (case l_Reader_read_integer => k_is)
    (case c_Reader_read_integer => k_is)
    (case k_Reader_read_integer => k_is)
    (case fi_Reader_read_symbol => k_is)
    (case fn_Reader_read_symbol => k_is)
    (case l_Reader_read_symbol => k_is)
    (case c_Reader_read_symbol => k_is)
    (case k_Reader_read_symbol => k_is)
    (case fi_Reader_take_while => k_is)
    (case fn_Reader_take_while => k_is)
    (case l_Reader_take_while => k_is)
    (case c_Reader_take_while => k_is)
    (case k_Reader_take_while => k_is)
    (case fi_Reader_read_string => k_is)
    (case fn_Reader_read_string => k_is)
    (case l_Reader_read_string => k_is)
    (case c_Reader_read_string => k_is)
    (case k_Reader_read_string => k_is)
    (case fi_Reader_string_byte => k_is)
    (case fn_Reader_string_byte => k_is)
    (case l_Reader_string_byte => k_is)
    (case c_Reader_string_byte => k_is)
    (case k_Reader_string_byte => k_is)
    (case fi_Reader_read_character => k_is)
    (case fn_Reader_read_character => k_is)
    (case l_Reader_read_character => k_is)
    (case c_Reader_read_character => k_is)
    (case k_Reader_read_character => k_is)
    (case fi_Reader_read_escape => k_is)
    (case fn_Reader_read_escape => k_is)
    (case l_Reader_read_escape => k_is)
    (case c_Reader_read_escape => k_is)
    (case k_Reader_read_escape => k_is)
    (case fi_Reader_read_code_point => k_is)
    (case fn_Reader_read_code_point => k_is)
    (case l_Reader_read_code_point => k_is)
    (case c_Reader_read_code_point => k_is)
    (case k_Reader_read_code_point => k_is)
    (case fi_Reader_skip_sign => k_is)
    (case fn_Reader_skip_sign => k_is)
    (case l_Reader_skip_sign => k_is)
    (case c_Reader_skip_sign => k_is)
    (case k_Reader_skip_sign => k_is)
    (case g_Node => k_is)
    (case pg_Node => k_is)
    (case hd_Node => k_is)
    (case po_Node => k_is)
    (case sa_Node => k_is)
    (case nf_Node_symbol => k_is)
    (case nf_Node_head => k_is)
    (case nf_Node_children => k_is)
    (case nf_Node_holds => k_is)
    (case fi_Node_init => k_is)
    (case fn_Node_init => k_is)
    (case l_Node_init => k_is)
    (case c_Node_init => k_is)
    (case k_Node_init => k_is)
    (case mk_Node => k_is)
    (case kp_Node => k_is)
    (case g_Shape => k_is)
    (case pg_Shape => k_is)
    (case hd_Shape => k_is)
    (case po_Shape => k_is)
    (case sa_Shape => k_is)
    (case nf_Shape_leading => k_is)
    (case nf_Shape_following => k_is)
    (case nf_Shape_least => k_is)
    (case fi_Shape_init => k_is)
    (case fn_Shape_init => k_is)
    (case l_Shape_init => k_is)
    (case c_Shape_init => k_is)
    (case k_Shape_init => k_is)
    (case mk_Shape => k_is)
    (case kp_Shape => k_is)
    (case fi_Shape_allows_number => k_is)
    (case fn_Shape_allows_number => k_is)
    (case l_Shape_allows_number => k_is)
    (case c_Shape_allows_number => k_is)
    (case k_Shape_allows_number => k_is)
    (case fi_Shape_begins_with_integer => k_is)
    (case fn_Shape_begins_with_integer => k_is)
    (case l_Shape_begins_with_integer => k_is)
    (case c_Shape_begins_with_integer => k_is)
    (case k_Shape_begins_with_integer => k_is)
    (case g_Step => k_is)
    (case pg_Step => k_is)
    (case hd_Step => k_is)
    (case po_Step => k_is)
    (case sa_Step => k_is)
    (case nf_Step_symbol => k_is)
    (case nf_Step_block => k_is)
    (case fi_Step_init => k_is)
    (case fn_Step_init => k_is)
    (case l_Step_init => k_is)
    (case c_Step_init => k_is)
    (case k_Step_init => k_is)
    (case mk_Step => k_is)
    (case kp_Step => k_is)
    (case ia_Node => k_is)
    (case in_obj => k_is)
    (case it_obj => k_is)
    (case im_Node => k_is)
    (case iC_Node => k_is)
    (case iY_Node => k_is)
    (case iT_Node => k_is)
    (case iI_Node => k_is)
    (case iS_Node => k_is)
    (case ne_answer_text_difference => decide)
    (case ne_difference_answer_text => decide)
#print axioms PySem.Challenge.cw_blocktrees_s20_difference_holds

