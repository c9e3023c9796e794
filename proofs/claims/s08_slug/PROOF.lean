import PyProof.Rows.All
import Wide.All
import OpenK.AllK
import Wide.FinOn
import Open.SpecLaws
import KE.OsGo
import HandS.ForSpec
import HandS.ForMost
import PyProof.AutoSeq1
import HandS.ExcField
import HandS.Lambda
import HandS.ExcInit
import HandS.Words
import KE.KExcInit
import HandS.Exc
import KE.GoesComp
import HandS.CallLocal
import HandS.Text
import HandS.Codes
import HandS.Spec
import PySem.Challenge.RW_blocktrees_s08_slug
set_option Elab.async false
set_option maxRecDepth 100000
set_option maxHeartbeats 2000000
set_option linter.all false
namespace Bt
open PySem PySem.Spec PyProof.Rows L2
/-! own words over the layer -/
structure OwnOk (P : Program) (w : World) (K : PySem.W.Frag) (mg : Str → Option Value) (base : Heap) (CX : CXT) (k : Nat) (x : Str) (ps : List Str) (sp : Sp) : Prop where
  ex : ∃ f fd, mg x = some (.ref f) ∧ PySem.W.keepIn K (.ref f) = true ∧ Binds K fd ps [] ∧ FnOk P w K mg base CX k f fd ps sp
theorem pe_own {X : Cx} {CX : CXT} {k : Nat} {x : Str} {ps : List Str} {sp : Sp} {E : XK} {p pos : Pos} {e : Expr} {es : List Expr} {t : TA} (O : OwnOk X.prog X.w X.K X.mg X.base CX k x ps sp) (hr : Room k X.A) (hg : Gl X x) (hx : Passes CX X E) (ha : PA X (e :: es) t)
    (hdb : (x == ("__debug__" : Str)) = false := by decide) (he : starEach (e :: es) X.env = (false, eval e X.env) :: starEach es X.env := by rfl) (hpl : (backTo pos (starEach es X.env)).any (·.1) = false := by rfl) : PE X (.Call (.Name x p) (e :: es) [] pos) (tCall sp [] E t) := by
  obtain ⟨f, fd, hm, hk, hb, F⟩ := O.ex
  exact pe_call F hr hg hm hk hb .nil hx ha hdb he hpl
/-- a def of the text at its place -/
structure Dn (K : PySem.W.Frag) (mg : Str → Option Value) (x : Str) (st : Stmt) (ps : List Str) : Prop where
  ex : ∃ f fd, mg x = some (.ref f) ∧ Fun K x x st f fd ∧ Binds K fd ps []
section
variable {P : Program} {w : World} {K : PySem.W.Frag} {mg : Str → Option Value} {base : Heap}
theorem own_ok {x : Str} {st : Stmt} {N ps : List Str} {k : Nat} {sp : Sp} (D : Dn K mg x st ps) (S : FnScope N ps (defScope st)) (len : ∀ vs H Q E, sp vs H Q E → vs.length = ps.length)
    (hbody : ∀ (f : Addr) (cdv : Value) (A : Around) (outer : List Env) (s : Shared) (H : Hp) (vs : List V) (Q : VK) (E : XK), Room k (A.deeper (envOfC x (defScope st) s.heap.objs.size f cdv)) → sp vs H Q E →
      ∃ t, PSs (cxOf CX0 P w K mg base N x (defScope st) f cdv A outer s H E).nox (defBody st) t ∧ t { nx := fun _ H' => Q .non H', rt := Q } (start N vs) H) : OwnOk P w K mg base CX0 (k + 1) x ps sp := by
  obtain ⟨f, fd, hm, F, hb⟩ := D.ex
  exact ⟨f, fd, hm, F.kp, hb, F.ok S len (hbody f)⟩
theorem own_fn {x : Str} {st : Stmt} {N ps : List Str} {k : Nat} {sp : Sp} {f : Addr} {fd : FuncData} (F : Fun K x x st f fd) (S : FnScope N ps (defScope st)) (len : ∀ vs H Q E, sp vs H Q E → vs.length = ps.length)
    (hbody : ∀ (f : Addr) (cdv : Value) (A : Around) (outer : List Env) (s : Shared) (H : Hp) (vs : List V) (Q : VK) (E : XK), Room k (A.deeper (envOfC x (defScope st) s.heap.objs.size f cdv)) → sp vs H Q E →
      ∃ t, PSs (cxOf CX0 P w K mg base N x (defScope st) f cdv A outer s H E).nox (defBody st) t ∧ t { nx := fun _ H' => Q .non H', rt := Q } (start N vs) H) : FnOk P w K mg base CX0 (k + 1) f fd ps sp := F.ok S len (hbody f)
theorem dn_mk {h : Heap} (X : K.In h) (G : h.Ns mainGlobals mg) {x : Str} {st : Stmt} {ps : List Str} {f : Addr} {oc : Value} {od an : Option Addr} {osl : Array (Option Value)} {kV doc pm cdv ct : Value}
    (a : PySem.W.nsIn K mainGlobals x = some (some (.ref f))) (l : K.lookup f = some ⟨oc, od, .func (PySem.W.fnOf x x (defArgs st) (defBody st) (defScope st) .none kV doc pm an cdv ct), osl⟩)
    (c : PySem.W.codeIn K cdv x = true) (k : PySem.W.keepIn K (.ref f) = true)
    (b : ∀ (kV doc pm : Value) (an : Option Addr) (cdv ct : Value) (us : List Value), us.length = ps.length → bindArgs (PySem.W.fnOf x x (defArgs st) (defBody st) (defScope st) .none kV doc pm an cdv ct) ⟨us, []⟩ = pure (ps.zip us)) : Dn K mg x st ps :=
  ⟨f, _, PySem.W.mg_of X G a, fun_mk l c k, (fun_mk l c k).binds b⟩
end
/-- a constant of the module -/
def IsC (mg : Str → Option Value) (x : Str) (v : V) : Prop := ∃ u, mg x = some u ∧ RelV v u
theorem pe_cst {X : Cx} {x : Str} {v : V} {pos : Pos} (hg : Gl X x) (c : IsC X.mg x v) (hd : (x == ("__debug__" : Str)) = false := by decide) : PE X (.Name x pos) (tC v) := by
  obtain ⟨u, hm, r⟩ := c
  exact pe_glob hg hm r hd
theorem same_new {H : Hp} {p : Addr} {o : HO} (h : H p = none) : Same H (upd H p o) := fun b x e => by
  rw [upd_ne (ne_of_none e h)]
  exact e
/-- lists of small numbers -/
abbrev iV (l : List Int) : List V := l.map V.int
/-! ### promises -/
def sp1B (f : Int → Bool) : Sp := fun vs H Q _ => ∃ i : Int, vs = [.int i] ∧ ∀ H', Same H H' → Q (.bl (f i)) H'
def sp1I (f : Int → Int) : Sp := fun vs H Q _ => ∃ i : Int, vs = [.int i] ∧ ∀ H', Same H H' → Q (.int (f i)) H'
theorem len1B {f : Int → Bool} {vs H Q E} (h : sp1B f vs H Q E) : vs.length = 1 := by
  obtain ⟨i, rfl, _⟩ := h
  rfl
theorem len1I {f : Int → Int} {vs H Q E} (h : sp1I f vs H Q E) : vs.length = 1 := by
  obtain ⟨i, rfl, _⟩ := h
  rfl

theorem pe_imp {X : Cx} {e : Expr} {t t' : TE} (h : PE X e t) (i : ∀ σ H Q, t' σ H Q → t σ H Q) : PE X e t' := ⟨fun pins s σ H Q I q => h.run pins s σ H Q I (i σ H Q q)⟩
theorem pt_imp {X : Cx} {e : Expr} {t t' : TT} (h : PT X e t) (i : ∀ σ H Q, t' σ H Q → t σ H Q) : PT X e t' := ⟨fun pins s σ H Q I q => h.run pins s σ H Q I (i σ H Q q)⟩
/-- ord of a written sign -/
theorem pe_ordL {X : Cx} {x : Str} {j : Nat} {p p' pos : Pos} (n : Nat) (hm : X.mg "ord" = none) (hg : Gl X "ord" := by rfl) (hx : x.length = 1 := by decide +kernel) (hn : x.cps.getD 0 0 = n := by decide +kernel) : PE X (.Call (.Name "ord" p) [.Constant (.str x) j p'] [] pos) (tC (.int (n : Int))) :=
  pe_imp (pe_callB call_ord hg hm (by decide +kernel) (pa_cons pe_str pa_nil)) fun _ _ _ q => ⟨x, rfl, hx, by rw [hn]; exact q⟩
/-- a ≤ x ≤ b, a and b written -/
def tRng (a b : Int) (t : TE) : TE := fun σ H Q => t σ H fun x H1 => ∃ i, x = .int i ∧ Q (.bl (decide (a ≤ i) && decide (i ≤ b))) H1
theorem pe_rng {X : Cx} {a b : Int} {ea e eb : Expr} {t : TE} {pos : Pos} (ha : PE X ea (tC (.int a))) (he : PE X e t) (hb : PE X eb (tC (.int b))) (hm : lastMarks [.LtE, .LtE] [e, eb] = false := by with_unfolding_all rfl) (mono : ∀ σ H Q Q', (∀ x H', Q x H' → Q' x H') → t σ H Q → t σ H Q') : PE X (.Compare ea [.LtE, .LtE] [e, eb] pos) (tRng a b t) :=
  pe_imp (pe_chain op_le op_le ha he hb hm) fun σ H Q q => mono _ _ _ _ (fun x H' ⟨i, e, q⟩ => by
    subst e
    refine ⟨a, i, rfl, rfl, _, rfl, ?_⟩
    by_cases c : a ≤ i
    · rw [decide_eq_true c] at q ⊢
      rw [if_pos rfl]
      exact ⟨i, b, rfl, rfl, q⟩
    · rw [decide_eq_false c] at q ⊢
      rw [if_neg (by decide)]
      exact q) q
theorem mono_var {i : Nat} : ∀ σ H (Q Q' : VK), (∀ x H', Q x H' → Q' x H') → tVar i σ H Q → tVar i σ H Q' := fun _ _ _ _ k ⟨v, e, q⟩ => ⟨v, e, k _ _ q⟩
theorem pt_rng {X : Cx} {a b : Int} {ea e eb : Expr} {t : TE} {pos : Pos} (ha : PE X ea (tC (.int a))) (he : PE X e t) (hb : PE X eb (tC (.int b))) (hm : lastMarks [.LtE, .LtE] [e, eb] = false := by with_unfolding_all rfl) (mono : ∀ σ H Q Q', (∀ x H', Q x H' → Q' x H') → t σ H Q → t σ H Q') : PT X (.Compare ea [.LtE, .LtE] [e, eb] pos) (tTest (tRng a b t)) :=
  pt_imp (pt_chain op_le op_le ha he hb hm) fun σ H Q q => mono _ _ _ _ (fun x H' ⟨i, e, q⟩ => by
    subst e
    obtain ⟨k, e, q⟩ := q
    cases e
    refine ⟨a, i, rfl, rfl, _, rfl, ?_⟩
    by_cases c : a ≤ i
    · rw [decide_eq_true c] at q ⊢
      rw [if_pos rfl]
      exact ⟨i, b, rfl, rfl, _, rfl, q⟩
    · rw [decide_eq_false c] at q ⊢
      rw [if_neg (by decide)]
      exact ⟨_, rfl, q⟩) q
/-! promises as rewriting -/
theorem sp1B_run {f : Int → Bool} {i : Int} {H : Hp} {Q : VK} {E : XK} : sp1B f [.int i] H Q E ↔ ∀ H', Same H H' → Q (.bl (f i)) H' :=
  ⟨fun ⟨_, e, q⟩ => by cases e; exact q, fun q => ⟨i, rfl, q⟩⟩
theorem sp1I_run {f : Int → Int} {i : Int} {H : Hp} {Q : VK} {E : XK} : sp1I f [.int i] H Q E ↔ ∀ H', Same H H' → Q (.int (f i)) H' :=
  ⟨fun ⟨_, e, q⟩ => by cases e; exact q, fun q => ⟨i, rfl, q⟩⟩

/-- a def of one small number -/
def spN1 (f : Nat → V) : Sp := fun vs H Q _ => ∃ n : Nat, vs = [.int n] ∧ ∀ H', Same H H' → Q (f n) H'
theorem spN1_run {f : Nat → V} {n : Nat} {H : Hp} {Q : VK} {E : XK} : spN1 f [.int n] H Q E ↔ ∀ H', Same H H' → Q (f n) H' :=
  ⟨fun ⟨m, e, q⟩ => by
    have : n = m := by injection e with e _; injection e with e; omega
    subst this; exact q, fun q => ⟨n, rfl, q⟩⟩
theorem spN1_len {f : Nat → V} {vs H Q E} (h : spN1 f vs H Q E) : vs.length = 1 := by
  obtain ⟨i, rfl, _⟩ := h
  rfl
theorem fin_v {Q : VK} {H : Hp} {a b : V} (q : Q b H) (e : b = a) : Q a H := e ▸ q
theorem fin_bl {Q : VK} {H : Hp} {a b : Bool} (e : b = a) (q : Q (.bl b) H) : Q (.bl a) H := e ▸ q
theorem fin_int {Q : VK} {H : Hp} {a b : Int} (e : b = a) (q : Q (.int b) H) : Q (.int a) H := e ▸ q

/-! ### the rules that speak of the written part, K by name -/
section
variable {X : Cx} {K : PySem.W.Frag}
theorem kpi_list (h : X.K = K) {tg l : Expr} {tl : TE} (hl : PE X l tl) : PI X tg l (iList K tl) := h ▸ pi_list hl
theorem kpi_tup (h : X.K = K) {tg l : Expr} {tl : TE} (hl : PE X l tl) : PI X tg l (iTup K tl) := h ▸ pi_tup hl
theorem kix_list (h : X.K = K) : IxR X (rIxL K) := h ▸ ix_list
theorem kix_tup (h : X.K = K) : IxR X (rIxT K) := h ▸ ix_tup
theorem ksl_list (h : X.K = K) : SlR X (rSlL K) := h ▸ sl_list
theorem ksl_tup (h : X.K = K) : SlR X (rSlT K) := h ▸ sl_tup
theorem kop_in (h : X.K = K) : OpR X (compareOp .In) (rIn K false) := h ▸ op_in_seq
theorem kop_notIn (h : X.K = K) : OpR X (compareOp .NotIn) (rIn K true) := h ▸ op_notIn_seq
/-- len of a list or a tuple -/
def rLen (K : PySem.W.Frag) : List V → Hp → VK → Prop := fun xs H Q => ∃ p ys, xs = [.ref p] ∧ (SqL K H p ys ∨ SqT K H p ys) ∧ Q (.int ys.length) H
theorem kcall_len (h : X.K = K) : CallR X (.builtin "len") (rLen K) := h ▸ call_len_seq
def rListOf (K : PySem.W.Frag) : List V → Hp → VK → Prop := fun xs H Q => ∃ p ys, xs = [.ref p] ∧ (SqL K H p ys ∨ SqT K H p ys) ∧ ∀ l, H l = none → Q (.ref l) (upd H l (.lst ys))
theorem kcall_list (h : X.K = K) : CallR X (.type "list") (rListOf K) := h ▸ call_list_of
def rTupOf (K : PySem.W.Frag) : List V → Hp → VK → Prop := fun xs H Q => ∃ p ys, xs = [.ref p] ∧ ((SqL K H p ys ∧ ∀ l, H l = none → Q (.ref l) (upd H l (.tup ys))) ∨ (SqT K H p ys ∧ Q (.ref p) H))
theorem kcall_tuple (h : X.K = K) : CallR X (.type "tuple") (rTupOf K) := h ▸ call_tuple_of
/-- an expression's truth -/
def tTru (K : PySem.W.Frag) (ta : TE) : TT := fun σ H Q => ta σ H fun x H' => ∃ k, TruV K x H' k ∧ Q k H'
theorem kpt_truth (h : X.K = K) {a : Expr} {ta : TE} (ha : PE X a ta) (he : ∀ whole, isTrue a X.env whole = (do let v ← whole; standAt a.pos; holding [v] (truthy v)) := by intro _; rfl) : PT X a (tTru K ta) := h ▸ pt_truth ha he
theorem kpe_fld (h : X.K = K) {e : Expr} {f : Str} {pos : Pos} {ta : TE} (he : PE X e ta) (hb : attributeBase e f X.env (eval e X.env) = eval e X.env := by rfl) : PE X (.Attribute e f pos) (tFld K ta f) := h ▸ pe_fld he hb
theorem kps_fld (h : X.K = K) {o value : Expr} {f : Str} {pos pos' : Pos} {ta tv : TE} (ha : PE X o ta) (hv : PE X value tv) (hs : swapsWith value (some (.Attribute o f pos')) pos.line X.env = pure false := by rfl) : PS X (.Assign [.Attribute o f pos'] value pos) (sFld K ta tv f) := h ▸ ps_fld ha hv hs
theorem kps_fldaug (h : X.K = K) {o value : Expr} {f : Str} {pos tpos : Pos} {ta tv : TE} {op : Operator} {rd : V → V → Hp → VK → Prop} (ha : PE X o ta) (hv : PE X value tv) (hop : InOp X op rd) : PS X (.AugAssign (.Attribute o f tpos) op value pos) (sFldAug K ta tv rd f) := h ▸ ps_fldaug ha hv hop
theorem kpg_tup (h : X.K = K) {es : List Expr} {k : Nat} {t : TGs} {n : Nat} {pos : Pos} (hc : X.calm = true) (hh : PGs X es t)
    (hn : (assignEach es X.env).length = n := by rfl) (hst : (assignEach es X.env).findIdx? (·.1) = none := by rfl) : PG X (.Tuple es k pos) (gTup K n t) := h ▸ pg_tup hc hh hn hst
theorem kpi_enum (h : X.K = K) {e : Expr} {ta : TA} {p pos tpos : Pos} {elts : List Expr} {kk : Nat} (hg : Gl X "enumerate") (hm : X.mg "enumerate" = none) (ha : PA X [e] ta) (hs : starEach [e] X.env = [(false, eval e X.env)] := by rfl) :
    PI X (.Tuple elts kk tpos) (.Call (.Name "enumerate" p) [e] [] pos) (iEnum K ta) := h ▸ pi_enum hg hm ha hs
theorem kpi_zip (h : X.K = K) {e e2 : Expr} {ta : TA} {p pos tpos : Pos} {elts : List Expr} {kk : Nat} (hg : Gl X "zip") (hm : X.mg "zip" = none) (ha : PA X [e, e2] ta)
    (hs : starEach [e, e2] X.env = (false, eval e X.env) :: starEach [e2] X.env := by rfl) (hpl : (backTo pos (starEach [e2] X.env)).any (·.1) = false := by rfl) :
    PI X (.Tuple elts kk tpos) (.Call (.Name "zip" p) [e, e2] [] pos) (iZip K ta) := h ▸ pi_zip hg hm ha hs hpl
theorem kpi_reversed (h : X.K = K) {tg e : Expr} {ta : TA} {p pos : Pos} (hg : Gl X "reversed") (hm : X.mg "reversed" = none) (ha : PA X [e] ta) (hs : starEach [e] X.env = [(false, eval e X.env)] := by rfl) : PI X tg (.Call (.Name "reversed" p) [e] [] pos) (iRev K ta) := h ▸ pi_reversed hg hm ha hs
theorem kcr_any (h : X.K = K) (hc : X.calm = true) : CallR X (.builtin "any") (rAny K) := h ▸ cr_any hc
theorem kcr_all (h : X.K = K) (hc : X.calm = true) : CallR X (.builtin "all") (rAll K) := h ▸ cr_all hc
theorem kop_catT (h : X.K = K) : OpR X (binaryOp .Add) (rCatT K) := h ▸ op_catT
theorem kop_eqD (h : X.K = K) (hu : X.A.units + 64 < cLine) : OpR X (compareOp .Eq) (rEqD K) := h ▸ op_eqD hu
theorem kop_neD (h : X.K = K) (hu : X.A.units + 64 < cLine) : OpR X (compareOp .NotEq) (rNeD K) := h ▸ op_neD hu
theorem kpe_bm0 (h : X.K = K) {o : Expr} {to : TE} {name : Str} {apos cpos : Pos} {T id : String} {r : V → List V → Hp → VK → Prop} (pa : PlainAttrs T) (slot : Slot T name id) (hty : typeOf (.builtin id) = pure (.type "method_descriptor")) (hm : MtR X id r) (ho : PE X o to)
    (hbase : attributeBase o name X.env (eval o X.env) = eval o X.env := by rfl) (hline : (apos.endLine == cpos.line) = true := by rfl) : PE X (.Call (.Attribute o name apos) [] [] cpos) (tBM0 K T r to) := h ▸ pe_bm0 pa slot hty hm ho hbase hline
theorem kpe_bm (h : X.K = K) {o e : Expr} {es : List Expr} {to : TE} {t : TA} {name : Str} {apos cpos : Pos} {T id : String} {r : V → List V → Hp → VK → Prop} (pa : PlainAttrs T) (slot : Slot T name id) (hty : typeOf (.builtin id) = pure (.type "method_descriptor")) (hm : MtR X id r) (ho : PE X o to) (ha : PA X (e :: es) t)
    (hbase : attributeBase o name X.env (eval o X.env) = eval o X.env := by rfl)
    (hfew : ((backTo cpos (starEach (e :: es) X.env)).all (fun x => !x.1) && (backToKw cpos (keywordEach [] X.env)).all (fun x => x.1.isSome)
      && decide ((e :: es).length + ([] : List Keyword).length + (if ([] : List Keyword).isEmpty then 0 else 1) < 30)) = true := by rfl)
    (hline : (apos.endLine == cpos.line) = true := by rfl) (hs : starEach (e :: es) X.env = (false, eval e X.env) :: starEach es X.env := by rfl) (hplain : (backTo cpos (starEach es X.env)).any (·.1) = false := by rfl) :
    PE X (.Call (.Attribute o name apos) (e :: es) [] cpos) (tBM K T r to t) := h ▸ pe_bm pa slot hty hm ho ha hbase hfew hline hs hplain
end
/-! ### what is published (G, never changed again) within the heap (H) -/
structure Ext (G H G' H' : Hp) : Prop where
  same : Same H H'
  sub : Same G' H'
  up : Same G G'
  fr : ∀ b o, G' b = some o → G b = some o ∨ H b = none
section
variable {G H G' H' G1 H1 G2 H2 : Hp} {p D : Addr} {o u : HO}
theorem Ext.refl (s : Same G H) : Ext G H G H := ⟨Same.refl _, s, Same.refl _, fun _ _ h => .inl h⟩
theorem Ext.trans (a : Ext G H G1 H1) (b : Ext G1 H1 G2 H2) : Ext G H G2 H2 := ⟨a.same.trans b.same, b.sub, a.up.trans b.up, fun c q h => by
  rcases b.fr c q h with h | h
  · exact a.fr c q h
  · exact .inr (a.same.free h)⟩
/-- the heap grew, nothing was published -/
theorem Ext.heap (a : Ext G H G1 H1) (s : Same H1 H2) : Ext G H G1 H2 := ⟨a.same.trans s, a.sub.trans s, a.up, a.fr⟩
theorem Ext.priv (a : Ext G H G1 H1) (h : H1 p = none) : Ext G H G1 (upd H1 p o) := a.heap (same_new h)
theorem Ext.gnone (a : Ext G H G1 H1) (h : H1 p = none) : G1 p = none := a.sub.free h
/-- a new object that stays as it is -/
theorem Ext.made (a : Ext G H G1 H1) (h : H1 p = none) : Ext G H (upd G1 p o) (upd H1 p o) := by
  have hg := a.gnone h
  refine ⟨a.same.trans (same_new h), fun b q e => ?_, a.up.trans (same_new hg), fun b q e => ?_⟩
  · by_cases hb : b = p
    · subst hb; rw [upd_same] at e ⊢; exact e
    · rw [upd_ne hb] at e ⊢; exact a.sub _ _ e
  · by_cases hb : b = p
    · subst hb; exact .inr (a.same.free h)
    · rw [upd_ne hb] at e; exact a.fr _ _ e
/-- an object of one's own, not published, is changed -/
theorem Ext.mut (a : Ext G H G1 H1) (h : H p = none) (g : G1 p = none) : Ext G H G1 (upd H1 p o) := by
  refine ⟨fun b q e => ?_, fun b q e => ?_, a.up, a.fr⟩
  · rw [upd_ne (ne_of_none e h)]; exact a.same _ _ e
  · rw [upd_ne (ne_of_none e g)]; exact a.sub _ _ e
/-- .. is published -/
theorem Ext.pub (a : Ext G H G1 H1) (h : H p = none) (e : H1 p = some o) : Ext G H (upd G1 p o) H1 := by
  have hup : Same G1 (upd G1 p o) := fun b q g => by
    by_cases hb : b = p
    · subst hb; rw [a.sub _ _ g] at e; cases e; exact upd_same
    · rw [upd_ne hb]; exact g
  refine ⟨a.same, fun b q g => ?_, a.up.trans hup, fun b q g => ?_⟩
  · by_cases hb : b = p
    · subst hb; rw [upd_same] at g; cases g; exact e
    · rw [upd_ne hb] at g; exact a.sub _ _ g
  · by_cases hb : b = p
    · subst hb; exact .inr h
    · rw [upd_ne hb] at g; exact a.fr _ _ g
theorem Ext.stay (a : Ext G H G1 H1) (g : G p = Option.none) (h : H p = some o) : G1 p = Option.none := by
  cases q : G1 p with
  | none => rfl
  | some u =>
    rcases a.fr p u q with z | z
    · rw [g] at z; cases z
    · rw [h] at z; cases z
end
/-! ### promises -/
/-- arguments that stand for x; an answer that stands for x's, published; all that was there stays -/
def spG {α : Type} (Pre : α → List V → Hp → Prop) (Post : α → V → Hp → Prop) : Sp := fun vs H Q _ => ∃ G x, Same G H ∧ Pre x vs G ∧ ∀ v G' H', Ext G H G' H' → Post x v G' → Q v H'
/-! lists of numbers and of lists -/
abbrev nV (l : List Nat) : List V := l.map fun n : Nat => V.int (n : Int)
theorem nV_get {l : List Nat} {i : Nat} {x : V} (h : (nV l)[i]? = some x) : ∃ n : Nat, l[i]? = some n ∧ x = .int (n : Int) := by
  rw [List.getElem?_map] at h
  cases e : l[i]? with
  | none => rw [e] at h; cases h
  | some n => rw [e] at h; cases h; exact ⟨n, rfl, rfl⟩
theorem nV_at {l : List Nat} {i : Nat} {n : Nat} (h : l[i]? = some n) : (nV l)[i]? = some (.int (n : Int)) := by rw [List.getElem?_map, h]; rfl
/-- a list that the program made -/
def Ls (l : List Nat) (v : V) (H : Hp) : Prop := ∃ a, v = .ref a ∧ H a = some (.lst (nV l))
/-- one that may be read -/
def Lr (K : PySem.W.Frag) (l : List Nat) (v : V) (H : Hp) : Prop := ∃ a, v = .ref a ∧ SqL K H a (nV l)
theorem Ls.same {l v H H'} (s : Same H H') (h : Ls l v H) : Ls l v H' := let ⟨a, e, q⟩ := h; ⟨a, e, s _ _ q⟩
theorem Lr.same {K l v H H'} (s : Same H H') (h : Lr K l v H) : Lr K l v H' := let ⟨a, e, q⟩ := h; ⟨a, e, s.seq q⟩
theorem Ls.r {K l v H} (h : Ls l v H) : Lr K l v H := let ⟨a, e, q⟩ := h; ⟨a, e, SqL.of q⟩
def Lss (ls : List (List Nat)) (v : V) (H : Hp) : Prop := ∃ a vs, v = .ref a ∧ H a = some (.lst vs) ∧ Paired (fun l v => Ls l v H) ls vs
theorem paired_same {α : Type} {R : α → V → Hp → Prop} (st : ∀ a v H H', Same H H' → R a v H → R a v H') {H H' : Hp} (s : Same H H') {ls : List α} {vs : List V} (h : Paired (fun l v => R l v H) ls vs) : Paired (fun l v => R l v H') ls vs :=
  Paired.mapP h fun a v q => st a v H H' s q
theorem Lss.same {ls v H H'} (s : Same H H') (h : Lss ls v H) : Lss ls v H' := let ⟨a, vs, e, q, r⟩ := h; ⟨a, vs, e, s _ _ q, paired_same (fun _ _ _ _ s q => q.same s) s r⟩
theorem Paired.at {α β : Type} {F : α → β → Prop} : ∀ {l : List α} {m : List β} {i : Nat} {y : β}, Paired F l m → m[i]? = some y → ∃ x, l[i]? = some x ∧ F x y
  | _, _, _, _, .nil, e => by simp at e
  | _, _, 0, _, .cons r _, e => by simp at e; subst e; exact ⟨_, rfl, r⟩
  | _, _, i + 1, y, .cons _ t, e => by
    obtain ⟨u, h1, h2⟩ := Paired.at (i := i) (y := y) t (by simpa using e)
    exact ⟨u, by simpa using h1, h2⟩
theorem Paired.atl {α β : Type} {F : α → β → Prop} : ∀ {l : List α} {m : List β} {i : Nat} {x : α}, Paired F l m → l[i]? = some x → ∃ y, m[i]? = some y ∧ F x y
  | _, _, _, _, .nil, e => by simp at e
  | _, _, 0, _, .cons r _, e => by simp at e; subst e; exact ⟨_, rfl, r⟩
  | _, _, i + 1, y, .cons _ t, e => by
    obtain ⟨u, h1, h2⟩ := Paired.atl (i := i) (x := y) t (by simpa using e)
    exact ⟨u, by simpa using h1, h2⟩
/-- a number, as an item -/
def Nm (n : Nat) (v : V) (_H : Hp) : Prop := v = .int (n : Int)
theorem Nm.same (n : Nat) (v : V) (H H' : Hp) (_ : Same H H') (h : Nm n v H) : Nm n v H' := h
theorem paired_nV {H : Hp} : ∀ l : List Nat, Paired (fun n v => Nm n v H) l (nV l)
  | [] => .nil
  | n :: r => .cons rfl (paired_nV r)
theorem paired_of_nV {H : Hp} : ∀ {l : List Nat} {vs : List V}, Paired (fun n v => Nm n v H) l vs → vs = nV l
  | _, _, .nil => rfl
  | _, _, .cons e t => by rw [show _ = _ from e, paired_of_nV t]; rfl
theorem take_at {α : Type} : ∀ {l : List α} {i : Nat} {x : α}, l[i]? = some x → l.take (i + 1) = l.take i ++ [x]
  | [], i, x, h => by simp at h
  | a :: l, 0, x, h => by
    have e : a = x := Option.some.inj h
    subst e
    rfl
  | a :: l, i + 1, x, h => by
    have ih := take_at (l := l) (i := i) (x := x) h
    show a :: l.take (i + 1) = a :: l.take i ++ [x]
    rw [ih]
    rfl
/-- [elt for x in xs if t] over what hands out the items xs, which stand for the as -/
theorem lc_gen {α β : Type} {J : It} {as : List α} {xs : List V} {R : α → V → Hp → Prop} {j : Nat} {tt : TT} {te : TE} {ws : List Nat} {σ : L2.St} {G1 H1 : Hp} {D : Addr} {Qd : Hp → Prop} (S : β → V → Hp → Prop) (p : α → Bool) (f : α → β)
    (hgo : ∀ i H, Same H1 H → i < xs.length → J.go i H) (hstop : ∀ H, Same H1 H → J.stop xs.length H) (hyld : ∀ i H x H', Same H1 H → J.yld i H x H' → H' = H ∧ xs[i]? = some x)
    (hG : Same G1 H1) (hR : Paired (fun a v => R a v G1) as xs) (hlen : xs.length < sizeLine) (hD : H1 D = none) (st : ∀ a v H H', Same H H' → R a v H → R a v H') (st2 : ∀ b v H H', Same H H' → S b v H → S b v H')
    (hw : ∀ x, wipe ((wipe σ ws).set j (some x)) ws = wipe σ ws)
    (ht : ∀ a x G H, a ∈ as → Ext G1 H1 G H → R a x G → ∀ Q : Bool → Hp → Prop, (∀ H', Same H H' → Q (p a) H') → tt ((wipe σ ws).set j (some x)) H Q)
    (he : ∀ a x G H, a ∈ as → Ext G1 H1 G H → R a x G → p a = true → ∀ Q : VK, (∀ y G' H', Ext G H G' H' → S (f a) y G' → Q y H') → te ((wipe σ ws).set j (some x)) H Q)
    (hd : ∀ G H ys, Ext G1 H1 G H → H D = some (.lst ys) → G D = none → Paired (fun b v => S b v G) ((as.filter p).map f) ys → Qd H) :
    ∃ W : Nat → Nat → Hp → Prop, (∃ m, W 0 m (upd H1 D (.lst []))) ∧ ∀ i m H, W i m H →
      (J.stop i H ∧ Qd H) ∨ (J.go i H ∧ ∃ Nx : Hp → Prop, (∀ H', Nx H' → ∃ m', m' < m ∧ W (i + 1) m' H') ∧ ∀ x H', J.yld i H x H' → gName j x (wipe σ ws) H' fun σ2 H2 => wipe σ2 ws = wipe σ ws ∧ tt σ2 H2 fun b H3 =>
        if b = true then te σ2 H3 fun y H4 => ∃ acc, H4 D = some (.lst acc) ∧ acc.length < sizeLine ∧ Nx (upd H4 D (.lst (acc ++ [y]))) else Nx H3) := by
  refine ⟨fun i m H => m = xs.length - i ∧ i ≤ xs.length ∧ ∃ G ys, Ext G1 H1 G H ∧ G D = none ∧ H D = some (.lst ys) ∧ ys.length ≤ i ∧ Paired (fun b v => S b v G) (((as.take i).filter p).map f) ys,
    ⟨_, rfl, Nat.zero_le _, G1, [], (Ext.refl hG).priv hD, hG.free hD, upd_same, Nat.le_refl _, .nil⟩, ?_⟩
  rintro i m H ⟨rfl, hi, G, ys, e, gD, hys, hl, hp⟩
  by_cases hlt : i < xs.length
  · refine .inr ⟨hgo i H e.same hlt, fun H => i + 1 ≤ xs.length ∧ ∃ G ys, Ext G1 H1 G H ∧ G D = none ∧ H D = some (.lst ys) ∧ ys.length ≤ i + 1 ∧ Paired (fun b v => S b v G) (((as.take (i + 1)).filter p).map f) ys, fun H' q => ⟨_, by omega, rfl, q⟩, fun x H' y => ?_⟩
    obtain ⟨rfl, hx⟩ := hyld i H x H' e.same y
    obtain ⟨c, hc, hRc⟩ := Paired.at hR hx
    have hcm : c ∈ as := List.mem_of_getElem? hc
    have hRx : R c x G := st _ _ _ _ e.up hRc
    refine ⟨hw x, ht c x G _ hcm e hRx _ fun H3 s3 => ?_⟩
    cases hpc : p c with
    | false =>
      refine iteF ⟨hlt, G, ys, e.heap s3, gD, s3 _ _ hys, by omega, ?_⟩
      rw [take_at hc, List.filter_append, List.filter_cons, hpc]
      simpa using hp
    | true =>
      refine iteT (he c x G H3 hcm (e.heap s3) hRx hpc _ fun y G4 H4 e4 hy => ?_)
      have hy4 : H4 D = some (.lst ys) := e4.same _ _ (s3 _ _ hys)
      have g4 : G4 D = none := e4.stay gD (s3 _ _ hys)
      refine ⟨ys, hy4, by omega, hlt, G4, ys ++ [y], ((e.heap s3).trans e4).mut hD g4, g4, upd_same, by simp; omega, ?_⟩
      rw [take_at hc, List.filter_append, List.filter_cons, hpc]
      have q4 := (paired_same st2 e4.up hp).snoc hy
      simpa using q4
  · have e0 : i = xs.length := by omega
    subst e0
    have e' : as.take xs.length = as := by rw [List.take_of_length_le]; rw [Paired.length hR]; exact Nat.le_refl _
    rw [e'] at hp
    exact .inl ⟨hstop H e.same, hd G H ys e hys gD hp⟩
/-- .. over a list -/
theorem lc_of {α β : Type} {K : PySem.W.Frag} {a : Addr} {as : List α} {xs : List V} {R : α → V → Hp → Prop} {j : Nat} {tt : TT} {te : TE} {ws : List Nat} {σ : L2.St} {G1 H1 : Hp} {D : Addr} {Qd : Hp → Prop} (S : β → V → Hp → Prop) (p : α → Bool) (f : α → β)
    (hS : SqL K H1 a xs) (hG : Same G1 H1) (hR : Paired (fun a v => R a v G1) as xs) (hlen : xs.length < sizeLine) (hD : H1 D = none) (st : ∀ a v H H', Same H H' → R a v H → R a v H') (st2 : ∀ b v H H', Same H H' → S b v H → S b v H')
    (hw : ∀ x, wipe ((wipe σ ws).set j (some x)) ws = wipe σ ws)
    (ht : ∀ a x G H, a ∈ as → Ext G1 H1 G H → R a x G → ∀ Q : Bool → Hp → Prop, (∀ H', Same H H' → Q (p a) H') → tt ((wipe σ ws).set j (some x)) H Q)
    (he : ∀ a x G H, a ∈ as → Ext G1 H1 G H → R a x G → p a = true → ∀ Q : VK, (∀ y G' H', Ext G H G' H' → S (f a) y G' → Q y H') → te ((wipe σ ws).set j (some x)) H Q)
    (hd : ∀ G H ys, Ext G1 H1 G H → H D = some (.lst ys) → G D = none → Paired (fun b v => S b v G) ((as.filter p).map f) ys → Qd H) :
    ∃ W : Nat → Nat → Hp → Prop, (∃ m, W 0 m (upd H1 D (.lst []))) ∧ ∀ i m H, W i m H →
      ((Itl K a).stop i H ∧ Qd H) ∨ ((Itl K a).go i H ∧ ∃ Nx : Hp → Prop, (∀ H', Nx H' → ∃ m', m' < m ∧ W (i + 1) m' H') ∧ ∀ x H', (Itl K a).yld i H x H' → gName j x (wipe σ ws) H' fun σ2 H2 => wipe σ2 ws = wipe σ ws ∧ tt σ2 H2 fun b H3 =>
        if b = true then te σ2 H3 fun y H4 => ∃ acc, H4 D = some (.lst acc) ∧ acc.length < sizeLine ∧ Nx (upd H4 D (.lst (acc ++ [y]))) else Nx H3) :=
  lc_gen S p f (fun i H s hi => ⟨xs, xs[i], s.seq hS, by simp [hi]⟩) (fun H s => ⟨xs, s.seq hS, Nat.le_refl _⟩) (fun i H x H' s y => by obtain ⟨rfl, y⟩ := y; exact ⟨rfl, y _ (s.seq hS)⟩) hG hR hlen hD st st2 hw ht he hd
/-- .. over a tuple -/
theorem lc_ofT {α β : Type} {K : PySem.W.Frag} {a : Addr} {as : List α} {xs : List V} {R : α → V → Hp → Prop} {j : Nat} {tt : TT} {te : TE} {ws : List Nat} {σ : L2.St} {G1 H1 : Hp} {D : Addr} {Qd : Hp → Prop} (S : β → V → Hp → Prop) (p : α → Bool) (f : α → β)
    (hS : ∀ H, Same H1 H → SqT K H a xs) (hG : Same G1 H1) (hR : Paired (fun a v => R a v G1) as xs) (hlen : xs.length < sizeLine) (hD : H1 D = none) (st : ∀ a v H H', Same H H' → R a v H → R a v H') (st2 : ∀ b v H H', Same H H' → S b v H → S b v H')
    (hw : ∀ x, wipe ((wipe σ ws).set j (some x)) ws = wipe σ ws)
    (ht : ∀ a x G H, a ∈ as → Ext G1 H1 G H → R a x G → ∀ Q : Bool → Hp → Prop, (∀ H', Same H H' → Q (p a) H') → tt ((wipe σ ws).set j (some x)) H Q)
    (he : ∀ a x G H, a ∈ as → Ext G1 H1 G H → R a x G → p a = true → ∀ Q : VK, (∀ y G' H', Ext G H G' H' → S (f a) y G' → Q y H') → te ((wipe σ ws).set j (some x)) H Q)
    (hd : ∀ G H ys, Ext G1 H1 G H → H D = some (.lst ys) → G D = none → Paired (fun b v => S b v G) ((as.filter p).map f) ys → Qd H) :
    ∃ W : Nat → Nat → Hp → Prop, (∃ m, W 0 m (upd H1 D (.lst []))) ∧ ∀ i m H, W i m H →
      ((Itt K a).stop i H ∧ Qd H) ∨ ((Itt K a).go i H ∧ ∃ Nx : Hp → Prop, (∀ H', Nx H' → ∃ m', m' < m ∧ W (i + 1) m' H') ∧ ∀ x H', (Itt K a).yld i H x H' → gName j x (wipe σ ws) H' fun σ2 H2 => wipe σ2 ws = wipe σ ws ∧ tt σ2 H2 fun b H3 =>
        if b = true then te σ2 H3 fun y H4 => ∃ acc, H4 D = some (.lst acc) ∧ acc.length < sizeLine ∧ Nx (upd H4 D (.lst (acc ++ [y]))) else Nx H3) :=
  lc_gen S p f (fun i H s hi => ⟨xs, xs[i], hS H s, by simp [hi]⟩) (fun H s => ⟨xs, hS H s, Nat.le_refl _⟩) (fun i H x H' s y => by obtain ⟨rfl, y⟩ := y; exact ⟨rfl, y _ (hS _ s)⟩) hG hR hlen hD st st2 hw ht he hd
/-- .. over the signs of a text -/
abbrev sgV (z : Str) : List V := z.cps.toList.map fun c => V.str ⟨#[c]⟩
theorem lc_ofS {α β : Type} {z : Str} {as : List α} {R : α → V → Hp → Prop} {j : Nat} {tt : TT} {te : TE} {ws : List Nat} {σ : L2.St} {G1 H1 : Hp} {D : Addr} {Qd : Hp → Prop} (S : β → V → Hp → Prop) (p : α → Bool) (f : α → β)
    (hG : Same G1 H1) (hR : Paired (fun a v => R a v G1) as (sgV z)) (hlen : (sgV z).length < sizeLine) (hD : H1 D = none) (st : ∀ a v H H', Same H H' → R a v H → R a v H') (st2 : ∀ b v H H', Same H H' → S b v H → S b v H')
    (hw : ∀ x, wipe ((wipe σ ws).set j (some x)) ws = wipe σ ws)
    (ht : ∀ a x G H, a ∈ as → Ext G1 H1 G H → R a x G → ∀ Q : Bool → Hp → Prop, (∀ H', Same H H' → Q (p a) H') → tt ((wipe σ ws).set j (some x)) H Q)
    (he : ∀ a x G H, a ∈ as → Ext G1 H1 G H → R a x G → p a = true → ∀ Q : VK, (∀ y G' H', Ext G H G' H' → S (f a) y G' → Q y H') → te ((wipe σ ws).set j (some x)) H Q)
    (hd : ∀ G H ys, Ext G1 H1 G H → H D = some (.lst ys) → G D = none → Paired (fun b v => S b v G) ((as.filter p).map f) ys → Qd H) :
    ∃ W : Nat → Nat → Hp → Prop, (∃ m, W 0 m (upd H1 D (.lst []))) ∧ ∀ i m H, W i m H →
      ((Its z).stop i H ∧ Qd H) ∨ ((Its z).go i H ∧ ∃ Nx : Hp → Prop, (∀ H', Nx H' → ∃ m', m' < m ∧ W (i + 1) m' H') ∧ ∀ x H', (Its z).yld i H x H' → gName j x (wipe σ ws) H' fun σ2 H2 => wipe σ2 ws = wipe σ ws ∧ tt σ2 H2 fun b H3 =>
        if b = true then te σ2 H3 fun y H4 => ∃ acc, H4 D = some (.lst acc) ∧ acc.length < sizeLine ∧ Nx (upd H4 D (.lst (acc ++ [y]))) else Nx H3) :=
  lc_gen (J := Its z) S p f (fun i H s hi => by show i < z.cps.size; simpa using hi) (fun H s => by show z.cps.size ≤ _; simp) (fun i H x H' s y => by
    obtain ⟨rfl, c, hc, rfl⟩ := y
    refine ⟨rfl, ?_⟩
    rw [List.getElem?_map, Array.getElem?_toList, hc]; rfl) hG hR hlen hD st st2 hw ht he hd
section
open PySem.SeqAt
open PySem.AutoSeq1
open PySem.MeetsSeq PySem.MeetsSeq2 PySem.MeetsSeq3
set_option maxRecDepth 8000 in
theorem extend_list_tuple (l : Addr) (items : Array Value) (n : Nat) (b : Addr) (items2 : Array Value) (n2 : Nat) (dd2 : Option Addr) (sl2 : Array (Option Value)) (hs0 : ¬(!items.isEmpty && Builtin.List.listTooLong (items.size + items2.size)) = true) (hs1 : items.size ≤ sizeLine) (hs2 : items.size + items2.size ≤ sizeLine + 1) :
    Meets (Builtin.«list.extend» ⟨[.ref l, .ref b], []⟩) (fun _ R s => s.heap.get? l = some { cls := .type "list", dict := none, data := .seq items n, slots := #[] } ∧ s.heap.get? b = some { cls := .type "tuple", dict := dd2, data := .seq items2 n2, slots := sl2 } ∧ R (.ok (.ret Value.none)) { s with heap := s.heap.update l (Obj.mapSeq fun x => x ++ items2), toks := s.toks }) :=
  .of_wp fun prog w A R s h => by
    obtain ⟨hp, g, d, tk, os⟩ := s; obtain ⟨hl, hb, h⟩ := h; have f1 := idx_int; have f2 := PySem.AutoSeq1.sub_tuple_tuple; have f3 := PySem.AutoSeq1.sub_list_list; have f4 := PySem.AutoSeq1.sub_tuple_list; have f5 := PySem.AutoSeq1.sub_list_tuple;
    have hz' : (items ++ items2).size ≤ sizeLine + 1 := by rw [Array.size_append]; exact hs2
    wp_walk using (wpAny_updateSeq hl rfl (hz := hs1) (_hz' := hz')), wpAny_loadPart' hl, wpAny_loadPart' hb; exact ⟨_, rfl, h⟩
def rExtendS : V → List V → Hp → VK → Prop := fun x vs H Q => ∃ l b xs zs, x = .ref l ∧ vs = [.ref b] ∧ H l = some (.lst xs) ∧ (H b = some (.lst zs) ∨ H b = some (.tup zs)) ∧ xs.length + zs.length ≤ sizeLine ∧ Q .non (upd H l (.lst (xs ++ zs)))
theorem mt_extendS {X : Cx} : MtM X "list.extend" rExtendS := by
  intro pins s σ H x vs v us Q I rx rv h
  obtain ⟨l, b, xs, zs, rfl, rfl, hH, hB, hz, q⟩ := h
  rcases hB with hB | hB
  · exact mt_extend pins s σ H _ _ v us Q I rx rv ⟨l, b, xs, zs, rfl, rfl, hH, hB, hz, q⟩
  cases rx
  obtain ⟨u, rfl, ru⟩ := rv.one
  cases ru
  obtain ⟨z, its, n, r, hl, e⟩ := I.lstM hH
  obtain ⟨its2, r2, ht, z2⟩ := I.tuple (SqT.of hB)
  obtain ⟨ob, e2, hc, n2, hd⟩ := ht
  have hl2 := r2.length
  have hsz : its.toArray.size + its2.toArray.size ≤ sizeLine := by rw [List.size_toArray, List.size_toArray]; omega
  have hlong : ¬ (!its.toArray.isEmpty && Builtin.List.listTooLong (its.toArray.size + its2.toArray.size)) = true := by
    rw [notLongL hsz, Bool.and_false]
    exact Bool.false_ne_true
  obtain ⟨cl, dd, dat, sl⟩ := ob
  simp only at hc hd
  subst hc hd
  refine call_meets F.slot_list_extend ⟨_, e, rfl⟩ F.entry_list_extend (F.args_list_extend_2 _ _)
    (extend_list_tuple l its.toArray n b its2.toArray n2 dd sl hlong (by rw [List.size_toArray]; omega) (by omega)) ⟨e, e2, ?_⟩
  refine ⟨.non, _, I.lset (its' := its ++ its2) hH e (by simp) (r.append r2) ?_, rfl, q⟩
  rw [List.length_append]
  omega
end

theorem lt_line {n : Nat} (h : n ≤ 1000000) : n < sizeLine := Nat.lt_of_le_of_lt h (by decide)
theorem le_line {n : Nat} (h : n ≤ 1000000) : n ≤ sizeLine := Nat.le_of_lt (lt_line h)
theorem truL {H : Hp} {K : PySem.W.Frag} {p : Addr} {xs : List V} (h : SqL K H p xs) : TruV K (.ref p) H (!xs.isEmpty) := .inl ⟨xs, h, rfl⟩
theorem tyL {H : Hp} {K : PySem.W.Frag} {p : Addr} {xs : List V} (h : SqL K H p xs) : tyV K "list" (.ref p) H := .inl ⟨rfl, _, h⟩
theorem nV_app (a b : List Nat) : nV (a ++ b) = nV a ++ nV b := List.map_append
/-- a list or a tuple of numbers -/
def Sq (l : List Nat) (v : V) (H : Hp) : Prop := ∃ a, v = .ref a ∧ (H a = some (.lst (nV l)) ∨ H a = some (.tup (nV l)))
theorem Sq.same {l v H H'} (s : Same H H') (h : Sq l v H) : Sq l v H' := let ⟨a, e, q⟩ := h; ⟨a, e, q.imp (s _ _) (s _ _)⟩
theorem Ls.sq {l v H} (h : Ls l v H) : Sq l v H := let ⟨a, e, q⟩ := h; ⟨a, e, .inl q⟩
def Sqs (ls : List (List Nat)) (v : V) (H : Hp) : Prop := ∃ a vs, v = .ref a ∧ H a = some (.lst vs) ∧ Paired (fun l v => Sq l v H) ls vs
theorem Lss.sqs {ls v H} (h : Lss ls v H) : Sqs ls v H := let ⟨a, vs, e, q, r⟩ := h; ⟨a, vs, e, q, Paired.mapP r fun _ _ z => z.sq⟩
theorem dec_eq {p q : Prop} [Decidable p] [Decidable q] (h : p ↔ q) : decide p = decide q := by
  by_cases hp : p
  · rw [decide_eq_true hp, decide_eq_true (h.mp hp)]
  · rw [decide_eq_false hp, decide_eq_false (fun z => hp (h.mpr z))]
theorem cxK {CX : CXT} {P : Program} {w : World} {K : PySem.W.Frag} {mg : Str → Option Value} {base : Heap} {N : List Str} {qual : Str} {scope : Scope} {f : Addr} {cd : Value} {A : Around} {outer : List Env} {s : Shared} {H : Hp} {E : XK} : (cxOf CX P w K mg base N qual scope f cd A outer s H E).K = K := rfl

theorem for_enum {K : PySem.W.Frag} {a : Addr} {xs : List V} {g : TG} {tb : TS} {D : Ends} {σ : L2.St} {H : Hp} (Pv : Nat → L2.St → Hp → Prop) (h0 : Pv 0 σ H) (hl : ∀ i σ H, i ≤ xs.length → Pv i σ H → SqL K H a xs)
    (hs : ∀ (i : Nat) x σ H T, xs[i]? = some x → Pv i σ H → H T = none → g (.ref T) σ (upd H T (.tup [.int (i : Int), x])) fun σ2 H2 => tb { D with nx := Pv (i + 1), ct := Pv (i + 1), bk := D.nx } σ2 H2) (hd : ∀ σ H, Pv xs.length σ H → D.nx σ H) :
    ∃ W : Nat → Nat → L2.St → Hp → Prop, (∃ m, W 0 m σ H) ∧ ∀ i m σ H, W i m σ H →
      ((Ite K a).stop i H ∧ D.nx σ H) ∨ ((Ite K a).go i H ∧ ∃ N : L2.St → Hp → Prop, (∀ σ' H', N σ' H' → ∃ m', m' < m ∧ W (i + 1) m' σ' H') ∧ ∀ x H', (Ite K a).yld i H x H' → g x σ H' fun σ2 H2 => tb { D with nx := N, ct := N, bk := D.nx } σ2 H2) := by
  refine ⟨fun i m σ H => m = xs.length - i ∧ i ≤ xs.length ∧ Pv i σ H, ⟨xs.length, by simp, Nat.zero_le _, h0⟩, ?_⟩
  rintro i m σ H ⟨rfl, hi, p⟩
  have q := hl i σ H hi p
  by_cases hlt : i < xs.length
  · refine .inr ⟨⟨xs, xs[i], q, by simp [hlt]⟩, Pv (i + 1), fun σ' H' p' => ⟨xs.length - (i + 1), by omega, rfl, hlt, p'⟩, fun x H' y => ?_⟩
    obtain ⟨T, y0, rfl, hT, rfl, hy⟩ := y
    exact hs i y0 σ H T (hy xs q) p hT
  · have e : i = xs.length := by omega
    subst e
    exact .inl ⟨⟨xs, q, Nat.le_refl _⟩, hd σ H p⟩
/-! ### a walk over a local name that holds a list or a tuple -/
structure ItOk (J : It) (xs : List V) (H0 : Hp) : Prop where
  go : ∀ i H, Same H0 H → i < xs.length → J.go i H
  stop : ∀ H, Same H0 H → J.stop xs.length H
  yld : ∀ i H x H', Same H0 H → J.yld i H x H' → H' = H ∧ xs[i]? = some x
theorem itOk_l {K : PySem.W.Frag} {a : Addr} {xs : List V} {H0 : Hp} (h : SqL K H0 a xs) : ItOk (Itl K a) xs H0 :=
  ⟨fun i H s hi => ⟨xs, xs[i], s.seq h, List.getElem?_eq_getElem hi⟩, fun H s => ⟨xs, s.seq h, Nat.le_refl _⟩, fun i H x H' s y => by obtain ⟨rfl, y⟩ := y; exact ⟨rfl, y _ (s.seq h)⟩⟩
theorem itOk_t {K : PySem.W.Frag} {a : Addr} {xs : List V} {H0 : Hp} (h : ∀ Hx, Same H0 Hx → SqT K Hx a xs) : ItOk (Itt K a) xs H0 :=
  ⟨fun i H s hi => ⟨xs, xs[i], h H s, List.getElem?_eq_getElem hi⟩, fun H s => ⟨xs, h H s, Nat.le_refl _⟩, fun i H x H' s y => by obtain ⟨rfl, y⟩ := y; exact ⟨rfl, y _ (h _ s)⟩⟩
/-- a list or a tuple -/
def SqA (K : PySem.W.Frag) (H : Hp) (a : Addr) (xs : List V) : Prop := SqL K H a xs ∨ H a = some (.tup xs)
theorem SqA.same {K : PySem.W.Frag} {H H' : Hp} {a : Addr} {xs : List V} (s : Same H H') (h : SqA K H a xs) : SqA K H' a xs := h.imp (fun z => s.seq z) (s _ _)
def iSeqV (K : PySem.W.Frag) (i : Nat) : TI := fun σ H R => ∃ a xs H0, σ[i]? = some (some (V.ref a)) ∧ Same H0 H ∧ SqA K H0 a xs ∧ ∀ J, ItOk J xs H0 → R J H
theorem kpi_seqv {X : Cx} {K : PySem.W.Frag} (h : X.K = K) {tg e : Expr} {i : Nat} (he : PE X e (tVar i)) : PI X tg e (iSeqV K i) := by
  constructor
  intro pins s σ H R I want
  obtain ⟨a, xs, H0, hs, s0, hq, go⟩ := want
  rcases hq with hq | hq
  · exact (kpi_list h he (tg := tg)).run pins s σ H R I ⟨_, hs, a, rfl, ⟨xs, s0.seq hq⟩, go _ (itOk_l hq)⟩
  · have hT : ∀ H2, Same H0 H2 → SqT K H2 a xs := fun H2 s2 => SqT.of (s2 _ _ hq)
    exact (kpi_tup h he (tg := tg)).run pins s σ H R I ⟨_, hs, a, rfl, ⟨xs, hT H s0⟩, go _ (itOk_t hT)⟩
theorem for_it {J : It} {xs : List V} {g : TG} {tb : TS} {D : Ends} {σ : L2.St} {H0 H : Hp} (Pv : Nat → L2.St → Hp → Prop) (hJ : ItOk J xs H0) (h0 : Pv 0 σ H) (hl : ∀ i σ H, i ≤ xs.length → Pv i σ H → Same H0 H)
    (hs : ∀ (i : Nat) x σ H, xs[i]? = some x → Pv i σ H → g x σ H fun σ2 H2 => tb { D with nx := Pv (i + 1), ct := Pv (i + 1), bk := D.nx } σ2 H2) (hd : ∀ σ H, Pv xs.length σ H → D.nx σ H) :
    ∃ W : Nat → Nat → L2.St → Hp → Prop, (∃ m, W 0 m σ H) ∧ ∀ i m σ H, W i m σ H →
      (J.stop i H ∧ D.nx σ H) ∨ (J.go i H ∧ ∃ N : L2.St → Hp → Prop, (∀ σ' H', N σ' H' → ∃ m', m' < m ∧ W (i + 1) m' σ' H') ∧ ∀ x H', J.yld i H x H' → g x σ H' fun σ2 H2 => tb { D with nx := N, ct := N, bk := D.nx } σ2 H2) := by
  refine ⟨fun i m σ H => m = xs.length - i ∧ i ≤ xs.length ∧ Pv i σ H, ⟨xs.length, rfl, Nat.zero_le _, h0⟩, ?_⟩
  rintro i m σ H ⟨rfl, hi, p⟩
  have q := hl i σ H hi p
  by_cases hlt : i < xs.length
  · refine .inr ⟨hJ.go i H q hlt, Pv (i + 1), fun σ' H' p' => ⟨xs.length - (i + 1), by omega, rfl, hlt, p'⟩, fun x H' y => ?_⟩
    obtain ⟨rfl, hx⟩ := hJ.yld i H x H' q y
    exact hs i x σ _ hx p
  · have e : i = xs.length := by omega
    subst e
    exact .inl ⟨hJ.stop H q, hd σ H p⟩
/-- numbers in a list or a tuple -/
def Lq (K : PySem.W.Frag) (l : List Nat) (v : V) (H : Hp) : Prop := ∃ a, v = .ref a ∧ SqA K H a (nV l)
theorem Lq.same {K l v H H'} (s : Same H H') (h : Lq K l v H) : Lq K l v H' := let ⟨a, e, q⟩ := h; ⟨a, e, q.same s⟩
theorem Lr.q {K l v H} (h : Lr K l v H) : Lq K l v H := let ⟨a, e, q⟩ := h; ⟨a, e, .inl q⟩
theorem Ls.q {K l v H} (h : Ls l v H) : Lq K l v H := h.r.q
theorem Sq.q {K l v H} (h : Sq l v H) : Lq K l v H := let ⟨a, e, q⟩ := h; ⟨a, e, q.imp SqL.of id⟩
end Bt

namespace Bt
open PySem PySem.Spec PyProof.Rows L2
/-! An own error over Exception whose own initializer stores its fields. -/
abbrev exTail : List Value := [.type "Exception", .type "BaseException", .type "object"]
/-- the object, its own dict told -/
abbrev errOb (C t1 : Addr) (dd : Option Addr) : Obj := { cls := .ref C, dict := dd, data := .fields #[.ref t1, .none, .none, .none, .bool false, .none] }
/-- what the written part holds of such a class -/
structure ErrC (K : PySem.W.Frag) (C : Addr) : Prop where
  there : ∃ nm q N bs bm sn sub ab col dd k0 k1 k2 k3 k5, K.lookup C = some (excClassObj nm q C N bs bm true sn sub ab col dd k0 k1 k2 k3 k5 "Exception.__new__") ∧ PySem.W.excTail exTail bm = true
  seta : PySem.W.findIn K (.ref C) "__setattr__" = some (some (.builtin "object.__setattr__"))
  base : PySem.W.subIn K (.ref C) (.type "BaseException") = some true
  meta' : PySem.W.typeIn K (.ref C) = some (.type "type")
  keep : PySem.W.keepIn K (.ref C) = true
section
open Builtin Builtin.ObjectAttr
variable {prog : Program} {w : World} {A : Around} {R : Result → Shared → Prop} {hp : Heap} {g : Array GenState} {d : Drawn} {t : Nat} {os : OsState}
theorem ring_pass (self : Value) (c : Addr) {bm : List Value} (h : PySem.W.excTail exTail bm = true) : refuseLoop self "__setattr__" (.ref c :: bm) = pure () := (refuseLoop_ref self "__setattr__" c bm).trans (PySem.W.excTail_pass self (F.store_Exception.passes self) bm h)
/-- object's own setter upon such an error, up to the dict -/
theorem err_way {K : PySem.W.Frag} {fld : Str} {tk : Tok} {v : Value} {x C : Addr} {ox : Obj} {odx : Option Obj} {cd : ClassData} (inst : PySem.W.InstAt hp x ox C odx)
    (kx : K.In hp) (hcd : PySem.W.clsIn K C = some cd) {bm : List Value} (hmro : cd.mro = .ref C :: bm) (hbm : PySem.W.excTail exTail bm = true) (none_of : PySem.W.findIn K (.ref C) fld = some none)
    (fin : ∀ A' : Around, wpAny (model prog w) A' (storeInOwnDict (.ref x) (.ref C) (.str fld tk) fld v false) (fun f s' => f = .done (.ret .none) ∧ R (.ok (.ret .none)) s') (fun e s' => R (.error e) s') ⟨hp, g, d, t, os⟩) :
    codeAny (model prog w) A (.call (.builtin "object.__setattr__") ⟨[.ref x, .str fld tk, v], []⟩) R ⟨hp, g, d, t, os⟩ := by
  have facts := F.store_object
  have isOb : PySem.W.mroIn K C (.type "object") = some true := by
    show ((PySem.W.clsIn K C).bind fun cd => if cd.mro.isEmpty then none else some (cd.mro.contains (.type "object"))) = _
    rw [hcd]
    show (if cd.mro.isEmpty then none else some (cd.mro.contains (.type "object"))) = _
    rw [hmro]
    show some ((Value.ref C :: bm).contains (.type "object")) = _
    rw [List.contains_cons, PySem.W.excTail_contains "object" bm hbm]
    rfl
  have asks : PySem.W.Looks (model prog w) hp (isInstance (.ref x) (.type "object")) true := inst.type.andThen (PySem.W.looks_mroIn kx isOb)
  have ring : PySem.W.Looks (model prog w) hp (mroOf (.ref C)) cd.mro := (PySem.W.looks_clsIn kx hcd).andThen .now
  have taker : PySem.W.Looks (model prog w) hp (storeTaker? none) none := .now
  have body : ∀ A' : Around, wpAny (model prog w) A' (Builtin.«object.__setattr__» ⟨[.ref x, .str fld tk, v], []⟩) (fun f s' => f = .done (.ret .none) ∧ R (.ok (.ret .none)) s') (fun e s' => R (.error e) s') ⟨hp, g, d, t, os⟩ := fun A' => by
    rw [PySem.W.osa_eq, refuse_eq]
    refine wpAny_bind (wpAny_bind (inst.type.at (wpAny_bind (ring.at ?_))))
    rw [hmro, ring_pass _ _ hbm]
    exact wpAny_pure (wpAny_bind (inst.type.at (wpAny_bind ((PySem.W.looks_findIn kx none_of).at (wpAny_bind (taker.at (fin A')))))))
  refine codeAny_call_builtin facts.slot.plain facts.entry ?_
  refine @PySem.W.check_slot (model prog w) _ _ ⟨hp, g, d, t, os⟩ "object.__setattr__" "object" "__setattr__" (.ref x) [.str fld tk, v] [] _ facts.kind facts.split asks (facts.args (.ref x) (.str fld tk) v) ?_
  refine wpAny_mono (body _) (fun f s' q => ?_) (fun _ _ q => q)
  obtain ⟨rfl, q⟩ := q
  exact q

theorem err_cd {K : PySem.W.Frag} {C : Addr} (T : ErrC K C) : ∃ cd bm, PySem.W.clsIn K C = some cd ∧ cd.mro = .ref C :: bm ∧ PySem.W.excTail exTail bm = true ∧ cd.hasDict = true := by
  obtain ⟨nm, q, N, bs, bm, sn, sub, ab, col, dd, k0, k1, k2, k3, k5, e, hbm⟩ := T.there
  refine ⟨{ name := nm, bases := bs, mro := .ref C :: bm, ns := N, qualname := q, hasDict := true, slotNames := sn, subclasses := sub, abstract := ab, collection := col, hasDel := false }, bm, ?_, rfl, hbm, rfl⟩
  unfold PySem.W.clsIn
  rw [e] <;> rfl
/-- the first field: the dict comes into being -/
theorem err_first {K : PySem.W.Frag} {fld : Str} {tk : Tok} {v : Value} {x C t1 : Addr} (T : ErrC K C) (kx : K.In hp) (there : hp.get? x = some (errOb C t1 none)) (none_of : PySem.W.findIn K (.ref C) fld = some none)
    (next : ∀ h' tk' dx, hp.objs.size ≤ dx → dx ≠ x → (∀ b o, b ≠ x → hp.get? b = some o → h'.get? b = some o) → h'.get? x = some (errOb C t1 (some dx)) → h'.Ns1 dx (fun y => if y = fld then some v else none) → R (.ok (.ret .none)) ⟨h', g, d, tk', os⟩) :
    codeAny (model prog w) A (.call (.builtin "object.__setattr__") ⟨[.ref x, .str fld tk, v], []⟩) R ⟨hp, g, d, t, os⟩ := by
  obtain ⟨cd, bm, hcd, hmro, hbm, hdict⟩ := err_cd T
  have look : PySem.W.Looks (model prog w) hp (classData C) cd := PySem.W.looks_clsIn kx hcd
  have far : hp.objs.size ≠ x := Ne.symm (Nat.ne_of_lt (Heap.lt_size there))
  have up1 : (hp.push { cls := .type "dict", data := .dict #[] }).get? x = some (errOb C t1 none) := Heap.get?_push_of_some _ there
  refine err_way (ox := errOb C t1 none) (odx := none) ⟨there, rfl, rfl, trivial⟩ kx hcd hmro hbm none_of fun A' => ?_
  obtain ⟨n1, n2, n3, n4, n5, hasD, n7, n8, n9, n10, n11⟩ := cd
  obtain rfl : hasD = true := hdict
  unfold storeInOwnDict ownDictForStores
  repeat (first | (with_reducible refine PySem.HandSPX.store_in_new ?dict ?rest) | (with_reducible refine wpAny_loadPart_at there ?_) | (with_reducible refine look.at ?_) | wp_step)
  case dict => exact ⟨_, #[], _, (Heap.get?_update_ne _ _ _ _ far).trans (Heap.get?_push_at rfl rfl), rfl, fun _ z => absurd z (by simp), fun _ => rfl⟩
  case rest =>
    intro h' tk' laid but
    refine ⟨rfl, next h' tk' hp.objs.size (Nat.le_refl _) far (fun b o nb z => (but.2 b (Nat.ne_of_lt (Heap.lt_size z))).trans ((Heap.get?_update_ne _ _ _ _ nb).trans (Heap.get?_push_of_some _ z))) ?_ laid⟩
    exact (but.2 x far.symm).trans (Heap.get?_update_self _ up1 rfl)
/-- a further field -/
theorem err_more {K : PySem.W.Frag} {fld : Str} {tk : Tok} {v : Value} {x C t1 dx : Addr} {m0 : Str → Option Value} {nl : List Str} (T : ErrC K C) (kx : K.In hp) (there : hp.get? x = some (errOb C t1 (some dx))) (none_of : PySem.W.findIn K (.ref C) fld = some none)
    (laid : hp.Ns1 dx m0) (within : PySem.Within m0 nl) (few : nl.length ≤ 1000)
    (next : ∀ h' tk', (∀ b o, b ≠ dx → hp.get? b = some o → h'.get? b = some o) → h'.Ns1 dx (fun y => if y = fld then some v else m0 y) → R (.ok (.ret .none)) ⟨h', g, d, tk', os⟩) :
    codeAny (model prog w) A (.call (.builtin "object.__setattr__") ⟨[.ref x, .str fld tk, v], []⟩) R ⟨hp, g, d, t, os⟩ := by
  obtain ⟨cd, bm, hcd, hmro, hbm, hdict⟩ := err_cd T
  have look : PySem.W.Looks (model prog w) hp (classData C) cd := PySem.W.looks_clsIn kx hcd
  obtain ⟨od, es, ep, at', isD, _⟩ := laid.count within
  refine err_way (ox := errOb C t1 (some dx)) (odx := some od) ⟨there, rfl, rfl, at'⟩ kx hcd hmro hbm none_of fun A' => ?_
  obtain ⟨n1, n2, n3, n4, n5, hasD, n7, n8, n9, n10, n11⟩ := cd
  obtain rfl : hasD = true := hdict
  unfold storeInOwnDict ownDictForStores
  repeat (first | (with_reducible refine PySem.OEX.store_in_old laid within few ?rest) | (with_reducible refine wpAny_loadPart_at there ?_) | (with_reducible refine look.at ?_) | wp_step)
  case rest =>
    intro h' tk' laid' but
    exact ⟨rfl, next h' tk' (fun b o nb z => (but.2 b nb).trans z) laid'⟩
end
section
variable {X : Cx} {pins : List (Addr × Obj)} {σ : L2.St} {H : Hp} {s : Shared} {a C dx : Addr} {f : Str} {y : V} {u : Value} {fs : List (Str × V)} {Q : Unit → Shared → Prop} {E : Value → Shared → Prop} {A : Around}
theorem err_st1 (T : ErrC X.K C) (I : Inv X pins σ H s) (e : H a = some (exo a C none)) (none_of : PySem.W.findIn X.K (.ref C) f = some none) (ry : RelV y u)
    (h : ∀ dx s', H dx = none → dx ≠ a → Inv X pins σ (upd (upd H dx (exd dx [(f, y)])) a (exo a C (some dx))) s' → Q () s') : wpAny (model X.prog X.w) A (setAttr (.ref a) f u) Q E s := by
  obtain ⟨t1, ho⟩ := exo_at I.hok e
  obtain ⟨hp, g, d, t, os⟩ := s
  refine PySem.W.set_plain I.kIn (ox := errOb C t1 none) (od := none) ⟨ho, rfl, rfl, trivial⟩ T.seta (err_first T I.kIn ho none_of fun h' tk' dx new ne keep hx laid => ?_)
  have fresh : H dx = none := I.hok.fresh new
  have old : ∀ {b : Addr} {o : Obj}, hp.get? b = some o → b ≠ dx := fun z => Nat.ne_of_lt (Nat.lt_of_lt_of_le (Heap.lt_size z) new)
  have nota : ∀ {b : Addr}, H b = none → b ≠ a := fun n z => by subst z; rw [e] at n; cases n
  -- first the dict is laid, then the object is written
  have mid : ∀ b o, H b = some o → b ≠ a → ObjOk X.prog X.w (upd (upd H dx (exd dx [(f, y)])) a (exo a C (some dx))) h' b o := fun b o q hb => by
    refine (I.hok b o q).stay (fun c v hc z => keep c v ?_ z) (fun c z => ?_) (fun c xs z => ?_)
    · rcases hc with rfl | hc
      · exact hb
      · exact at_ne e hc exo_own
    · rw [upd_ne (at_ne e z exo_own), upd_ne (ne_of_none z fresh)]; exact z
    · rw [upd_ne (at_ne e z exo_tup), upd_ne (ne_of_none z fresh)]; exact z
  refine h dx _ fresh ne (I.un (t' := tk') ⟨fun b o z n _ _ => keep b o (nota n) z, fun b o z n _ _ => ⟨o.slots, keep b o (nota n) z⟩, fun b o z n _ => ?_, fun b o z _ => ?_, fun b xs z => ?_, fun b o v z => ?_, fun b ps z => ⟨#[], ?_⟩⟩ fun b o q => ?_)
  · rw [upd_ne (nota n), upd_ne (old z)]; exact n
  · by_cases hb : b = a
    · subst hb; exact ⟨_, hx⟩
    · exact ⟨o, keep b o hb z⟩
  · rw [upd_ne (at_ne e z exo_tup), upd_ne (ne_of_none z fresh)]; exact z
  · rw [upd_ne (at_ne e z exo_frz), upd_ne (ne_of_none z fresh)]; exact z
  · rw [upd_ne (at_ne e z exo_tbl), upd_ne (ne_of_none z fresh), z]; simp
  · by_cases hb : b = a
    · subst hb; rw [upd_same] at q; cases q; exact exo_ok hx
    · rw [upd_ne hb] at q
      by_cases hd : b = dx
      · subst hd; rw [upd_same] at q; cases q; exact exd_ok laid (relO_put (fs := []) ry fun _ => trivial)
      · rw [upd_ne hd] at q; exact mid b o q hb
theorem err_st2 (T : ErrC X.K C) (I : Inv X pins σ H s) (e : H a = some (exo a C (some dx))) (ed : H dx = some (exd dx fs)) (few : fs.length ≤ 900) (none_of : PySem.W.findIn X.K (.ref C) f = some none) (ry : RelV y u)
    (h : ∀ s', Inv X pins σ (upd H dx (exd dx ((f, y) :: fs))) s' → Q () s') : wpAny (model X.prog X.w) A (setAttr (.ref a) f u) Q E s := by
  obtain ⟨t1, ho⟩ := exo_at I.hok e
  obtain ⟨mA, laid, rel⟩ := exd_at I.hok ed
  have within := within_of rel
  obtain ⟨hp, g, d, t, os⟩ := s
  obtain ⟨od, _, _, at', _, _⟩ := laid.count within
  refine PySem.W.set_plain I.kIn (ox := errOb C t1 (some dx)) (od := some od) ⟨ho, rfl, rfl, at'⟩ T.seta (err_more T I.kIn ho none_of laid within (by rw [List.length_map]; omega) fun h' tk' keep laid' => h _ ?_)
  have still : ∃ o, h'.get? dx = some o := by
    obtain ⟨o, _, _, z, _⟩ := laid'
    exact ⟨o, z⟩
  exact I.write (t' := tk') (x := dx) (e := dx) (o := exd dx ((f, y) :: fs)) (by rw [ed]; trivial) (.inl rfl) keep still (exd_ok laid' (relO_put ry rel))
end
/-! ### readings -/
/-- self.f = e within such an initializer -/
def tErF (K : PySem.W.Frag) (f : Str) (to te : TE) : TS := fun D σ H => te σ H fun y H1 => to σ H1 fun x H2 => ∃ a C : Addr, x = .ref a ∧ ErrC K C ∧ PySem.W.findIn K (.ref C) f = some none ∧
  ((H2 a = some (exo a C none) ∧ ∀ dx, H2 dx = none → dx ≠ a → D.nx σ (upd (upd H2 dx (exd dx [(f, y)])) a (exo a C (some dx)))) ∨
    ∃ (dx : Addr) (fs : List (Str × V)), H2 a = some (exo a C (some dx)) ∧ H2 dx = some (exd dx fs) ∧ fs.length ≤ 900 ∧ D.nx σ (upd H2 dx (exd dx ((f, y) :: fs))))
section
variable {X : Cx} {K : PySem.W.Frag}
theorem ps_erF (hK : X.K = K) {o e : Expr} {to te : TE} {f : Str} {p' pos : Pos} (ho : PE X o to) (he : PE X e te) (hs : swapsWith e (some (.Attribute o f p')) pos.line X.env = pure false := by rfl) : PS X (.Assign [.Attribute o f p'] e pos) (tErF K f to te) := by
  subst hK
  constructor
  intro pins s σ H D I want
  refine plainObj_wpAny_Assign_Attribute ?_ hs
  refine thn (he.run pins s σ H _ I want) fun v s1 got1 => ?_
  obtain ⟨y, H1, I1, r1, want1⟩ := got1
  refine thn (ho.run pins s1 σ H1 _ I1 want1) fun o' s2 got2 => ?_
  obtain ⟨x, H2, I2, r2, a, C, rfl, T, none_of, way⟩ := got2
  cases (show o' = Value.ref a from r2)
  rcases way with ⟨at', k⟩ | ⟨dx, fs, at', dict, few, k⟩
  · exact err_st1 T I2 at' none_of r1 fun dx s' fresh ne J => ⟨σ, _, J, k dx fresh ne⟩
  · exact err_st2 T I2 at' dict few none_of r1 fun s' J => ⟨σ, _, J, k⟩
end
/-- the base's initializer's promise: one field, upon an error of any class of the family -/
def spErr1 (K : PySem.W.Frag) (f0 : Str) : Sp := fun vs H Q _ => ∃ a C x, vs = [.ref a, x] ∧ H a = some (exo a C none) ∧ ErrC K C ∧ PySem.W.findIn K (.ref C) f0 = some none ∧
  ∀ d, H d = none → d ≠ a → Q .non (upd (upd H d (exd d [(f0, x)])) a (exo a C (some d)))
/-- what an initializer leaves: the fields told of what was handed in -/
def spErrF (C : Addr) (n : Nat) (fsf : List V → List (Str × V)) : Sp := fun vs H Q _ => ∃ a ws, vs = .ref a :: ws ∧ ws.length = n ∧ H a = some (exo a C none) ∧
  ∀ d H', H d = none → d ≠ a → H' a = some (exo a C (some d)) → H' d = some (exd d (fsf ws)) → (∀ b, b ≠ a → b ≠ d → H' b = H b) → Q .non H'
/-- such an error, made: it lies there as its dict alone -/
def tErr (C : Addr) (n : Nat) (fsf : List V → List (Str × V)) (ta : TA) : L2.St → Hp → XK → Prop := fun σ H Q => ta σ H fun vs H1 => vs.length = n ∧ vs.length ≤ 1000 ∧ ∀ d, H1 d = none → Q (.ref C) (some d) (upd H1 d (.xd (fsf vs)))
section
variable {X : Cx} {cls : Str} {n : Nat} {fsf : List V → List (Str × V)} {C fI : Addr} {k : Nat} {fd : FuncData} {ps : List Str}
/-- the class called with values -/
theorem mk_err (T : ErrC X.K C) (iC : PySem.W.findIn X.K (.ref C) "__init__" = some (some (.ref fI))) (tI : PySem.W.typeIn X.K (.ref fI) = some (.type "function"))
    (G : FnOk X.prog X.w X.K X.mg X.base CX0 k fI fd ps (spErrF C n fsf)) (room : Room (k + 1) X.A) (hb : Binds X.K fd ps []) {pins : List (Addr × Obj)} {σ : L2.St} {H1 : Hp} {s1 : Shared} {us : List Value} {vs : List V} {Q : XK}
    (I1 : Inv X pins σ H1 s1) (r1 : Vals vs us) (hn : vs.length = n) (hz : vs.length ≤ 1000) (k' : ∀ d, H1 d = none → Q (.ref C) (some d) (upd H1 d (.xd (fsf vs)))) :
    wpAny (model X.prog X.w) X.A (call (.ref C) us) (MkP X pins σ Q) X.xe s1 := by
  obtain ⟨nm, q, N, bs, bm, sn, sub, ab, col, dd, k0, k1, k2, k3, k5, isC, hbm⟩ := T.there
  obtain ⟨hp, g, dr, tk, os⟩ := s1
  -- the error's place
  generalize hA : hp.objs.size + 1 = a
  have above : hp.objs.size ≤ a := by omega
  have free : H1 a = none := I1.hok.fresh above
  have stays : ∀ b o, hp.get? b = some o → ((hp.push (PySem.W.kdv_tup us)).push (PySem.HandSPX.excO C hp.objs.size)).get? b = some o := fun b o z => Heap.get?_push_of_some _ (Heap.get?_push_of_some _ z)
  have lies : ((hp.push (PySem.W.kdv_tup us)).push (PySem.HandSPX.excO C hp.objs.size)).get? a = some (PySem.HandSPX.excO C hp.objs.size) := by
    rw [← hA]
    heap_get
  have I2 : Inv X pins σ (upd H1 a (exo a C none)) ⟨(hp.push (PySem.W.kdv_tup us)).push (PySem.HandSPX.excO C hp.objs.size), g, dr, tk, os⟩ := I1.laid (t' := tk) stays above (exo_ok lies)
  have r2 : Vals (V.ref a :: vs) (Value.ref a :: us) := .cons rfl r1
  have promise : spErrF C n fsf (V.ref a :: vs) (upd H1 a (exo a C none)) (fun v H2 => v = .non ∧ ∃ d, H1 d = none ∧ d ≠ a ∧ H2 a = some (exo a C (some d)) ∧ H2 d = some (exd d (fsf vs)) ∧ ∀ b, b ≠ a → b ≠ d → H2 b = H1 b) (fun _ _ _ => False) :=
    ⟨a, vs, rfl, hn, upd_same, fun d H' fresh ne e1 e2 e3 => ⟨rfl, d, by rw [upd_ne ne] at fresh; exact fresh, ne, e1, e2, fun b ba bd => (e3 b ba bd).trans (upd_ne ba)⟩⟩
  have count : (Value.ref a :: us).length = ps.length := by rw [← Paired.length r2]; exact G.len _ _ _ _ promise
  have few : us.length ≤ sizeLine := by rw [← Paired.length r1, sizeLine_eq]; omega
  have run := G.run (A := X.A.under (.builtin "type.__call__" ⟨Value.ref C :: us, []⟩)) X.stack _ _ ⟨Value.ref a :: us, []⟩ (Value.ref a :: us) _ _ (fun _ _ _ => False) (room.make C us []) (I2.env0.make C us [])
    (by have := hb _ (Value.ref a :: us) I2.kIn (by rw [List.append_nil]; exact count); rwa [List.append_nil] at this) r2 promise
  refine wpAny_call (PySem.HandSPX.call_own F.excBase_Exception (fun Y => PySem.W.excTail_contains Y bm hbm) (I1.kIn _ _ isC) (PySem.W.looks_findIn I1.kIn iC) (fun self => PySem.W.bind_fn I1.kIn self tI) few ?_)
  rw [hA]
  refine codeAny_mono run fun r s' out => ?_
  cases r with
  | error er => exact (show False from out).elim
  | ok fl =>
    cases fl with
    | next => exact False.elim out
    | brk => exact False.elim out
    | cont => exact False.elim out
    | ret u =>
      obtain ⟨v, H2, os2, bare2, un2, hok2, rv, rfl, d, fresh, ne, ea, ed, rest⟩ := out
      obtain ⟨h2, g2, d2, t2, os'⟩ := s'
      refine ⟨rv, mk_end (raises_own T.base T.meta') I1 above stays un2 hok2 os2 bare2 ea ed fresh ?_⟩
      have e2 : upd (del H2 a) d (.xd (fsf vs)) = upd H1 d (.xd (fsf vs)) := by
        funext b
        by_cases hd : b = d
        · subst hd; rw [upd_same, upd_same]
        · rw [upd_ne hd, upd_ne hd]
          by_cases hb' : b = a
          · subst hb'; rw [del_same, free]
          · rw [del_ne hb', rest b hb' hd]
      rw [e2]
      exact k' d fresh
theorem pmk_err {e : Expr} {es : List Expr} {ta : TA} {p pos : Pos} (T : ErrC X.K C) (iC : PySem.W.findIn X.K (.ref C) "__init__" = some (some (.ref fI))) (tI : PySem.W.typeIn X.K (.ref fI) = some (.type "function"))
    (G : FnOk X.prog X.w X.K X.mg X.base CX0 k fI fd ps (spErrF C n fsf)) (room : Room (k + 1) X.A) (hb : Binds X.K fd ps []) (hg : Gl X cls) (hm : X.mg cls = some (.ref C)) (ha : PA X (e :: es) ta)
    (hdb : (cls == ("__debug__" : Str)) = false := by decide) (he : starEach (e :: es) X.env = (false, eval e X.env) :: starEach es X.env := by rfl) (hpl : (backTo pos (starEach es X.env)).any (·.1) = false := by rfl) :
    PMk X (.Call (.Name cls p) (e :: es) [] pos) (tErr C n fsf ta) := by
  intro pins s σ H Q I want
  refine wpAny_Call_Name_kw (ld_glob I hg hm (PySem.W.callWith_K (h₀ := X.base) I.ok.mod.kin T.keep (thn (ha.run pos pins s σ H _ I want) fun us s1 got => ?_) he hpl) hdb)
  obtain ⟨vs, H1, I1, r1, hn, hz, k'⟩ := got
  exact ⟨I1.kIn, mk_err T iC tI G room hb I1 r1 hn hz k'⟩
theorem pmk_err0 {p pos : Pos} (T : ErrC X.K C) (iC : PySem.W.findIn X.K (.ref C) "__init__" = some (some (.ref fI))) (tI : PySem.W.typeIn X.K (.ref fI) = some (.type "function"))
    (G : FnOk X.prog X.w X.K X.mg X.base CX0 k fI fd ps (spErrF C n fsf)) (room : Room (k + 1) X.A) (hb : Binds X.K fd ps []) (hg : Gl X cls) (hm : X.mg cls = some (.ref C)) (hdb : (cls == ("__debug__" : Str)) = false := by decide) :
    PMk X (.Call (.Name cls p) [] [] pos) (tErr C n fsf tNil) := by
  intro pins s σ H Q I want
  obtain ⟨hn, hz, k'⟩ := want
  exact wpAny_Call_Name_kw (ld_glob I hg hm (PySem.W.callWith_K0 I.kIn T.keep (mk_err (us := []) (vs := []) T iC tI G room hb I .nil hn hz k')) hdb)
end
/-! Base.__init__(self, e) -/
structure BaseI (K : PySem.W.Frag) (mg : Str → Option Value) (x : Str) (R f : Addr) : Prop where
  at_ : mg x = some (.ref R)
  get : PySem.W.specialIn K (.ref R) "__getattribute__" = some (some (.builtin "type.__getattribute__"))
  rd : PySem.W.readsIn K R (.type "type") = true
  fn : PySem.W.findCls K (.ref R) (.type "type") "__init__" = some (.val (.ref f))
  kp : PySem.W.keepIn K (.ref f) = true
theorem pe_base {X : Cx} {CX : CXT} {k : Nat} {x : Str} {R f : Addr} {fd : FuncData} {ps : List Str} {sp : Sp} {E : XK} {e : Expr} {es : List Expr} {t : TA} {p1 p2 pos : Pos} {pl : Sem Bool} (B : BaseI X.K X.mg x R f) (G : FnOk X.prog X.w X.K X.mg X.base CX k f fd ps sp) (hb : Binds X.K fd ps []) (hr : Room k X.A) (hg : Gl X x) (hx : Passes CX X E) (ha : PA X (e :: es) t)
    (hc : eval (.Call (.Attribute (.Name x p1) "__init__" p2) (e :: es) [] pos) X.env = (do
      let ov ← eval (.Name x p1) X.env
      standAt p2.atName
      let (f, first) ← holding [ov] (getMethod ov "__init__" pl)
      callWith pos f first (backTo pos (starEach (e :: es) X.env)) (backToKw pos (keywordEach [] X.env))) := by rfl)
    (hdb : (x == ("__debug__" : Str)) = false := by decide) (he : starEach (e :: es) X.env = (false, eval e X.env) :: starEach es X.env := by rfl) (hpl : (backTo pos (starEach es X.env)).any (·.1) = false := by rfl) :
    PE X (.Call (.Attribute (.Name x p1) "__init__" p2) (e :: es) [] pos) (tCall sp [] E t) := by
  refine ⟨fun pins s σ H Q I h => ?_⟩
  refine PySem.W.methodCall_KW (pl := pl) (ld_glob I hg B.at_ ?_ hdb) hc
  refine PySem.W.method_cls I.kIn B.get (PySem.W.cls_value I.kIn B.rd B.fn rfl ?_)
  refine PySem.W.callWith_K (h₀ := X.base) (I.tok (s.toks + 1)).ok.mod.kin B.kp (thn (ha.run pos pins _ σ H _ (I.tok _) h) fun us s1 ⟨vs, H1, I1, r, q⟩ => ⟨I1.kIn, ?_⟩) he hpl
  exact run_fn G hr hb .nil hx I1 r q
end Bt

namespace Bt
open PySem PySem.Spec PyProof.Rows L2
/-! A list whose items may raise. -/
theorem note_same (e : Value) {env env' : Env} (h : env.frame = env'.frame) : noteFrame e env = noteFrame e env' := by
  unfold noteFrame PySem.frameOf
  rw [h]
theorem funFrames_but {C : Addr} {B h1 h2 : Heap} (k : ∀ b o, b ≠ C → h1.get? b = some o → h2.get? b = some o) : ∀ {l : List Env}, h1.FunFrames B l → (∀ L ∈ frs l, L ≠ C) → h2.FunFrames B l
  | [], _, _ => trivial
  | env :: l, h, hn => by
    obtain ⟨hk, ⟨L, o, hf, hb, ho, hd⟩, hr⟩ := h
    refine ⟨hk, ⟨L, o, hf, hb, k L o (hn L (List.mem_filterMap.mpr ⟨env, List.mem_cons_self, hf⟩)) ho, hd⟩, funFrames_but k hr fun b hm => ?_⟩
    obtain ⟨e', he', q⟩ := List.mem_filterMap.mp hm
    exact hn b (List.mem_filterMap.mpr ⟨e', List.mem_cons_of_mem _ he', q⟩)
section
variable {X : Cx} {W : WX} {E : XK} {pins pins' : List (Addr × Obj)} {σ σ' : L2.St} {H3 H5 : Hp} {s3 s5 s' : Shared} {scope : Scope} {ce : Env} {fp : List Addr} {xe : Value → Shared → Prop} {u : Value}
/-- what a def called within lets out, over the frames of the def around, goes on as the def's own -/
theorem comp_raise (hs : X.stack = X.env :: X.outer) (hf : X.env.frame = some X.env.locals) (tk : Takes X W) (hW : ∀ cls d σ H, E cls d H → W cls d σ H) (I3 : Inv X pins σ H3 s3)
    (cf : ce.frame = X.env.frame) (cl : ce.locals = s3.heap.objs.size) (f3 : ∀ b ∈ fp, FpOk X pins H3 b ∧ b < s3.heap.objs.size)
    (I5 : Inv ((X.blk s3 H3 scope ce fp).wish xe) pins' σ' H5 s5) (c : CX X.prog X.w X.stack H5 s5 E u s') :
    notedBy (model X.prog X.w) X.A ce (fun e s'' => PySem.CompFails (model X.prog X.w) X.A X.xe ce e s'') u s' := by
  obtain ⟨a, B, H', cls, d, rfl, fly, hok, ub, na, os, ag, want⟩ := c
  have hfr : X.A.frames = some (X.env :: X.outer) := by rw [I3.ok.frames, hs]
  -- the block's names: C
  obtain ⟨mC, atC, _⟩ := I5.loc
  have atC : s5.heap.Ns ce.locals mC := atC
  have freeC : H5 ce.locals = none := I5.free
  have Cold : ∀ {b : Addr} {o : Obj}, s3.heap.get? b = some o → b ≠ ce.locals := fun {b o} z => by rw [cl]; exact Nat.ne_of_lt (Heap.lt_size z)
  have Cfr : ce.locals ∉ frs X.stack := fun hm => by
    obtain ⟨_, o, z, _⟩ := I3.stack.mem hm
    exact Cold z rfl
  have BC : B.Ns ce.locals mC := by
    obtain ⟨o, es, ep, z, r⟩ := atC
    exact ⟨o, es, ep, ub.keep _ o z freeC Cfr, r⟩
  -- the ground without C
  obtain ⟨B', b1, b2⟩ := restrict B fun b => decide (b ≠ ce.locals)
  have B'B : ∀ b o, B'.get? b = some o → B.get? b = some o ∧ b ≠ ce.locals := fun b o z => by
    by_cases hb : b = ce.locals
    · rw [b2 b (by simp [hb])] at z; cases z
    · rw [b1 b (by simp [hb])] at z; exact ⟨z, hb⟩
  have BB' : ∀ b o, b ≠ ce.locals → B.get? b = some o → B'.get? b = some o := fun b o hb z => by rw [b1 b (by simp [hb])]; exact z
  have B'none : ∀ b, B.get? b = none → B'.get? b = none := fun b z => by
    cases q : B'.get? b with
    | none => rfl
    | some o => rw [(B'B b o q).1] at z; cases z
  have frB : ∀ L ∈ frs X.stack, B.get? L = none := fun L hL => (fly.2.2.1.mem (by rw [hs] at hL ⊢; exact hL)).1
  show wpAny _ _ (noteFrame (.ref a) ce) _ _ _
  rw [note_same _ cf]
  rw [hs] at fly
  refine HandSPX.looks_onZ Zc.steady hfr hf fly fun h1 held up1 => ?_
  have nsC1 : h1.Ns ce.locals mC := BC.keeps fun b o z => held.1 b o z
  refine ⟨mC, nsC1, fun h2 m2 nsC2 but => ?_⟩
  -- the names are gone: all else stands
  obtain ⟨stay1, Bn, fun1, oe, vs, T, oT, ts, he, hz, hd, hv, hT, hTe, hTg, hTd, hfl⟩ := held
  have notC : ∀ {b : Addr} {o : Obj} {vs : Array Value}, h1.get? b = some o → o.data = .fields vs → b ≠ ce.locals := fun {b o vs} z hd' y => by
    obtain ⟨o2, es, ep, z2, d2, _⟩ := nsC1
    rw [y] at z; rw [z] at z2; cases z2
    rw [hd'] at d2; cases d2
  have k12 : ∀ b o, b ≠ ce.locals → h1.get? b = some o → h2.get? b = some o := fun b o hb z => (but.2 b hb).trans z
  have held2 : HandSPX.HeldZ B' (X.env :: X.outer) a (Zc cls d) X.env.locals h2 := by
    refine ⟨fun b o z => ?_, B'none a Bn, ?_, oe, vs, T, oT, ts, k12 _ _ (notC he hd) he, hz, hd, hv, B'none T hT, hTe, k12 _ _ (notC hTg hTd) hTg, hTd, hfl⟩
    · obtain ⟨z1, hb⟩ := B'B b o z
      exact k12 b o hb (stay1 b o z1)
    · have fB' : h1.FunFrames B' (X.env :: X.outer) := funFrames_none fun1 fun L hL => B'none L (frB L (by rw [hs]; exact hL))
      exact funFrames_but k12 fB' fun L hL z => Cfr (by rw [hs, ← z]; exact hL)
  unfold PySem.passOn
  refine wpAny_bind (wpAny_field (k12 _ _ (notC he hd) he) hd hv ?_)
  rw [if_neg (show ¬ ((Value.ref T == Value.none) = true) by simp)]
  have go : wpAny (model X.prog X.w) X.A (setFlight (.ref a) ce.frame) (fun _ s4 => wpAny (model X.prog X.w) X.A (throw (.ref a) : Sem Value) (fun _ _ => False) X.xe s4) X.xe { s' with heap := h2 } := by
    rw [cf, hf]
    refine HandSPX.setFlight_onZ held2 fun h3 held3 up3 => wpAny_throw (tk _ _ ?_)
    -- the state without the error: its ground and the frames
    obtain ⟨G, g1, g2⟩ := restrict h3 fun b => (B'.get? b).isSome || decide (b ∈ frs X.stack)
    have gB : ∀ b o, B'.get? b = some o → G.get? b = some o := fun b o z => by
      rw [g1 b (by simp [z])]
      exact held3.1 b o z
    have og : ∀ b o, G.get? b = some o → h3.get? b = some o ∧ ((B'.get? b).isSome = true ∨ b ∈ frs X.stack) := fun b o z => by
      cases q : ((B'.get? b).isSome || decide (b ∈ frs X.stack)) with
      | false => rw [g2 b q] at z; cases z
      | true => rw [g1 b q] at z; exact ⟨z, by simpa [Bool.or_eq_true] using q⟩
    -- the frames, from the start to here
    have toG : ∀ b o, s3.heap.get? b = some o → b ∈ frs X.stack → ∃ sl, G.get? b = some { o with slots := sl } := fun b o z hb => by
      obtain ⟨_, o0, z0, nf⟩ := I3.stack.mem hb
      rw [z] at z0; cases z0
      obtain ⟨sl5, z5⟩ := I5.base.slot b o z (I3.stkFree b hb) hb (fun hx => by
        obtain ⟨_, o1, z1, nf1⟩ := I3.stack.mem hb
        exact (I5.ok.exfs b hx) hb)
      obtain ⟨sl6, z6⟩ := ub.slot b _ z5 hb
      obtain ⟨sl7, z7⟩ := up1 b _ z6 nf
      have z8 := k12 b _ (Cold z) z7
      obtain ⟨sl9, z9⟩ := up3 b _ z8 nf
      exact ⟨sl9, by rw [g1 b (by simp [hb])]; exact z9⟩
    have hokB' : HOk X.prog X.w H' B' := fun b o z => by
      have hbC : b ≠ ce.locals := fun y => by
        have f := ub.free ce.locals
        obtain ⟨o2, es, ep, z2, r⟩ := atC
        rw [y, ub.free _ o2 z2 freeC] at z; cases z
      refine (hok b o z).stay (fun c v hc q => BB' c v ?_ q) (fun _ q => q) fun _ _ q => q
      rcases hc with rfl | hc
      · exact hbC
      · rintro rfl
        obtain ⟨o2, es, ep, z2, r⟩ := atC
        rw [ub.free _ o2 z2 freeC] at hc; cases hc
    have fpn : ∀ b o, s3.heap.get? b = some o → H3 b = none → b ∉ fp → H5 b = none := fun b o z n hb => I5.base.free b o z n hb
    refine ⟨a, B', { s3 with heap := G, gens := s'.gens, drawn := s'.drawn, toks := s'.toks }, pins, σ, H', cls, d, rfl, ?_, fun b o z hb => ?_, Heap.UpToSlots.of_keeps fun b o z => (og b o z).1, ?_, na, ?_, ag, hW _ _ _ _ want⟩
    · refine I3.call (ch := fp) ⟨fun b o z n hb hx => gB b o (BB' b o (Cold z) (ub.keep b o (I5.base.keep b o z n hb hx) (I5.base.free b o z n hx) hb)), fun b o z n hb hx => toG b o z hb, fun b o z n hx => ?_, fun b o z hx => ?_, fun b xs z => ub.tups b xs (I5.base.tups b xs z), fun b o' xs z => ub.frzs b o' xs (I5.base.frzs b o' xs z), fun b ps z => ?_⟩ (hokB'.kept gB) ag (fun b hb => ⟨(f3 b hb).1.2.2.2.1, (f3 b hb).1.2.1, (f3 b hb).1.2.2.2.2.1, (f3 b hb).1.2.2.2.2.2⟩)
      · obtain ⟨o5, z5⟩ := I5.base.there b o z hx
        exact ub.free b o5 z5 (I5.base.free b o z n hx)
      · by_cases hb : b ∈ frs X.stack
        · obtain ⟨sl, q⟩ := toG b o z hb
          exact ⟨_, q⟩
        · obtain ⟨o5, z5⟩ := I5.base.there b o z hx
          obtain ⟨o6, z6⟩ := ub.there b o5 z5 hb
          exact ⟨o6, gB b o6 (BB' b o6 (Cold z) z6)⟩
      · obtain ⟨m1, e1⟩ := I5.base.tbls b ps z
        obtain ⟨m2, e2⟩ := ub.tbls b _ e1
        exact ⟨m1 ++ m2, by rw [e2, Array.append_assoc]⟩
    · obtain ⟨z', hh⟩ := og b o z
      rcases hh with hh | hh
      · obtain ⟨o', q⟩ := Option.isSome_iff_exists.mp hh
        have := held3.1 b o' q
        rw [z'] at this; cases this
        exact q
      · exact absurd hh hb
    · rw [hs]; exact .inr (.inr held3)
    · exact os.trans I5.os
  first
    | exact wpAny_bind (wpAny_pure (wpAny_bind go))
    | exact wpAny_bind go
end

section
variable {X : Cx} {W : WX} {E : XK}
/-- the parts of such a list, told of X: its target and tests raise nothing, its items what E lets -/
structure LcParts (X : Cx) (E : XK) (scope : Scope) (tg : Expr) (ifs : List Expr) (elt : Expr) (g : TG) (tt : TT) (te : TE) : Prop where
  tgt : ∀ (s : Shared) (H : Hp) (C : Addr) (cl : List (Str × Addr)) (fp : List Addr), PG (X.blk s H scope (compEnvC scope cl C X.env) fp) tg g
  tst : ∀ (s : Shared) (H : Hp) (C : Addr) (cl : List (Str × Addr)) (fp : List Addr), PTs (X.blk s H scope (compEnvC scope cl C X.env) fp) ifs tt
  item : ∀ (s : Shared) (H : Hp) (C : Addr) (cl : List (Str × Addr)) (fp : List Addr) (xe : Value → Shared → Prop), Passes (L2.CX X.prog X.w) ((X.blk s H scope (compEnvC scope cl C X.env) fp).wish xe) E →
    PE ((X.blk s H scope (compEnvC scope cl C X.env) fp).wish xe) elt te
theorem lcX_core {pins : List (Addr × Obj)} {s : Shared} {σ : L2.St} {H : Hp} {Q : VK} {elt tg iter : Expr} {ifs : List Expr} {scope : Scope} {own : List (Str × Nat)} {pos pos' : Pos} {wi : TI} {g : TG} {tt : TT} {te : TE} {use : Option (Value → Sem Unit)} {Qf : Value → Shared → Prop}
    (hs : X.stack = X.env :: X.outer) (hf : X.env.frame = some X.env.locals) (tk : Takes X W) (hW : ∀ cls d σ H, E cls d H → W cls d σ H) (calm : X.calm = true) (nd : X.N.Nodup) (I : Inv X pins σ H s) (src : PI X tg iter wi) (ok : BlkOk X.N X.env.scope scope own)
    (parts : LcParts X E scope tg ifs elt g tt te) (plain : ∀ x, foldedSetIterable iter X.env x = pure x) (want : tLc wi g tt te (own.map (·.2)) σ H Q)
    (fin : ∀ D C cenv s' m H', cenv.locals = C → Inv X pins σ H' s' → Q (.ref D) H' → s'.heap.Ns C m → FpOk X pins H' C → PySem.compEnds (model X.prog X.w) X.A X.xe use Qf (.ref D) cenv (.ok .next) s') :
    wpAny (model X.prog X.w) X.A (comprehension (.ListComp elt [⟨tg, iter, ifs, 0⟩] scope pos) scope X.env pos' (newList []) false (eval iter X.env) use) Qf X.xe s := by
  have bound : ∀ y ∈ scope.names, y.2 = .free → ∃ c, X.env.cells.lookup y.1 = some c := fun y hy e => I.ok.has _ (ok.free y hy e)
  refine PySem.comprehension_at (use := use) rfl plain (closure_ok bound) ok.kind (fun y hy e => (ok.uniq y hy).trans (by rw [e])) ?_
  refine thn (src.run pins s σ H _ I want) fun xv s1 got1 => thn got1 fun itv s2 got2 => ?_
  obtain ⟨it, fp, tn, J, H2, rfl, I2, T, st2, f2, q⟩ := got2
  refine wpAny_newObj_type (newEnv_comp ?_) (Nat.zero_le _)
  generalize hD : s2.heap.objs.size = D
  obtain ⟨inv, ⟨m0, w0⟩, turn⟩ := q D (I2.hok.fresh (Nat.le_of_eq hD))
  generalize hs3 : ({ s2 with heap := s2.heap.push { cls := .type "list", data := .seq ([] : List Value).toArray } } : Shared) = s3
  have heap3 : s3.heap = s2.heap.push { cls := .type "list", data := .seq ([] : List Value).toArray } := by rw [← hs3]
  have I3 : Inv X pins σ (upd H2 D (.lst [])) s3 := by
    rw [← hs3]
    exact I2.laid (t' := s2.toks) (fun _ _ z => Heap.get?_push_of_some _ z) (Nat.le_of_eq hD) ⟨Nat.zero_le _, [], 0, .nil, by rw [← hD]; exact Heap.get?_push_size _ rfl⟩
  have f3 : ∀ b ∈ fp, FpOk X pins (upd H2 D (.lst [])) b ∧ b < s3.heap.objs.size := fun b hb => by
    obtain ⟨o, z, _⟩ := T.obj _ _ st2 b hb
    have lt := Heap.lt_size z
    exact ⟨⟨by rw [upd_ne (show b ≠ D from hD ▸ Nat.ne_of_lt lt)]; exact (f2 b hb).1, (f2 b hb).2⟩, by rw [heap3, Heap.size_push]; exact Nat.lt_succ_of_lt lt⟩
  have st3 : tn 0 s3.heap := T.keep _ _ _ st2 fun b _ o z => by rw [heap3]; exact Heap.get?_push_of_some _ z
  have I4 := block_start I3 ok nd f3
  have tgt := parts.tgt s3 (upd H2 D (.lst [])) s3.heap.objs.size (cellsFrom (s3.heap.objs.size + 1) scope.names (cloFrom X.env.cells scope.names [])) fp
  have tst := parts.tst s3 (upd H2 D (.lst [])) s3.heap.objs.size (cellsFrom (s3.heap.objs.size + 1) scope.names (cloFrom X.env.cells scope.names [])) fp
  have item := parts.item s3 (upd H2 D (.lst [])) s3.heap.objs.size (cellsFrom (s3.heap.objs.size + 1) scope.names (cloFrom X.env.cells scope.names [])) fp
  show codeAny _ _ (.compStart (.ListComp elt [⟨tg, iter, ifs, 0⟩] scope pos) 0 (.ref it) (.ref D) (compEnvC scope (cellsFrom (s3.heap.objs.size + 1) scope.names (cloFrom X.env.cells scope.names [])) s3.heap.objs.size X.env)) (PySem.compEnds (model X.prog X.w) X.A X.xe use Qf (.ref D) (compEnvC scope (cellsFrom (s3.heap.objs.size + 1) scope.names (cloFrom X.env.cells scope.names [])) s3.heap.objs.size X.env)) { s3 with heap := pushCells (s3.heap.push { cls := .type "dict", data := .dict #[] }) scope.names }
  generalize hce : compEnvC scope (cellsFrom (s3.heap.objs.size + 1) scope.names (cloFrom X.env.cells scope.names [])) s3.heap.objs.size X.env = ce at I4 tgt tst item ⊢
  have cl : ce.locals = s3.heap.objs.size := by rw [← hce]; rfl
  have cf : ce.frame = X.env.frame := by rw [← hce]; rfl
  have nfp : ∀ b ∈ fp, (upd H2 D (.lst [])) b = none := fun b hb => (f3 b hb).1.1
  generalize upd H2 D (.lst []) = H3 at I3 I4 tgt tst item w0 nfp f3
  generalize hs4 : ({ s3 with heap := pushCells (s3.heap.push { cls := .type "dict", data := .dict #[] }) scope.names } : Shared) = s4 at I4 ⊢
  have st4 : tn 0 s4.heap := T.keep _ _ _ st3 fun b _ o z => by rw [← hs4]; exact pushCells_keeps _ _ _ _ (Heap.get?_push_of_some _ z)
  -- the wish about what an item raises
  have item := item (fun e s' => notedBy (model X.prog X.w) X.A ce (fun e s'' => PySem.CompFails (model X.prog X.w) X.A X.xe ce e s'') e s') fun pins' σ' H5 s5 e s' I5 c => comp_raise hs hf tk hW I3 cf cl f3 I5 c
  have stat : ∀ {σ' : L2.St} {H' : Hp} {s' : Shared}, Inv (X.blk s3 H3 scope ce fp) [] σ' H' s' → (∀ b ∈ fp, H' b = none) → ∀ b ∈ fp, FpOk (X.blk s3 H3 scope ce fp) [] H' b := fun {σ' H' s'} I' hn b hb =>
    ⟨hn b hb, (I'.ok.exf b hb).1, I'.ok.exfs b hb, .inl hb, fun x c e => (I'.ok.exf b hb).2 x c e, fun p hp => absurd (show p ∈ ([] : List (Addr × Obj)) ++ [] from hp) (by simp)⟩
  have loop : codeAny (model X.prog X.w) X.A (.compLoop (.ListComp elt [⟨tg, iter, ifs, 0⟩] scope pos) 0 (.ref it) (.ref D) ce) (PySem.compEnds (model X.prog X.w) X.A X.xe use Qf (.ref D) ce) s4 := by
    have toR : ∀ e s', notedBy (model X.prog X.w) X.A ce (fun e s'' => PySem.CompFails (model X.prog X.w) X.A X.xe ce e s'') e s' → notedBy (model X.prog X.w) X.A ce (fun e s' => PySem.compEnds (model X.prog X.w) X.A X.xe use Qf (.ref D) ce (.error e) s') e s' := fun e s' z => by cases use <;> exact z
    refine compLoop_any (fun n s' => ∃ i H', Inv (X.blk s3 H3 scope ce fp) [] (wipe σ (own.map (·.2))) H' s' ∧ tn i s'.heap ∧ (∀ b ∈ fp, H' b = none) ∧ inv i n H') ?_ m0 ⟨0, H3, I4, st4, nfp, w0⟩
    rintro n s5 ⟨i, H5, I5, st5, n5, w5⟩
    rcases turn i n H5 w5 with ⟨stop, qq⟩ | ⟨go, next, hnext, step⟩
    · refine thnF (T.done (X.blk s3 H3 scope ce fp) rfl rfl rfl calm i [] s5 _ H5 (fun _ _ => False) I5 (stat I5 n5) st5 stop) fun r s6 end6 => ?_
      obtain ⟨rfl, I6⟩ := end6
      have I7 : Inv X pins σ H5 s6 := I3.call' (ch := fp) I6.os I6.base I6.hok I6.bare fun b hb => ⟨(f3 b hb).1.2.2.2.1, (f3 b hb).1.2.1, (f3 b hb).1.2.2.2.2.1, (f3 b hb).1.2.2.2.2.2⟩
      have nC : H5 s3.heap.objs.size = none := cl ▸ (show H5 ce.locals = none from I6.free)
      obtain ⟨m, hn, _⟩ := I6.loc
      have hn : s6.heap.Ns s3.heap.objs.size m := cl ▸ (show s6.heap.Ns ce.locals m from hn)
      exact fin D s3.heap.objs.size ce s6 m H5 cl I7 qq hn (I3.fpOk (Nat.le_refl _) nC)
    · refine thnF (T.item (X.blk s3 H3 scope ce fp) rfl rfl rfl calm i [] s5 _ H5 (fun _ _ => False) I5 (stat I5 n5) st5 go) fun r s6 got6 => ?_
      obtain ⟨u, rfl, h6⟩ := got6
      refine thnF h6 fun _ s7 got7 => ?_
      obtain ⟨x, H7, I7, r7, y7, st7, n7⟩ := got7
      have I7' := I7.pinned (stat I7 n7) (T.obj _ _ st7)
      refine thnF (tgt.run _ s7 _ H7 x u _ I7' r7 (step x H7 y7)) fun _ s8 got8 => ?_
      obtain ⟨σ8, H8, I8, hw8, q8⟩ := got8
      refine thnF (tst.run _ s8 σ8 H8 _ I8 q8) fun b s9 got9 => ?_
      obtain ⟨H9, I9, q9⟩ := got9
      have back : ∀ {s' : Shared} {H' : Hp}, Inv (X.blk s3 H3 scope ce fp) ([] ++ pinsAt fp s7.heap) σ8 H' s' → next H' → ∃ m, m < n ∧ ∃ i H', Inv (X.blk s3 H3 scope ce fp) [] (wipe σ (own.map (·.2))) H' s' ∧ tn i s'.heap ∧ (∀ b ∈ fp, H' b = none) ∧ inv i m H' := fun {s' H'} I' nx => by
        obtain ⟨m', hm, w'⟩ := hnext H' nx
        have pinned : ∀ b ∈ fp, ∀ o, s7.heap.get? b = some o → s'.heap.get? b = some o ∧ H' b = none := fun b hb o z =>
          ⟨(I'.pin (b, o) (List.mem_append_right _ (List.mem_append_right _ (mem_pinsAt hb z)))).1, (I'.pin (b, o) (List.mem_append_right _ (List.mem_append_right _ (mem_pinsAt hb z)))).2.1⟩
        refine ⟨m', hm, i + 1, H', (I'.unpinned (pins := [])).weak (by rw [← hw8, wipe_length]) (fun j v z => ?_), T.keep _ _ _ st7 fun b hb o z => (pinned b hb o z).1, fun b hb => ?_, w'⟩
        · rw [← hw8] at z
          exact (wipe_some z).1
        · obtain ⟨o, z, _⟩ := T.obj _ _ st7 b hb
          exact (pinned b hb o z).2
      cases b with
      | false =>
        simp only [Bool.false_eq_true, if_false] at q9 ⊢
        exact back I9 q9
      | true =>
        simp only [if_true] at q9 ⊢
        refine wpAny_mono (item.run _ s9 σ8 H9 _ (I9.wish _) q9) (fun z s10 got10 => ?_) toR
        obtain ⟨yv, H10, I10, r10, acc, hD10, hz10, nx⟩ := got10
        exact app_ok (X := X.blk s3 H3 scope ce fp) I10.unwish hD10 hz10 r10 fun s11 I11 => back I11 nx
  exact codeAny_compStart_list loop (T.self X.A 0 _ _ _ st4 loop)
variable {elt tg iter : Expr} {ifs : List Expr} {scope : Scope} {own : List (Str × Nat)} {pos : Pos} {wi : TI} {g : TG} {tt : TT} {te : TE}
theorem pe_lcX (hs : X.stack = X.env :: X.outer) (hf : X.env.frame = some X.env.locals) (tk : Takes X W) (hW : ∀ cls d σ H, E cls d H → W cls d σ H) (calm : X.calm = true) (nd : X.N.Nodup) (src : PI X tg iter wi) (ok : BlkOk X.N X.env.scope scope own)
    (parts : LcParts X E scope tg ifs elt g tt te) (plain : ∀ x, foldedSetIterable iter X.env x = pure x := by intro _; rfl) : PE X (.ListComp elt [⟨tg, iter, ifs, 0⟩] scope pos) (tLc wi g tt te (own.map (·.2))) := by
  constructor
  intro pins s σ H Q I want
  rw [eval_ListComp]
  refine lcX_core hs hf tk hW calm nd I src ok parts plain want fun D C cenv s' m H' hC I' q hn f => ?_
  refine ⟨m, by rw [hC]; exact hn, fun h'' sb => ?_⟩
  rw [hC] at sb
  exact ⟨.ref D, H', I'.turned (t' := s'.toks) (fun b o hb z => (sb.2 b hb).trans z) f.1 f.2.1 f.2.2.2.1 f.2.2.2.2.1 f.2.2.2.2.2, rfl, q⟩
theorem ps_setLcX {i : Nat} {y : Str} {py spos : Pos} (hs : X.stack = X.env :: X.outer) (hf : X.env.frame = some X.env.locals) (tk : Takes X W) (hW : ∀ cls d σ H, E cls d H → W cls d σ H) (calm : X.calm = true) (nd : X.N.Nodup) (hy : X.N[i]? = some y) (hyl : X.env.scope.names.lookup y = some .local)
    (hsw : swapsWith (.ListComp elt [⟨tg, iter, ifs, 0⟩] scope pos) (some (.Name y py)) spos.line X.env = pure true) (src : PI X tg iter wi) (ok : BlkOk X.N X.env.scope scope own)
    (parts : LcParts X E scope tg ifs elt g tt te) (plain : ∀ x, foldedSetIterable iter X.env x = pure x := by intro _; rfl) :
    PS X (.Assign [.Name y py] (.ListComp elt [⟨tg, iter, ifs, 0⟩] scope pos) spos) (tAsg (tLc wi g tt te (own.map (·.2))) (gName i)) := by
  constructor
  intro pins s σ H D I want
  rw [exec_Assign_Name_used _ _ _ _ hsw]
  refine wpAny_bind (wpAny_standAt (wpAny_bind ?_))
  have want : tLc wi g tt te (own.map (·.2)) σ H (fun x H1 => gName i x σ H1 D.nx) := want
  show wpAny _ X.A (do let _ ← comprehension (.ListComp elt [⟨tg, iter, ifs, 0⟩] scope pos) scope X.env (firstIterPos [⟨tg, iter, ifs, 0⟩] pos) (newList []) false (eval iter X.env) (some (assign (.Name y py) X.env))) _ _ s
  refine wpAny_bind (thn (lcX_core (Qf := fun _ s' => SP X pins D .next s') hs hf tk hW calm nd I src ok parts plain want fun L C cenv s' m H' hC I' q hn f => ?_) fun _ s' hq => wpAny_pure (wpAny_pure hq))
  show wpAny _ _ (assign (.Name y py) X.env (.ref L)) _ _ _
  refine wpAny_assign_Name (store_ok2 (v := V.ref L) I' nd hy (.inl hyl) rfl (fun s2 I2 wh => ?_) (.inr hyl))
  obtain ⟨a, sb, ha⟩ := wh
  have neC : C ≠ a := by
    rcases ha with z | z
    · rw [z]; exact f.2.1
    · exact fun e => f.2.2.2.2.1 y a z e.symm
  refine ⟨m, by rw [hC]; exact hn.sameBut sb neC, fun h3 sb3 => ?_⟩
  rw [hC] at sb3
  exact ⟨_, H', I2.turned (t' := s2.toks) (fun b o hb z => (sb3.2 b hb).trans z) f.1 f.2.1 f.2.2.2.1 f.2.2.2.2.1 f.2.2.2.2.2, q⟩
end
end Bt

namespace Bt
open PySem PySem.Spec PyProof.Rows L2
/-! own words over the layer: classes, errors -/
section
variable {P : Program} {w : World} {K : PySem.W.Frag} {mg : Str → Option Value} {base : Heap}
theorem own_okX {x : Str} {st : Stmt} {N ps : List Str} {k : Nat} {sp : Sp} (D : Dn K mg x st ps) (S : FnScope N ps (defScope st)) (len : ∀ vs H Q E, sp vs H Q E → vs.length = ps.length)
    (hbody : ∀ (f : Addr) (cdv : Value) (A : Around) (outer : List Env) (s : Shared) (H : Hp) (vs : List V) (Q : VK) (E : XK), Room k (A.deeper (envOfC x (defScope st) s.heap.objs.size f cdv)) → sp vs H Q E →
      ∃ t, PSs (cxOf (L2.CX P w) P w K mg base N x (defScope st) f cdv A outer s H E) (defBody st) t ∧ t { nx := fun _ H' => Q .non H', rt := Q } (start N vs) H) : OwnOk P w K mg base (L2.CX P w) (k + 1) x ps sp := by
  obtain ⟨f, fd, hm, F, hb⟩ := D.ex
  exact ⟨f, fd, hm, F.kp, hb, F.okX S len (hbody f)⟩
/-- a method of the class at C -/
structure OwnM (P : Program) (w : World) (K : PySem.W.Frag) (mg : Str → Option Value) (base : Heap) (CX : CXT) (k : Nat) (C : Addr) (m : Str) (ps : List Str) (sp : Sp) : Prop where
  cls : Cls K C
  ex : ∃ f fd, Meth K C m f ∧ Binds K fd ps [] ∧ FnOk P w K mg base CX k f fd ps sp
/-- .. at its place -/
structure DnM (K : PySem.W.Frag) (C : Addr) (m qual : Str) (st : Stmt) (ps : List Str) : Prop where
  cls : Cls K C
  ex : ∃ f fd, Meth K C m f ∧ Fun K m qual st f fd ∧ Binds K fd ps []
theorem mth_ok {C : Addr} {m qual : Str} {st : Stmt} {N ps : List Str} {k : Nat} {sp : Sp} (D : DnM K C m qual st ps) (S : FnScope N ps (defScope st)) (len : ∀ vs H Q E, sp vs H Q E → vs.length = ps.length)
    (hbody : ∀ (f : Addr) (cdv : Value) (A : Around) (outer : List Env) (s : Shared) (H : Hp) (vs : List V) (Q : VK) (E : XK), Room k (A.deeper (envOfC qual (defScope st) s.heap.objs.size f cdv)) → sp vs H Q E →
      ∃ t, PSs (cxOf CX0 P w K mg base N qual (defScope st) f cdv A outer s H E).nox (defBody st) t ∧ t { nx := fun _ H' => Q .non H', rt := Q } (start N vs) H) : OwnM P w K mg base CX0 (k + 1) C m ps sp := by
  obtain ⟨f, fd, hm, F, hb⟩ := D.ex
  exact ⟨D.cls, f, fd, hm, hb, F.ok S len (hbody f)⟩
theorem mth_okX {C : Addr} {m qual : Str} {st : Stmt} {N ps : List Str} {k : Nat} {sp : Sp} (D : DnM K C m qual st ps) (S : FnScope N ps (defScope st)) (len : ∀ vs H Q E, sp vs H Q E → vs.length = ps.length)
    (hbody : ∀ (f : Addr) (cdv : Value) (A : Around) (outer : List Env) (s : Shared) (H : Hp) (vs : List V) (Q : VK) (E : XK), Room k (A.deeper (envOfC qual (defScope st) s.heap.objs.size f cdv)) → sp vs H Q E →
      ∃ t, PSs (cxOf (L2.CX P w) P w K mg base N qual (defScope st) f cdv A outer s H E) (defBody st) t ∧ t { nx := fun _ H' => Q .non H', rt := Q } (start N vs) H) : OwnM P w K mg base (L2.CX P w) (k + 1) C m ps sp := by
  obtain ⟨f, fd, hm, F, hb⟩ := D.ex
  exact ⟨D.cls, f, fd, hm, hb, F.okX S len (hbody f)⟩
/-- a class that makes instances: its initializer -/
structure DnI (K : PySem.W.Frag) (mg : Str → Option Value) (x qual : Str) (C : Addr) (st : Stmt) (ps : List Str) : Prop where
  cls : Cls K C
  at_ : mg x = some (.ref C)
  ex : ∃ f fd, Mk K C f ∧ Fun K "__init__" qual st f fd ∧ Binds K fd ps []
structure OwnI (P : Program) (w : World) (K : PySem.W.Frag) (mg : Str → Option Value) (base : Heap) (CX : CXT) (k : Nat) (x : Str) (C : Addr) (ps : List Str) (sp : Sp) : Prop where
  at_ : mg x = some (.ref C)
  ex : ∃ f fd, Mk K C f ∧ Binds K fd ps [] ∧ FnOk P w K mg base CX k f fd ps sp
theorem ini_ok {x qual : Str} {C : Addr} {st : Stmt} {N ps : List Str} {k : Nat} {sp : Sp} (D : DnI K mg x qual C st ps) (S : FnScope N ps (defScope st)) (len : ∀ vs H Q E, sp vs H Q E → vs.length = ps.length)
    (hbody : ∀ (f : Addr) (cdv : Value) (A : Around) (outer : List Env) (s : Shared) (H : Hp) (vs : List V) (Q : VK) (E : XK), Room k (A.deeper (envOfC qual (defScope st) s.heap.objs.size f cdv)) → sp vs H Q E →
      ∃ t, PSs (cxOf CX0 P w K mg base N qual (defScope st) f cdv A outer s H E).nox (defBody st) t ∧ t { nx := fun _ H' => Q .non H', rt := Q } (start N vs) H) : OwnI P w K mg base CX0 (k + 1) x C ps sp := by
  obtain ⟨f, fd, hm, F, hb⟩ := D.ex
  exact ⟨D.at_, f, fd, hm, hb, F.ok S len (hbody f)⟩
/-- an own error -/
structure DnX (K : PySem.W.Frag) (mg : Str → Option Value) (x qual : Str) (C : Addr) (st : Stmt) (ps : List Str) : Prop where
  err : ErrC K C
  at_ : mg x = some (.ref C)
  ex : ∃ f fd, PySem.W.findIn K (.ref C) "__init__" = some (some (.ref f)) ∧ PySem.W.typeIn K (.ref f) = some (.type "function") ∧ Fun K "__init__" qual st f fd ∧ Binds K fd ps []
/-- the fields of the reader's error, by what it is made of -/
def neF : List V → List (Str × V)
  | [x, y] => [("position", y), ("kind", x), ("code", .int (-20))]
  | _ => []
/-- the one field of an error made of nothing -/
def cdF (c : Int) : List V → List (Str × V) := fun _ => [("code", .int c)]
structure OwnX (P : Program) (w : World) (K : PySem.W.Frag) (mg : Str → Option Value) (base : Heap) (k : Nat) (x : Str) (C : Addr) (n : Nat) (fsf : List V → List (Str × V)) (ps : List Str) : Prop where
  err : ErrC K C
  at_ : mg x = some (.ref C)
  ex : ∃ f fd, PySem.W.findIn K (.ref C) "__init__" = some (some (.ref f)) ∧ PySem.W.typeIn K (.ref f) = some (.type "function") ∧ Binds K fd ps [] ∧ FnOk P w K mg base CX0 k f fd ps (spErrF C n fsf)
theorem err_ok {x qual : Str} {C : Addr} {st : Stmt} {N ps : List Str} {k n : Nat} {fsf : List V → List (Str × V)} (D : DnX K mg x qual C st ps) (S : FnScope N ps (defScope st)) (len : ps.length = n + 1)
    (hbody : ∀ (f : Addr) (cdv : Value) (A : Around) (outer : List Env) (s : Shared) (H : Hp) (vs : List V) (Q : VK) (E : XK), Room k (A.deeper (envOfC qual (defScope st) s.heap.objs.size f cdv)) → spErrF C n fsf vs H Q E →
      ∃ t, PSs (cxOf CX0 P w K mg base N qual (defScope st) f cdv A outer s H E).nox (defBody st) t ∧ t { nx := fun _ H' => Q .non H', rt := Q } (start N vs) H) : OwnX P w K mg base (k + 1) x C n fsf ps := by
  obtain ⟨f, fd, hi, ht, F, hb⟩ := D.ex
  exact ⟨D.err, D.at_, f, fd, hi, ht, hb, F.ok S (fun vs H Q E h => by obtain ⟨a, ws, rfl, hn, _⟩ := h; rw [List.length_cons, hn, len]) (hbody f)⟩
/-- the base's initializer -/
structure DnB (K : PySem.W.Frag) (mg : Str → Option Value) (x qual : Str) (st : Stmt) (ps : List Str) : Prop where
  ex : ∃ R f fd, BaseI K mg x R f ∧ Fun K "__init__" qual st f fd ∧ Binds K fd ps []
structure OwnB (P : Program) (w : World) (K : PySem.W.Frag) (mg : Str → Option Value) (base : Heap) (k : Nat) (x : Str) (ps : List Str) (f0 : Str) : Prop where
  ex : ∃ R f fd, BaseI K mg x R f ∧ Binds K fd ps [] ∧ FnOk P w K mg base CX0 k f fd ps (spErr1 K f0)
theorem base_ok {x qual : Str} {st : Stmt} {N ps : List Str} {k : Nat} {f0 : Str} (D : DnB K mg x qual st ps) (S : FnScope N ps (defScope st)) (len : ps.length = 2)
    (hbody : ∀ (f : Addr) (cdv : Value) (A : Around) (outer : List Env) (s : Shared) (H : Hp) (vs : List V) (Q : VK) (E : XK), Room k (A.deeper (envOfC qual (defScope st) s.heap.objs.size f cdv)) → spErr1 K f0 vs H Q E →
      ∃ t, PSs (cxOf CX0 P w K mg base N qual (defScope st) f cdv A outer s H E).nox (defBody st) t ∧ t { nx := fun _ H' => Q .non H', rt := Q } (start N vs) H) : OwnB P w K mg base (k + 1) x ps f0 := by
  obtain ⟨R, f, fd, B, F, hb⟩ := D.ex
  exact ⟨R, f, fd, B, hb, F.ok S (fun vs H Q E h => by obtain ⟨a, C, x, rfl, _⟩ := h; exact len.symm) (hbody f)⟩
end
section
variable {X : Cx} {CX : CXT} {k : Nat} {C : Addr} {x m : Str} {ps : List Str} {sp : Sp} {E : XK} {o e : Expr} {es : List Expr} {ta : TE} {t : TA} {p apos pos : Pos}
theorem pe_mth {pl : Sem Bool} (O : OwnM X.prog X.w X.K X.mg X.base CX k C m ps sp) (he : PE X o ta) (hr : Room k X.A) (hx : Passes CX X E) (ha : PA X (e :: es) t)
    (hst : starEach (e :: es) X.env = (false, eval e X.env) :: starEach es X.env := by rfl) (hpl : (backTo pos (starEach es X.env)).any (·.1) = false := by rfl)
    (ht : eval (.Call (.Attribute o m apos) (e :: es) [] pos) X.env = (do
      let ov ← eval o X.env
      standAt apos.atName
      let (f, first) ← holding [ov] (getMethod ov m pl)
      callWith pos f first (backTo pos (starEach (e :: es) X.env)) (backToKw pos (keywordEach [] X.env))) := by rfl) :
    PE X (.Call (.Attribute o m apos) (e :: es) [] pos) (tMeth C m sp [] E ta t) := by
  obtain ⟨f, fd, hm, hb, F⟩ := O.ex
  exact pe_meth he O.cls hm F hr hb .nil hx ha hst hpl ht
theorem pe_mth0 {pl : Sem Bool} (O : OwnM X.prog X.w X.K X.mg X.base CX k C m ps sp) (he : PE X o ta) (hr : Room k X.A) (hx : Passes CX X E)
    (ht : eval (.Call (.Attribute o m apos) [] [] pos) X.env = (do
      let ov ← eval o X.env
      standAt apos.atName
      let (f, first) ← holding [ov] (getMethod ov m pl)
      callWith pos f first (backTo pos (starEach [] X.env)) (backToKw pos (keywordEach [] X.env))) := by rfl) :
    PE X (.Call (.Attribute o m apos) [] [] pos) (tMeth C m sp [] E ta tNil) := by
  obtain ⟨f, fd, hm, hb, F⟩ := O.ex
  exact pe_meth0 he O.cls hm F hr hb .nil hx ht
theorem pe_new (O : OwnI X.prog X.w X.K X.mg X.base CX k x C ps sp) (hr : Room (k + 1) X.A) (hg : Gl X x) (hx : Passes CX X E) (ha : PA X (e :: es) t)
    (hdb : (x == ("__debug__" : Str)) = false := by decide) (he : starEach (e :: es) X.env = (false, eval e X.env) :: starEach es X.env := by rfl) (hpl : (backTo pos (starEach es X.env)).any (·.1) = false := by rfl) :
    PE X (.Call (.Name x p) (e :: es) [] pos) (tMake C sp [] E t) := by
  obtain ⟨f, fd, hm, hb, F⟩ := O.ex
  exact pe_make hm F hr hg O.at_ hb .nil hx ha hdb he hpl
theorem pe_binit {pl : Sem Bool} {f0 : Str} {p1 p2 : Pos} (O : OwnB X.prog X.w X.K X.mg X.base k x ps f0) (hr : Room k X.A) (hg : Gl X x) (hx : Passes CX0 X E) (ha : PA X (e :: es) t)
    (hc : eval (.Call (.Attribute (.Name x p1) "__init__" p2) (e :: es) [] pos) X.env = (do
      let ov ← eval (.Name x p1) X.env
      standAt p2.atName
      let (f, first) ← holding [ov] (getMethod ov "__init__" pl)
      callWith pos f first (backTo pos (starEach (e :: es) X.env)) (backToKw pos (keywordEach [] X.env))) := by rfl)
    (hdb : (x == ("__debug__" : Str)) = false := by decide) (he : starEach (e :: es) X.env = (false, eval e X.env) :: starEach es X.env := by rfl) (hpl : (backTo pos (starEach es X.env)).any (·.1) = false := by rfl) :
    PE X (.Call (.Attribute (.Name x p1) "__init__" p2) (e :: es) [] pos) (tCall (spErr1 X.K f0) [] E t) := by
  obtain ⟨R, f, fd, B, hb, G⟩ := O.ex
  exact pe_base B G hb hr hg hx ha hc hdb he hpl
/-- raise of an own error -/
def sRaise (W : WX) (C : Addr) (t : TA) : TS := fun _ σ H => t σ H fun vs H1 => ∃ x y, vs = [x, y] ∧ ∀ d, H1 d = none → W (.ref C) (some d) σ (upd H1 d (.xd [("position", y), ("kind", x), ("code", .int (-20))]))
theorem ps_raiseN {W : WX} (O : OwnX X.prog X.w X.K X.mg X.base k x C 2 neF ps) (hr : Room (k + 1) X.A) (hg : Gl X x) (hc : X.calm = true) (tk : Takes X W) (ha : PA X (e :: es) t)
    (hdb : (x == ("__debug__" : Str)) = false := by decide) (he : starEach (e :: es) X.env = (false, eval e X.env) :: starEach es X.env := by rfl) (hpl : (backTo pos (starEach es X.env)).any (·.1) = false := by rfl) {rpos : Pos} :
    PS X (.Raise (some (.Call (.Name x p) (e :: es) [] pos)) none rpos) (sRaise W C t) := by
  obtain ⟨f, fd, hi, ht, hb, F⟩ := O.ex
  have ha' : PA X (e :: es) (fun σ H Q => ∃ R, t σ H R ∧ ∀ vs H1, R vs H1 → Q vs H1) := ⟨fun pos pins s σ H Q I ⟨R, q, m⟩ => thn (ha.run pos pins s σ H R I q) fun us s1 ⟨vs, H1, I1, r, q1⟩ => ⟨vs, H1, I1, r, m _ _ q1⟩⟩
  refine ⟨fun pins s σ H D I h => ?_⟩
  refine (L2.ps_raise hc tk (pmk_err O.err hi ht F hr hb hg O.at_ ha' hdb he hpl)).run pins s σ H D I ⟨_, h, ?_⟩
  rintro vs H1 ⟨x, y, rfl, k⟩
  exact ⟨rfl, by simp, k⟩
/-- .. made of nothing -/
def sRaise0 (W : WX) (C : Addr) (c : Int) : TS := fun _ σ H => ∀ d, H d = none → W (.ref C) (some d) σ (upd H d (.xd [("code", .int c)]))
theorem ps_raise0 {W : WX} {c : Int} (O : OwnX X.prog X.w X.K X.mg X.base k x C 0 (cdF c) ps) (hr : Room (k + 1) X.A) (hg : Gl X x) (hc : X.calm = true) (tk : Takes X W) (hdb : (x == ("__debug__" : Str)) = false := by decide) {rpos : Pos} :
    PS X (.Raise (some (.Call (.Name x p) [] [] pos)) none rpos) (sRaise0 W C c) := by
  obtain ⟨f, fd, hi, ht, hb, F⟩ := O.ex
  refine ⟨fun pins s σ H D I h => ?_⟩
  exact (L2.ps_raise hc tk (pmk_err0 O.err hi ht F hr hb hg O.at_ hdb)).run pins s σ H D I ⟨rfl, by simp, h⟩
/-- a def as a value -/
theorem pe_defv {f : Addr} {x : Str} {pos : Pos} (hg : Gl X x) (hm : X.mg x = some (.ref f)) (hd : (x == ("__debug__" : Str)) = false := by decide) : PE X (.Name x pos) (tC (.ref f)) := pe_glob hg hm rfl hd
/-- a local name that holds a def -/
def HeldF (P : Program) (w : World) (K : PySem.W.Frag) (mg : Str → Option Value) (base : Heap) (k : Nat) (f : Addr) (ps : List Str) (sp : Sp) : Prop := ∃ fd, FnOk P w K mg base CX0 k f fd ps sp ∧ PySem.W.keepIn K (.ref f) = true ∧ Binds K fd ps []
theorem pe_callv {i : Nat} {f : Addr} (O : HeldF X.prog X.w X.K X.mg X.base k f ps sp) (hr : Room k X.A) (hN : X.N[i]? = some x) (hv : Vis X.env.scope x) (ha : PA X (e :: es) t)
    (hdb : (x == ("__debug__" : Str)) = false := by decide) (hcd : (x == ("__classdict__" : Str)) = false := by decide)
    (he : starEach (e :: es) X.env = (false, eval e X.env) :: starEach es X.env := by rfl) (hpl : (backTo pos (starEach es X.env)).any (·.1) = false := by rfl) : PE X (.Call (.Name x p) (e :: es) [] pos) (tCallL i f sp [] E0 t) := by
  obtain ⟨fd, F, hk, hb⟩ := O
  exact pe_callL F hr hN hv hk hb .nil pass0 ha hdb hcd he hpl
/-- o.f, the class known -/
def tFC (C : Addr) (ta : TE) (f : Str) : TE := fun σ H Q => ta σ H fun x H1 => ∃ a dx fs v, x = .ref a ∧ H1 a = some (.ins C dx fs) ∧ fs.lookup f = some v ∧ Q v H1
def sFC (C : Addr) (ta tv : TE) (f : Str) : TS := fun D σ H => tv σ H fun y H1 => ta σ H1 fun x H2 => ∃ a dx fs, x = .ref a ∧ H2 a = some (.ins C dx fs) ∧ fs.length < 1000 ∧ D.nx σ (upd H2 a (.ins C dx (putF f y fs)))
def sFCAug (C : Addr) (ta tv : TE) (rd : V → V → Hp → VK → Prop) (f : Str) : TS := fun D σ H => ta σ H fun x H1 => ∃ a dx fs v, x = .ref a ∧ H1 a = some (.ins C dx fs) ∧ fs.lookup f = some v ∧
  tv σ H1 fun y H2 => rd v y H2 fun z H3 => ∃ dx' fs', H3 a = some (.ins C dx' fs') ∧ fs'.length < 1000 ∧ D.nx σ (upd H3 a (.ins C dx' (putF f z fs')))
/-- a field of a class -/
structure Kf (K : PySem.W.Frag) (C : Addr) (f : Str) : Prop where
  c : Cls K C
  n : NoAttr K C f
variable {K : PySem.W.Frag} {f : Str} {value : Expr} {pos' tpos : Pos} {tv : TE}
theorem pe_fc (hK : X.K = K) (c : Kf K C f) (he : PE X e ta) (hb : attributeBase e f X.env (eval e X.env) = eval e X.env := by rfl) : PE X (.Attribute e f pos) (tFC C ta f) := by
  subst hK
  refine ⟨fun pins s σ H Q I h => ?_⟩
  refine attr_of hb (thn (he.run pins s σ H _ I h) fun u s1 ⟨x, H1, I1, rx, a, dx, fs, v, ex, ea, l, q⟩ => ?_)
  subst ex
  obtain rfl : u = Value.ref a := rx
  exact getattr_ok I1 ea c.c c.n l fun u' s2 I2 ru => ⟨v, H1, I2, ru, q⟩
theorem ps_fc (hK : X.K = K) (c : Kf K C f) (ha : PE X o ta) (hv : PE X value tv) (hs : swapsWith value (some (.Attribute o f pos')) pos.line X.env = pure false := by rfl) : PS X (.Assign [.Attribute o f pos'] value pos) (sFC C ta tv f) := by
  subst hK
  refine ⟨fun pins s σ H D I h => ?_⟩
  refine plainObj_wpAny_Assign_Attribute (thn (hv.run pins s σ H _ I h) fun u s1 ⟨y, H1, I1, ry, q⟩ => thn (ha.run pins s1 σ H1 _ I1 q) fun ov s2 ⟨x, H2, I2, rx, a, dx, fs, ex, ea, l, q2⟩ => ?_) hs
  subst ex
  obtain rfl : ov = Value.ref a := rx
  exact setattr_ok I2 ea c.c c.n l ry fun s3 I3 => ⟨σ, _, I3, q2⟩
theorem ps_fcaug (hK : X.K = K) (c : Kf K C f) {op : Operator} {rd : V → V → Hp → VK → Prop} (ha : PE X o ta) (hv : PE X value tv) (hop : InOp X op rd) : PS X (.AugAssign (.Attribute o f tpos) op value pos) (sFCAug C ta tv rd f) := by
  subst hK
  refine ⟨fun pins s σ H D I h => ?_⟩
  refine wpAny_AugAssign_AttributeAny (thn (ha.run pins s σ H _ I h) fun ov s1 ⟨x, H1, I1, rx, a, dx, fs, v, ex, ea, l, q⟩ => ?_)
  subst ex
  obtain rfl : ov = Value.ref a := rx
  refine getattr_ok I1 ea c.c c.n l fun u s2 I2 ru => thn (hv.run pins s2 σ H1 _ I2 q) fun w3 s3 ⟨y, H2, I3, ry, q3⟩ => thn (hop pins s3 σ H2 v y u w3 _ I3 ru ry q3) fun w4 s4 ⟨z, H3, I4, rz, dx', fs', ea', l', q4⟩ => ?_
  exact setattr_ok I4 ea' c.c c.n l' rz fun s5 I5 => ⟨σ, _, I5, q4⟩
end
end Bt

namespace Bt
open PySem PySem.Spec PyProof.Rows L2 LamX
/-! ### lambdas without parameters that are handed on, and called from deeper in -/
/-- two ways one behind the other, the second over frames that are new or known -/
theorem un_on {fs gs : List Addr} {H H1 H2 : Hp} {h h1 h2 : Heap} (a : Un fs [] H H1 h h1) (b : Un gs [] H1 H2 h1 h2) (old : ∀ c ∈ gs, c ∈ fs ∨ h.get? c = none) : Un fs [] H H2 h h2 := by
  have no : ∀ c : Addr, c ∉ ([] : List Addr) := fun c => by simp
  have fr1 : ∀ {c o}, h.get? c = some o → H c = none → H1 c = none := fun {c o} z n => a.free c o z n (no c)
  have out : ∀ {c o}, h.get? c = some o → c ∉ fs → c ∉ gs := fun {c o} z k m => by
    rcases old c m with y | y
    · exact k y
    · rw [z] at y; cases y
  constructor
  · exact fun c o z n k _ => b.keep c o (a.keep c o z n k (no c)) (fr1 z n) (out z k) (no c)
  · intro c o z n _ _
    obtain ⟨l1, z1⟩ := a.any z n (no c)
    obtain ⟨l2, z2⟩ := b.any z1 (fr1 z n) (no c)
    exact ⟨l2, z2⟩
  · intro c o z n _
    obtain ⟨o1, z1⟩ := a.there c o z (no c)
    exact b.free c o1 z1 (fr1 z n) (no c)
  · intro c o z _
    obtain ⟨o1, z1⟩ := a.there c o z (no c)
    exact b.there c o1 z1 (no c)
  · exact fun c xs z => b.tups c xs (a.tups c xs z)
  · exact fun c o u z => b.frzs c o u (a.frzs c o u z)
  · intro c qs z
    obtain ⟨m1, z1⟩ := a.tbls c qs z
    obtain ⟨m2, z2⟩ := b.tbls c _ z1
    exact ⟨m1 ++ m2, by rw [z2, Array.append_assoc]⟩
/-- what can be called without arguments: the lambda at f, made at (H0, s0) under the frames fs -/
def Act (P : Program) (w : World) (K : PySem.W.Frag) (mg : Str → Option Value) (base : Heap) (k : Nat) (fs : List Addr) (f : Addr) (H0 : Hp) (s0 : Shared) (tl : XK → Hp → VK → Prop) : Prop :=
  ∀ (A : Around) (outer : List Env) (s : Shared) (H : Hp) (Q : VK) (E : XK), Un fs [] H0 H s0.heap s.heap → (∀ c ∈ frs outer, c ∈ fs ∨ s0.heap.get? c = none) → Env0 P w K mg base A outer s H → Room k A → tl E H Q →
    PySem.W.FnAt f s.heap ∧ codeAny (model P w) A (.call (.ref f) ⟨[], []⟩) (CR (L2.CX P w) outer P w H s Q E) s
section
variable {X : Cx}
/-- a lambda that was made is such an action -/
theorem act_lam {pins : List (Addr × Obj)} {σ : L2.St} {H : Hp} {s : Shared} {sc : Scope} {pa : Arguments} {bd : Expr} {f c' : Addr} {pm cv : Value} {k : Nat} {t : XK → TE} (I : Inv X pins σ H s) (L : LamS X.env.scope sc)
    (lies : s.heap.get? f = some (PySem.W.kla_obj "<lambda>" (X.env.qual ++ "<lambda>") pa bd sc (cloFrom X.env.cells sc.names []) pm c' cv)) (free : H f = none) (off : f ∉ frs X.stack)
    (none_in : bindArgs (PySem.W.kla_fn "<lambda>" (X.env.qual ++ "<lambda>") pa bd sc (cloFrom X.env.cells sc.names []) pm (.ref c') cv) ⟨[], []⟩ = pure [])
    (inner : ∀ (A : Around) (outer : List Env) (z : Shared) (Hz : Hp) (E : XK), Un (frs X.stack) [] H Hz s.heap z.heap → (∀ b ∈ frs outer, b ∈ frs X.stack ∨ s.heap.get? b = none) → Room k (A.deeper (lamEnv X sc z.heap.objs.size f c')) → PE (lamCx X A outer z Hz E sc f c') bd (t E)) :
    Act X.prog X.w X.K X.mg X.base (k + 1) (frs X.stack) f H s (fun E Hz Q => Hz c' = some (CodeO c' (X.env.qual ++ "<lambda>")) ∧ t E σ Hz Q) := by
  intro A outer z Hz Q E un old start room want
  obtain ⟨code, want⟩ := want
  have still := un.keep f _ lies free off (by simp)
  refine ⟨⟨_, _, _, _, still⟩, ?_⟩
  obtain ⟨⟨co, cvs, ct, there, fields, name⟩, _⟩ := start.hok c' _ code
  have nolim : z.heap.NoLimit := start.mod.nolimit.keeps fun b o e => (start.bs b o e).1
  refine PySem.W.kla_callFunE room.depth still rfl L.co L.gen rfl ⟨c', co, cvs, ct, rfl, there, fields, name⟩ ?_
  rw [none_in]
  refine wpAny_pure (wpAny_newFunctionEnv (fun y m => (L.own y m).2) (fun y m => absurd m (by simp)) (fun hN names but => ⟨nolim.fresh _ but, ?_⟩) L.kind)
  have up : ∀ b o, z.heap.get? b = some o → hN.get? b = some o := fun b o e => but.extBut b o (Nat.ne_of_lt (Heap.lt_size e)) (Heap.get?_push_of_some _ e)
  have J := lam_start2 (f := f) (c' := c') (E := E) (tk := z.toks + ([] : List (Str × Value)).length) I L start room.hd un names up
  show codeAny _ _ (.expr bd (lamEnv X sc z.heap.objs.size f c')) _ _
  refine PySem.W.kla_codeExpr (wpAny_mono ((inner A outer z Hz E un old (room.deeper _)).run [] _ _ Hz Q J want) (fun u zz got => ?_) fun _ _ er => er)
  obtain ⟨x, H2, J2, rx, q⟩ := got
  exact ⟨x, H2, J2.os, J2.bare, J2.base, J2.hok, rx, q⟩
/-- a local name that holds such an action is called -/
theorem pe_actL {Z : Cx} {i : Nat} {a : Str} {f : Addr} {E : L2.St → XK} {tl : XK → Hp → VK → Prop} {p1 p2 : Pos} (passes : ∀ σ, PassesAt (L2.CX Z.prog Z.w) Z σ (E σ))
    (go : ∀ (pins : List (Addr × Obj)) (s : Shared) (σ : L2.St) (H : Hp) (Q : VK) (E : XK), Inv Z pins σ H s → tl E H Q → PySem.W.FnAt f s.heap ∧ codeAny (model Z.prog Z.w) Z.A (.call (.ref f) ⟨[], []⟩) (CR (L2.CX Z.prog Z.w) Z.stack Z.prog Z.w H s Q E) s)
    (name : Z.N[i]? = some a) (vis : Vis Z.env.scope a) (h1 : (a == ("__debug__" : Str)) = false := by decide) (h2 : (a == ("__classdict__" : Str)) = false := by decide) :
    PE Z (.Call (.Name a p1) [] [] p2) (fun σ H Q => σ[i]? = some (some (.ref f)) ∧ tl (E σ) H Q) := by
  constructor
  intro pins s σ H Q I want
  have named := (pe_var (pos := p1) name vis h1 h2).run pins s σ H (fun v Hv => v = .ref f ∧ Hv = H) I ⟨.ref f, want.1, rfl, rfl⟩
  refine wpAny_Call_Name_kw (thn named fun u s2 got => ?_)
  obtain ⟨v, Hv, I2, ru, rfl, rfl⟩ := got
  cases (show u = Value.ref f from ru)
  have both := go pins s2 σ Hv Q _ I2 want.2
  refine PySem.W.callWith_F0 both.1 (wpAny_call (codeAny_mono both.2 fun r z out => ?_))
  match r, out with
  | .error er, out => exact passes σ _ _ _ _ _ I2 out
  | .ok (.ret _), out => exact I2.after out
  | .ok .next, out => exact (show False from out).elim
  | .ok .brk, out => exact (show False from out).elim
  | .ok .cont, out => exact (show False from out).elim
end
/-- a def of one parameter that is handed such an action: what it makes of it -/
structure OwnAct (P : Program) (w : World) (K : PySem.W.Frag) (mg : Str → Option Value) (base : Heap) (k : Nat) (x : Str) (T : List (Addr × Str)) (TT : (XK → Hp → VK → Prop) → Hp → VK → Prop) : Prop where
  ex : ∃ g, mg x = some (.ref g) ∧ PySem.W.keepIn K (.ref g) = true ∧ ∀ (j : Nat) (A : Around) (outer : List Env) (f : Addr) (s : Shared) (H : Hp) (Q : VK) (tl : XK → Hp → VK → Prop),
    Act P w K mg base j (frs outer) f H s tl → Env0 P w K mg base A outer s H → Room (k + j) A → Tabs T H → TT tl H Q → codeAny (model P w) A (.call (.ref g) ⟨[.ref f], []⟩) (CR CX0 outer P w H s Q E0) s
def tLam2 (T : List (Addr × Str)) (q : Str) (TT : (XK → Hp → VK → Prop) → Hp → VK → Prop) (t : XK → TE) : TE := fun σ H Q => Tabs T H ∧ ∀ c H1, ExtN H H1 → Tabs T H1 → H1 c = some (CodeO c q) → TT (fun E Hz Qz => Hz c = some (CodeO c q) ∧ t E σ Hz Qz) H1 Q
section
variable {X : Cx}
/-- x(lambda: body) -/
theorem pe_lam2 {T : List (Addr × Str)} {TT : (XK → Hp → VK → Prop) → Hp → VK → Prop} {x : Str} {c P : Addr} {k kx : Nat} {pa : Arguments} {bd : Expr} {sc : Scope} {t : XK → TE} {p lp pos : Pos} (O : OwnAct X.prog X.w X.K X.mg X.base kx x T TT) (hg : Gl X x)
    (TB : TabB X.base X.mg c P) (mine : X.env.code = .ref c) (mem : (P, X.env.qual ++ "<lambda>") ∈ T) (one : ∀ p ∈ T, p.1 = P → p.2 = X.env.qual ++ "<lambda>") (room : Room (kx + (k + 1)) X.A) (L : LamS X.env.scope sc) (nodef : defaultsOf pa X.env = ([], []))
    (none_in : ∀ (q : Str) (cl : List (Str × Addr)) (pm cv cw : Value), bindArgs (PySem.W.kla_fn "<lambda>" q pa bd sc cl pm cv cw) ⟨[], []⟩ = pure [])
    (inner : ∀ (pins : List (Addr × Obj)) (σ : L2.St) (H : Hp) (s : Shared), Inv X pins σ H s → ∀ (A : Around) (outer : List Env) (z : Shared) (Hz : Hp) (E : XK) (f c' : Addr), Un (frs X.stack) [] H Hz s.heap z.heap → (∀ b ∈ frs outer, b ∈ frs X.stack ∨ s.heap.get? b = none) → Room k (A.deeper (lamEnv X sc z.heap.objs.size f c')) → PE (lamCx X A outer z Hz E sc f c') bd (t E))
    (hdb : (x == ("__debug__" : Str)) = false := by decide) : PE X (.Call (.Name x p) [.Lambda pa bd sc lp] [] pos) (tLam2 T (X.env.qual ++ "<lambda>") TT t) := by
  constructor
  intro pins s σ H Q I want
  obtain ⟨g, at_, kept, run⟩ := O.ex
  refine wpAny_Call_Name_kw (ld_glob I hg at_ (PySem.W.callWith_K (h₀ := X.base) I.ok.mod.kin kept ?_ (by rfl) (by rfl)) hdb)
  have made := fun R => lam_make2 (E := X.xe) (Q := R) (body := bd) (pos := lp) I TB mine mem one want.1 nodef (L.has I.ok)
  refine Calls.spliced_cons (made _ fun f c' pm cv H1 z I1 grown tabs lies free off code => Calls.spliced_nil ⟨I1.kIn, ?_⟩)
  have act := act_lam (k := k) (t := t) I1 L lies free off (none_in _ _ _ _ _) fun A outer y Hy E un old r => inner pins σ H1 z I1 A outer y Hy E f c' un old r
  refine wpAny_call (codeAny_mono (run (k + 1) X.A X.stack f z H1 Q _ act I1.env0 room tabs (want.2 c' H1 grown tabs code)) fun r y out => ?_)
  match r, out with
  | .error er, out => exact (show False from out).elim
  | .ok (.ret _), out => exact I1.after out
  | .ok .next, out => exact (show False from out).elim
  | .ok .brk, out => exact (show False from out).elim
  | .ok .cont, out => exact (show False from out).elim
end
end Bt

namespace Bt
open PySem PySem.Spec PyProof.Rows L2
theorem exm_sub {K : PySem.W.Frag} {C R : Addr} (h1 : PySem.W.subIn K (.ref R) (.type "BaseException") = some true) (h2 : PySem.W.isClsIn K R = true) (h3 : PySem.W.typeIn K (.ref R) = some (.type "type")) (h4 : PySem.W.subIn K (.ref C) (.ref R) = some true) :
    PySem.W.exmOne K (.ref C) (.ref R) = some true := by
  have h2' : (PySem.W.clsIn K R).isSome = true := h2
  unfold PySem.W.exmOne
  rw [if_pos (by rw [h1]; rfl)]
  show (if ((PySem.W.clsIn K R).isSome && PySem.W.typeIn K (.ref R) == some (.type "type")) = true then PySem.W.subIn K (.ref C) (.ref R) else none) = some true
  rw [if_pos (by rw [h2', h3]; rfl)]
  exact h4
end Bt

namespace Bt
open PySem PySem.Spec PyProof.Rows L2 LamX
open PySem.W (WData Codec OpenSpec Well WellAll ReadsW ReadsAllW)
/-! ### the end of a specification's row whose defs make lambdas: the tables of their code objects grow -/
theorem sqL_up {K : PySem.W.Frag} {H H' : Hp} {a : Addr} {xs : List V} (s : ∀ b o, H b = some o → (∀ q, o ≠ .tbl q) → H' b = some o) (h : SqL K H a xs) : SqL K H' a xs := by
  rcases h with h | h
  · rcases h with h | ⟨o, h⟩
    · exact .inl (.inl (s _ _ h fun q z => by cases z))
    · exact .inl (.inr ⟨o, s _ _ h fun q z => by cases z⟩)
  · exact .inr h
theorem sqT_up {K : PySem.W.Frag} {H H' : Hp} {a : Addr} {xs : List V} (s : ∀ b o, H b = some o → (∀ q, o ≠ .tbl q) → H' b = some o) (h : SqT K H a xs) : SqT K H' a xs := by
  rcases h with h | h
  · rcases h with h | ⟨o, h⟩
    · exact .inl (.inl (s _ _ h fun q z => by cases z))
    · exact .inl (.inr ⟨o, s _ _ h fun q z => by cases z⟩)
  · exact .inr h
section
variable {K : PySem.W.Frag} {H H' : Hp}
mutual
theorem dw_up (s : ∀ b o, H b = some o → (∀ q, o ≠ .tbl q) → H' b = some o) : ∀ {v : V} {d : WData}, Dw K H v d → Dw K H' v d
  | _, _, .non => .non
  | _, _, .bl b => .bl b
  | _, _, .int i => .int i
  | _, _, .str x => .str x
  | _, _, .byt b => .byt b
  | _, _, .lst q r => .lst (sqL_up s q) (dws_up s r)
  | _, _, .tup q r => .tup (sqT_up s q) (dws_up s r)
theorem dws_up (s : ∀ b o, H b = some o → (∀ q, o ≠ .tbl q) → H' b = some o) : ∀ {vs : List V} {ds : List WData}, DwAll K H vs ds → DwAll K H' vs ds
  | _, _, .nil => .nil
  | _, _, .cons a b => .cons (dw_up s a) (dws_up s b)
end
end
/-- the heap at the start: the arguments, and beside them the empty tables at ts -/
def startH (ts : List Addr) (H : Hp) : Hp := fun b => if b ∈ ts then some (.tbl #[]) else H b
theorem call_tabs {P : Program} {w : World} {K : PySem.W.Frag} {mg mb : Str → Option Value} {k : Nat} {fa : Addr} {fd : FuncData} {ps : List Str} {sp : Sp} {s1 : Shared} {us : List Value} {ds : List WData} {R : PySem.W.WRecords} {cl : Str → Option Addr} {d0 : WData} {cs : List (Addr × Addr)}
    (KX : K.In s1.heap) (glob : s1.heap.Ns mainGlobals mg) (blt : s1.heap.Ns builtinsNs mb) (boot : ∀ x : Str, x ≠ "__name__" → mb x = bootBuiltins x) (nolim : s1.heap.NoLimit) (nogen : s1.gens = #[])
    (empty : ∀ p ∈ cs, s1.heap.get? p.2 = some { cls := .none, data := .fields #[] }) (outK : ∀ p ∈ cs, K.lookup p.2 = none) (codes : ∀ p ∈ cs, PySem.W.CodeHd s1.heap p.1 p.2)
    (main_ : ∃ (bm : Addr) (ob : Obj), mg "__builtins__" = some (.ref bm) ∧ bm ≠ builtinsNs ∧ s1.heap.get? bm = some ob ∧ ob.cls = .type "module" ∧ ob.dict = some builtinsNs ∧ ob.data = .plain)
    (well : WellAll w.params s1.heap us ds) (flat : plWs ds = true) (light : ∀ d ∈ ds, d.weight ≤ 1048576) (room : Room k callerA)
    (F : ∀ base : Heap, K.In base → base.Ns mainGlobals mg → (∀ p ∈ cs, TabB base mg p.1 p.2) → FnOk P w K mg base CX0 k fa fd ps sp) (binds : ∀ (s : Shared) (us : List Value), us.length = ps.length → BindsTo s fd ⟨us, []⟩ (ps.zip us)) (many : ds.length = ps.length)
    (promise : ∀ (H : Hp) (xs : List V), (∀ p ∈ cs, H p.2 = some (.tbl #[])) → DwAll K H xs ds → sp xs H (fun v H' => Dw K H' v d0) fun _ _ _ => False) :
    codeAny (model P w) callerA (.call (.ref fa) ⟨us, []⟩) (fun r s' => ∃ u as, r = .ok (.ret u) ∧ ReadsW R cl s'.heap u d0 as ∧ OldK s1.heap s'.heap ∧ s'.os = s1.os ∧ AllBare s'.gens) s1 := by
  obtain ⟨A, ho, ar⟩ := area_all ds us well flat light
  have said := dw_all KX ar ds us well flat ho
  have vals := vals_toV ho
  -- a table is no argument, and no part of the text
  have tab : ∀ b, b ∈ cs.map (·.2) → s1.heap.get? b = some { cls := .none, data := .fields #[] } ∧ K.lookup b = none := fun b m => by
    obtain ⟨p, hp, rfl⟩ := List.mem_map.mp m
    exact ⟨empty p hp, outK p hp⟩
  have apart : ∀ b, b ∈ cs.map (·.2) → argH K s1.heap A b = none := fun b m => by
    cases q : argH K s1.heap A b with
    | none => rfl
    | some u =>
      obtain ⟨_, vs, _, _, ⟨e, _⟩ | ⟨e, _⟩⟩ := argH_is ar q <;> · rw [(tab b m).1] at e; cases e
  generalize hH : startH (cs.map (·.2)) (argH K s1.heap A) = H
  have atT : ∀ p ∈ cs, H p.2 = some (.tbl #[]) := fun p hp => by rw [← hH]; exact if_pos (List.mem_map.mpr ⟨p, hp, rfl⟩)
  have up : ∀ b o, argH K s1.heap A b = some o → (∀ q, o ≠ .tbl q) → H b = some o := fun b o e _ => by
    rw [← hH]
    refine (if_neg fun m => ?_).trans e
    rw [apart b m] at e; cases e
  have each : ∀ b u, H b = some u → (b ∈ cs.map (·.2) ∧ u = .tbl #[]) ∨ (K.lookup b = none ∧ (∃ o x, u = .frz o x ∧ ∃ vs n, o.data = .seq vs n) ∧ s1.heap.get? b ≠ none ∧ ∃ o x, u = .frz o x ∧ s1.heap.get? b = some o ∧ ObjOk P w H s1.heap b u) := fun b u e => by
    rw [← hH] at e
    by_cases m : b ∈ cs.map (·.2)
    · have e' := (if_pos m).symm.trans e
      cases e'
      exact .inl ⟨m, rfl⟩
    · have e' := (if_neg m).symm.trans e
      obtain ⟨nk, vs, hz, hu, ⟨at_, rfl⟩ | ⟨at_, rfl⟩⟩ := argH_is ar e'
      · exact .inr ⟨nk, ⟨_, _, rfl, _, _, rfl⟩, by rw [at_]; simp, _, _, rfl, at_, at_, by rw [List.length_map]; exact hz, vs, _, vals_toV hu, at_⟩
      · exact .inr ⟨nk, ⟨_, _, rfl, _, _, rfl⟩, by rw [at_]; simp, _, _, rfl, at_, at_, by rw [List.length_map]; exact hz, vs, vals_toV hu, _, at_, rfl, _, rfl⟩
  have hok : HOk P w H s1.heap := fun b u e => by
    rcases each b u e with ⟨m, rfl⟩ | ⟨_, _, _, _, _, _, _, h⟩
    · exact (tab b m).1
    · exact h
  -- what is of another form is not tracked
  have off : ∀ {b : Addr} {o : Obj}, s1.heap.get? b = some o → (∀ vs n, o.data ≠ .seq vs n) → o.data ≠ .fields #[] → H b = none := fun {b o} e h1 h2 => by
    cases q : H b with
    | none => rfl
    | some u =>
      rcases each b u q with ⟨m, _⟩ | ⟨_, ⟨o', x', eu, vs, n, ed⟩, _, o2, x2, eu2, at_, _⟩
      · rw [(tab b m).1] at e; cases e; exact absurd rfl h2
      · rw [eu] at eu2; cases eu2
        rw [at_] at e; cases e
        exact absurd ed (h1 vs n)
  have keepB : ∀ {b : Addr} {o : Obj}, s1.heap.get? b = some o → H b = none → (hidT s1.heap H).get? b = some o := fun e n => hidT_get e n
  have nsB : ∀ {b : Addr} {m : Str → Option Value}, s1.heap.Ns b m → (hidT s1.heap H).Ns b m := fun {b m} ⟨o, es, ep, e, d, r⟩ => ⟨o, es, ep, keepB e (off e (fun vs n z => by rw [d] at z; cases z) fun z => by rw [d] at z; cases z), d, r⟩
  have freeK : ∀ b o, K.lookup b = some o → H b = none := fun b o e => by
    cases q : H b with
    | none => rfl
    | some u =>
      rcases each b u q with ⟨m, _⟩ | ⟨nk, _⟩
      · rw [(tab b m).2] at e; cases e
      · rw [nk] at e; cases e
  have KB : K.In (hidT s1.heap H) := fun b o e => keepB (KX b o e) (freeK b o e)
  have modB : Mod K mg (hidT s1.heap H) := ⟨KB, nsB glob, ⟨mb, nsB blt, boot⟩, let ⟨mc, h1, h2⟩ := nolim; ⟨mc, nsB h1, h2⟩⟩
  have tabsB : ∀ p ∈ cs, TabB (hidT s1.heap H) mg p.1 p.2 := fun p hp => by
    have lies := empty p hp
    obtain ⟨bm, ob, b1, b2, b3, b4, b5, b6⟩ := main_
    have ne1 : bm ≠ mainGlobals := fun q => by
      obtain ⟨o, es, ep, e, hd, _⟩ := glob
      rw [q, e] at b3; cases b3
      rw [hd] at b6; cases b6
    have ne2 : bm ≠ p.2 := fun q => by
      rw [q, lies] at b3; cases b3
      cases b6
    refine ⟨?_, ⟨bm, ob, b1, b2, ne1, ne2, keepB b3 (off b3 (fun vs n z => by rw [b6] at z; cases z) fun z => by rw [b6] at z; cases z), b4, b5, b6⟩, fun z => ?_⟩
    · obtain ⟨o, vs, fi, tf, fl, tg, nF, tx, tt, e1, c1, c2, rest⟩ := codes p hp
      refine ⟨o, vs, fi, tf, fl, tg, nF, tx, tt, keepB e1 (off e1 (fun vs n z => by rw [c2] at z; cases z) fun z => ?_), c1, c2, rest⟩
      rw [c2] at z; cases z
      have := rest.1
      simp at this
    · obtain ⟨o, es, ep, e, hd, _⟩ := glob
      rw [z, lies] at e; cases e
      cases hd
  have start : Env0 P w K mg (hidT s1.heap H) callerA [] s1 H := ⟨rfl, modB, fun b o e => of_hidT e, Nat.le_of_eq (hidT_size _ _), trivial, (fun b m => absurd (show b ∈ ([] : List Addr) from m) (by simp)), hok, .of_eq nogen⟩
  have count : us.length = ps.length := by rw [wellAll_len well]; exact many
  have run := (F _ KB (nsB glob) tabsB).run callerA [] s1 H ⟨us, []⟩ us (us.map toV) _ _ room start (binds s1 us count) vals (promise H _ atT (dws_up up said))
  refine codeAny_mono run fun r s2 out => ?_
  match r, out with
  | .error er, out => exact (show False from out).elim
  | .ok .next, out => exact (show False from out).elim
  | .ok .brk, out => exact (show False from out).elim
  | .ok .cont, out => exact (show False from out).elim
  | .ok (.ret u), out =>
    obtain ⟨v, H2, os2, bare2, un, hok2, rv, dw⟩ := out
    have kept : ∀ b o, b ∉ cs.map (·.2) → s1.heap.get? b = some o → s2.heap.get? b = some o := fun b o nb e => by
      cases q : H b with
      | none => exact un.keep b o e q (by intro z; cases z) (by simp)
      | some x =>
        rcases each b x q with ⟨m, _⟩ | ⟨_, _, _, o2, x2, rfl, at_, _⟩
        · exact absurd m nb
        · have later := hok2 b _ (un.frzs b o2 x2 q)
          rw [e] at at_; cases at_
          exact later.1
    have KX2 : K.In s2.heap := fun b o e => kept b o (fun m => by rw [(tab b m).2] at e; cases e) (KX b o e)
    obtain ⟨as, reads⟩ := Dw.reads (R := R) (cl := cl) hok2 KX2 d0 v u dw rv
    have grown : ∀ p ∈ cs, ∃ more : Array Value, s2.heap.get? p.2 = some { cls := .none, data := .fields more } := fun p hp => by
      obtain ⟨more, z⟩ := un.tbls p.2 #[] (atT p hp)
      exact ⟨_, hok2 p.2 _ z⟩
    refine ⟨u, as, rfl, reads, ⟨fun b o e => ?_, fun b o e => ?_⟩, os2, bare2⟩
    · by_cases m : b ∈ cs.map (·.2)
      · obtain ⟨p, hp, rfl⟩ := List.mem_map.mp m
        obtain ⟨more, g⟩ := grown p hp
        have e' := e
        rw [empty p hp] at e'; cases e'
        exact .inr (.inl ⟨((codes p hp).tab (empty p hp)).isCodeTable, rfl, #[], more, rfl, by rw [Array.empty_append]; exact g⟩)
      · exact .inl (kept b o m e)
    · by_cases m : b ∈ cs.map (·.2)
      · obtain ⟨p, hp, rfl⟩ := List.mem_map.mp m
        obtain ⟨more, g⟩ := grown p hp
        exact ⟨_, g⟩
      · exact ⟨o, kept b o m e⟩
/-- a def's code object and its table, by what is written of them -/
theorem tab_def {q : Program} {loose : List Str} {mean : ExcName → Option Value} {mg mb : Str → Option Value} {K : PySem.W.Frag} {h : Heap} {d : DefRec} {x : Str} {f c P n : Nat} {oc oc2 : Value} {od od2 : Option Addr} {fd : FuncData} {sl sl2 : Array (Option Value)} {vs : Array Value} (T : Top q loose mean mg mb h) (X : K.In h) (hd : (recsOf q).find? (fun e => e.name == x) = some d)
    (a : PySem.W.nsIn K mainGlobals x = some (some (.ref f))) (l : K.lookup f = some ⟨oc, od, .func fd, sl⟩) (hc : fd.code = .ref c) (lc : K.lookup c = some ⟨oc2, od2, .fields vs, sl2⟩) (hv : vs[11]? = some (.ref P)) : PySem.W.CodeHd h c P ∧ h.get? P = some { cls := .none, data := .fields #[] } := by
  refine PySem.W.tab_of T X hd ?_
  unfold PySem.W.tabIn
  simp only [a, l, hc, lc, hv]
theorem walk_tabs {r : OpenSpec} {k : Nat} {q : Program} {loose : List Str} {Xq : (Str → Option Value) → Heap → Prop} {YP : World → Heap → Prop} {d : DefRec} {K : Params → PySem.W.Frag} {ps : List Str}
    (said : r.wellSaid = true) (nodef : d.params.defaults = []) (many : r.args.length = ps.length) (room : Room k callerA) (hY : ∀ (w : World) (h : Heap), YP w h → (K w.params).In h)
    (F : ∀ (w : World) (mean : ExcName → Option Value) (mg mb : Str → Option Value) (fa : Addr) (h : Heap), YP w h → (K w.params).In h → Top q (PySem.W.looseW q loose) mean mg mb h → mg d.name = some (.ref fa) →
      ∃ (fd : FuncData) (cs : List (Addr × Addr)) (sp : Sp), (∀ p ∈ cs, PySem.W.CodeHd h p.1 p.2 ∧ h.get? p.2 = some { cls := .none, data := .fields #[] }) ∧ (∀ p ∈ cs, (K w.params).lookup p.2 = none) ∧ (∀ (s : Shared) (us : List Value), us.length = ps.length → BindsTo s fd ⟨us, []⟩ (ps.zip us)) ∧
        (∀ base : Heap, (K w.params).In base → base.Ns mainGlobals mg → (∀ p ∈ cs, TabB base mg p.1 p.2) → FnOk r.prog w (K w.params) mg base CX0 k fa fd ps sp) ∧
        ∀ (H : Hp) (xs : List V) (a : Codec.denoteAll r.args), (∀ p ∈ cs, H p.2 = some (.tbl #[])) → Codec.withinAll r.args a = true → Codec.app r.args r.asked a = true → DwAll (K w.params) H xs (Codec.encAll r.args a) →
          sp xs H (fun v H' => Dw (K w.params) H' v (r.ret.enc (Codec.app r.args r.f a))) fun _ _ _ => False) :
    PySem.W.WalkOS q loose Xq YP r d [] (fun f vs => PySem.call f vs) := by
  intro w s0 s1 mg mb G Y fa o pm cd doc dV kV _ _ _ _ hmg hg args vals as hpre hlay _ hwl _
  obtain ⟨a, e1, e2⟩ := PySem.W.os_pre_some hpre
  obtain ⟨rfl, within⟩ := Codec.encAll_of_decAll r.args args a e1
  have KX := hY w _ Y
  obtain ⟨fd, cs, sp, tabs, outK, binds, ok, promise⟩ := F w _ mg mb fa _ Y KX G.T hmg
  have run := call_tabs (R := []) (cl := classAt s0.heap) (d0 := r.ret.enc (Codec.app r.args r.f a)) KX G.T.g G.T.b G.T.builtins G.T.nolimit hg (fun p hp => (tabs p hp).2) outK (fun p hp => (tabs p hp).1) G.T.bmain hwl (pl_encAll _ _) (layable_weight hlay) room ok binds (by rw [encAll_len]; exact many)
    fun H xs hT hS => promise H xs a hT within e2 hS
  refine PySem.W.enter_call (codeAny_mono run fun r' s' hq => ?_)
  obtain ⟨u, as', rfl, h1, h2, h3, h4⟩ := hq
  exact ⟨.inl ⟨u, _, as', rfl, fun _ => rfl, h1, (OpenSpec.post_iff said within _ _).mpr rfl, fun z => Bool.noConfusion (show false = true from z)⟩, h2, h3, h4⟩
end Bt

namespace Bt
open PySem PySem.Spec PyProof.Rows L2
def top (i : Nat) : Stmt := PySem.Challenge.pw_blocktrees_s08_slug.main.body.getD i (.Pass ⟨0, 0, 0, 0⟩)
local macro_rules | `(tactic| walk_at "sx") => `(tactic| simp only [cxK, tTru, rLen, rListOf, rTupOf, tRet, tRetN, tChain, tRng, tCB, tCons, tNil, tC, tVar, tOp, tUn, tTest, tB, tAnd, tOr, tNot, tIfS, tSeq, tIf, tOrV, tAndV, tNotV, tCall, tSl, tPart, tNoPart, tLst, tTup, tBM, tBM0, rExtendS, iList, iTup, iSeqV, rIxL, rIxT, rSlL, rAppend, rExtend, rCat, rI0, rI, rIxS, rEq, rNe, rU, tAsg, gName, tDrop, tNext, scal, L2.start, List.map_cons, List.map_nil, List.length_cons, List.length_nil, Nat.reduceAdd, Nat.reduceSub, List.replicate_succ, List.replicate_zero, List.append_nil, List.cons_append, List.nil_append, List.getElem?_cons_zero, List.getElem?_cons_succ, Option.some.injEq, exists_eq_left', exists_eq_left, V.int.injEq, V.bl.injEq, V.str.injEq, V.ref.injEq, List.cons.injEq, and_true, true_and, exists_and_left, List.set_cons_zero, List.set_cons_succ, spN1_run, tFC, sFC, sFCAug, tMeth, tMake, sRaise, tErF, rAdd, rPop, tM1, tCallL, Option.some.injEq, HO.ins.injEq])
local macro_rules | `(tactic| walk_at "sm") => `(tactic| (repeat (first | exact Same.refl _ | assumption | (refine Same.trans ?_ (same_new (by assumption))) | (refine Same.trans ?_ (by assumption)))))
section
variable {P : Program} {w : World} {K : PySem.W.Frag} {mg : Str → Option Value} {base : Heap}
abbrev s_is_space : Stmt := top 9
theorem sc_is_space : FnScope ["byte"] ["byte"] (defScope s_is_space) := ⟨rfl, rfl, rfl, by decide +kernel, rfl, by decide +kernel, by decide +kernel⟩
theorem ok_is_space (D : Dn K mg "is_space" s_is_space ["byte"]) (c_SPACE : IsC mg "SPACE" (.int 32)) (c_TAB : IsC mg "TAB" (.int 9)) (c_LINE_FEED : IsC mg "LINE_FEED" (.int 10)) (c_CARRIAGE_RETURN : IsC mg "CARRIAGE_RETURN" (.int 13)) :
    OwnOk P w K mg base CX0 1 "is_space" ["byte"] (spN1 fun n => .bl (Kh450.isWhite n)) := by
  refine own_ok D sc_is_space (fun _ _ _ _ h => spN1_len h) (fun f cdv A outer s H vs Q E hr h => ⟨_, (pss_one (ps_ret (pe_cmpR (kop_in (K := K) rfl) (pv 0) (pe_tup (pa_cons (pe_cst (by rfl) c_SPACE) (pa_cons (pe_cst (by rfl) c_TAB) (pa_cons (pe_cst (by rfl) c_LINE_FEED) (pa_cons (pe_cst (by rfl) c_CARRIAGE_RETURN) pa_nil))))) (by rfl)))), ?_⟩)
  obtain ⟨n, rfl, q⟩ := h
  refine ⟨_, rfl, by decide, fun p hp => ⟨p, _, rfl, .inr (SqT.of upd_same), rfl, rfl, fin_bl ?_ (q _ (same_new hp))⟩⟩
  simp only [Kh450.isWhite, inV, List.any_cons, List.any_nil, eqV, Bool.or_false]
  rw [Bool.eq_iff_iff]; simp; omega
abbrev s_is_lowercase : Stmt := top 10
theorem sc_is_lowercase : FnScope ["byte"] ["byte"] (defScope s_is_lowercase) := ⟨rfl, rfl, rfl, by decide +kernel, rfl, by decide +kernel, by decide +kernel⟩
theorem ok_is_lowercase (D : Dn K mg "is_lowercase" s_is_lowercase ["byte"]) (n_ord : mg "ord" = none) : OwnOk P w K mg base CX0 1 "is_lowercase" ["byte"] (spN1 fun n => .bl (Kh450.isLower n)) := by
  refine own_ok D sc_is_lowercase (fun _ _ _ _ h => spN1_len h) (fun f cdv A outer s H vs Q E hr h => ⟨_, (pss_one (ps_ret (pe_rng (pe_ordL 97 n_ord) (pv 0) (pe_ordL 122 n_ord) (mono := mono_var)))), ?_⟩)
  obtain ⟨n, rfl, q⟩ := h
  refine ⟨_, rfl, _, rfl, fin_bl ?_ (q _ (Same.refl _))⟩
  rw [Bool.eq_iff_iff]; simp [Kh450.isLower]; omega
abbrev s_is_uppercase : Stmt := top 11
theorem sc_is_uppercase : FnScope ["byte"] ["byte"] (defScope s_is_uppercase) := ⟨rfl, rfl, rfl, by decide +kernel, rfl, by decide +kernel, by decide +kernel⟩
theorem ok_is_uppercase (D : Dn K mg "is_uppercase" s_is_uppercase ["byte"]) (n_ord : mg "ord" = none) : OwnOk P w K mg base CX0 1 "is_uppercase" ["byte"] (spN1 fun n => .bl (Kh450.isUpper n)) := by
  refine own_ok D sc_is_uppercase (fun _ _ _ _ h => spN1_len h) (fun f cdv A outer s H vs Q E hr h => ⟨_, (pss_one (ps_ret (pe_rng (pe_ordL 65 n_ord) (pv 0) (pe_ordL 90 n_ord) (mono := mono_var)))), ?_⟩)
  obtain ⟨n, rfl, q⟩ := h
  refine ⟨_, rfl, _, rfl, fin_bl ?_ (q _ (Same.refl _))⟩
  rw [Bool.eq_iff_iff]; simp [Kh450.isUpper]; omega
abbrev s_is_digit : Stmt := top 12
theorem sc_is_digit : FnScope ["byte"] ["byte"] (defScope s_is_digit) := ⟨rfl, rfl, rfl, by decide +kernel, rfl, by decide +kernel, by decide +kernel⟩
theorem ok_is_digit (D : Dn K mg "is_digit" s_is_digit ["byte"]) (n_ord : mg "ord" = none) : OwnOk P w K mg base CX0 1 "is_digit" ["byte"] (spN1 fun n => .bl (Kh450.isDigit n)) := by
  refine own_ok D sc_is_digit (fun _ _ _ _ h => spN1_len h) (fun f cdv A outer s H vs Q E hr h => ⟨_, (pss_one (ps_ret (pe_rng (pe_ordL 48 n_ord) (pv 0) (pe_ordL 57 n_ord) (mono := mono_var)))), ?_⟩)
  obtain ⟨n, rfl, q⟩ := h
  refine ⟨_, rfl, _, rfl, fin_bl ?_ (q _ (Same.refl _))⟩
  rw [Bool.eq_iff_iff]; simp [Kh450.isDigit]; omega
abbrev s_is_continuation : Stmt := top 14
theorem sc_is_continuation : FnScope ["byte"] ["byte"] (defScope s_is_continuation) := ⟨rfl, rfl, rfl, by decide +kernel, rfl, by decide +kernel, by decide +kernel⟩
theorem ok_is_continuation (D : Dn K mg "is_continuation" s_is_continuation ["byte"]) : OwnOk P w K mg base CX0 1 "is_continuation" ["byte"] (spN1 fun n => .bl (Kh450.isContinuation n)) := by
  refine own_ok D sc_is_continuation (fun _ _ _ _ h => spN1_len h) (fun f cdv A outer s H vs Q E hr h => ⟨_, (pss_one (ps_ret (pe_rng pe_int (pv 0) pe_int (mono := mono_var)))), ?_⟩)
  obtain ⟨n, rfl, q⟩ := h
  refine ⟨_, rfl, _, rfl, fin_bl ?_ (q _ (Same.refl _))⟩
  rw [Bool.eq_iff_iff]; simp [Kh450.isContinuation]; omega
def isLD (n : Nat) : Bool := Kh450.isLower n || Kh450.isUpper n || Kh450.isDigit n
abbrev s_is_letter_or_digit : Stmt := top 13
theorem sc_is_letter_or_digit : FnScope ["byte"] ["byte"] (defScope s_is_letter_or_digit) := ⟨rfl, rfl, rfl, by decide +kernel, rfl, by decide +kernel, by decide +kernel⟩
theorem ok_is_letter_or_digit (D : Dn K mg "is_letter_or_digit" s_is_letter_or_digit ["byte"]) (o_is_lowercase : OwnOk P w K mg base CX0 1 "is_lowercase" ["byte"] (spN1 fun n => .bl (Kh450.isLower n))) (o_is_uppercase : OwnOk P w K mg base CX0 1 "is_uppercase" ["byte"] (spN1 fun n => .bl (Kh450.isUpper n))) (o_is_digit : OwnOk P w K mg base CX0 1 "is_digit" ["byte"] (spN1 fun n => .bl (Kh450.isDigit n))) :
    OwnOk P w K mg base CX0 2 "is_letter_or_digit" ["byte"] (spN1 fun n => .bl (isLD n)) := by
  refine own_ok D sc_is_letter_or_digit (fun _ _ _ _ h => spN1_len h) (fun f cdv A outer s H vs Q E hr h => ⟨_, (pss_one (ps_ret (pe_or (pe_own o_is_lowercase (hr.mono (by omega)) rfl pass0 (pa_cons (pv 0) pa_nil)) (pe_or (pe_own o_is_uppercase (hr.mono (by omega)) rfl pass0 (pa_cons (pv 0) pa_nil)) (pe_one (pe_own o_is_digit (hr.mono (by omega)) rfl pass0 (pa_cons (pv 0) pa_nil))))))), ?_⟩)
  obtain ⟨n, rfl, q⟩ := h
  walk_at "sx"
  intro H1 s1
  simp only [isLD] at q
  cases h1 : Kh450.isLower n
  · rw [h1] at q; simp only [Bool.false_or, Bool.false_eq_true, if_false] at q ⊢
    intro H2 s2
    cases h2 : Kh450.isUpper n
    · rw [h2] at q; simp only [Bool.false_or, Bool.false_eq_true, if_false] at q ⊢
      intro H3 s3
      refine q _ ?_
      walk_at "sm"
    · rw [h2] at q
      simp only [if_true]
      refine q _ ?_
      walk_at "sm"
  · rw [h1] at q
    simp only [if_true]
    refine q _ ?_
    walk_at "sm"
def annLen (n : Nat) : Nat := if n < 128 then 1 else if 194 ≤ n ∧ n ≤ 223 then 2 else if 224 ≤ n ∧ n ≤ 239 then 3 else if 240 ≤ n ∧ n ≤ 244 then 4 else 0
abbrev s_announced_length : Stmt := top 15
theorem sc_announced_length : FnScope ["first"] ["first"] (defScope s_announced_length) := ⟨rfl, rfl, rfl, by decide +kernel, rfl, by decide +kernel, by decide +kernel⟩
theorem ok_announced_length (D : Dn K mg "announced_length" s_announced_length ["first"]) : OwnOk P w K mg base CX0 1 "announced_length" ["first"] (spN1 fun n => .int (annLen n : Nat)) := by
  refine own_ok D sc_announced_length (fun _ _ _ _ h => spN1_len h) (fun f cdv A outer s H vs Q E hr h => ⟨_, (pss_cons (ps_if (pt_cmpR op_lt (pv 0) pe_int (nomark _)) (pss_one (ps_ret pe_int)) pss_nil)
    (pss_cons (ps_if (pt_rng pe_int (pv 0) pe_int (mono := mono_var)) (pss_one (ps_ret pe_int)) pss_nil)
    (pss_cons (ps_if (pt_rng pe_int (pv 0) pe_int (mono := mono_var)) (pss_one (ps_ret pe_int)) pss_nil)
    (pss_cons (ps_if (pt_rng pe_int (pv 0) pe_int (mono := mono_var)) (pss_one (ps_ret pe_int)) pss_nil)
    (pss_one (ps_ret pe_int)))))), ?_⟩)
  obtain ⟨n, rfl, q⟩ := h
  have q := q _ (Same.refl _)
  simp only [annLen] at q
  walk_at "sx"
  simp only [decide_eq_true_eq, Bool.and_eq_true]
  by_cases h1 : n < 128
  · rw [if_pos (by omega)]; rw [if_pos h1] at q; exact q
  rw [if_neg (by omega)]; rw [if_neg h1] at q
  by_cases h2 : 194 ≤ n ∧ n ≤ 223
  · rw [if_pos (by omega)]; rw [if_pos h2] at q; exact q
  rw [if_neg (by omega)]; rw [if_neg h2] at q
  by_cases h3 : 224 ≤ n ∧ n ≤ 239
  · rw [if_pos (by omega)]; rw [if_pos h3] at q; exact q
  rw [if_neg (by omega)]; rw [if_neg h3] at q
  by_cases h4 : 240 ≤ n ∧ n ≤ 244
  · rw [if_pos (by omega)]; rw [if_pos h4] at q; exact q
  rw [if_neg (by omega)]; rw [if_neg h4] at q
  exact q
/-- a def of two small numbers -/
def spN2 (f : Nat → Nat → V) : Sp := fun vs H Q _ => ∃ n m : Nat, vs = [.int n, .int m] ∧ ∀ H', Same H H' → Q (f n m) H'
theorem spN2_len {f : Nat → Nat → V} {vs H Q E} (h : spN2 f vs H Q E) : vs.length = 2 := by
  obtain ⟨i, j, rfl, _⟩ := h
  rfl
def sbf (a b : Nat) : Bool := if a = 224 then decide (160 ≤ b) else if a = 237 then decide (b ≤ 159) else if a = 240 then decide (144 ≤ b) else if a = 244 then decide (b ≤ 143) else true
abbrev s_second_byte_fits : Stmt := top 16
theorem sc_second_byte_fits : FnScope ["first", "second"] ["first", "second"] (defScope s_second_byte_fits) := ⟨rfl, rfl, rfl, by decide +kernel, rfl, by decide +kernel, by decide +kernel⟩
theorem ok_second_byte_fits (D : Dn K mg "second_byte_fits" s_second_byte_fits ["first", "second"]) : OwnOk P w K mg base CX0 1 "second_byte_fits" ["first", "second"] (spN2 fun a b => .bl (sbf a b)) := by
  refine own_ok D sc_second_byte_fits (fun _ _ _ _ h => spN2_len h) (fun f cdv A outer s H vs Q E hr h => ⟨_, (pss_cons (ps_if (pt_cmpR op_eq (pv 0) pe_int (nomark _)) (pss_one (ps_ret (pe_cmpR op_ge (pv 1) pe_int (nomark _)))) pss_nil)
    (pss_cons (ps_if (pt_cmpR op_eq (pv 0) pe_int (nomark _)) (pss_one (ps_ret (pe_cmpR op_le (pv 1) pe_int (nomark _)))) pss_nil)
    (pss_cons (ps_if (pt_cmpR op_eq (pv 0) pe_int (nomark _)) (pss_one (ps_ret (pe_cmpR op_ge (pv 1) pe_int (nomark _)))) pss_nil)
    (pss_cons (ps_if (pt_cmpR op_eq (pv 0) pe_int (nomark _)) (pss_one (ps_ret (pe_cmpR op_le (pv 1) pe_int (nomark _)))) pss_nil)
    (pss_one (ps_ret pe_bl)))))), ?_⟩)
  obtain ⟨n, m, rfl, q⟩ := h
  have q := q _ (Same.refl _)
  simp only [sbf] at q
  walk_at "sx"
  simp only [decide_eq_true_eq]
  by_cases h1 : n = 224
  · rw [if_pos (by omega)]; rw [if_pos h1] at q; exact fin_bl (dec_eq (by omega)) q
  rw [if_neg (by omega)]; rw [if_neg h1] at q
  by_cases h2 : n = 237
  · rw [if_pos (by omega)]; rw [if_pos h2] at q; exact fin_bl (dec_eq (by omega)) q
  rw [if_neg (by omega)]; rw [if_neg h2] at q
  by_cases h3 : n = 240
  · rw [if_pos (by omega)]; rw [if_pos h3] at q; exact fin_bl (dec_eq (by omega)) q
  rw [if_neg (by omega)]; rw [if_neg h3] at q
  by_cases h4 : n = 244
  · rw [if_pos (by omega)]; rw [if_pos h4] at q; exact fin_bl (dec_eq (by omega)) q
  rw [if_neg (by omega)]; rw [if_neg h4] at q
  exact q
/-! ### sequences -/
def seqLen : List Nat → Nat
  | [] => 0
  | a :: r => if (r.take (annLen a - 1)).length + 1 < annLen a then 0 else if (r.take (annLen a - 1)).all Kh450.isContinuation then (match r.take (annLen a - 1) with
    | [] => annLen a
    | b :: _ => if sbf a b then annLen a else 0) else 0
/-- sequence_length(data, start) -/
def spSeq (K : PySem.W.Frag) : Sp := fun vs H Q _ => ∃ (v : V) (d : List Nat) (i : Nat), vs = [v, .int i] ∧ Lr K d v H ∧ i < d.length ∧ ∀ H', Same H H' → Q (.int (seqLen (d.drop i) : Nat)) H'
theorem cut_seq (d : List Nat) (i n : Nat) (hi : i < d.length) (a : Nat) (r : List Nat) (h : d.drop i = a :: r) : cutV (nV d) (some ((i : Int) + 1)) (some ((i : Int) + (n : Int))) = nV (r.take (n - 1)) := by
  have hr : r = d.drop (i + 1) := by
    have := congrArg List.tail h
    simpa [List.tail_drop] using this.symm
  unfold cutV
  rw [show ((i : Int) + 1) = ((i + 1 : Nat) : Int) by omega, show ((i : Int) + (n : Int)) = ((i + n : Nat) : Int) by omega, HT.sIx_nat, HT.sIx_nat, List.length_map]
  rw [show min (i + 1) d.length = i + 1 by omega]
  rw [hr, ← List.map_drop, ← List.map_take]
  congr 1
  by_cases hn : i + n ≤ d.length
  · rw [show min (i + n) d.length - (i + 1) = n - 1 by omega]
  · rw [List.take_of_length_le (l := d.drop (i + 1)), List.take_of_length_le]
    · simp; omega
    · simp; omega
abbrev s_sequence_length : Stmt := top 17
theorem sc_sequence_length : FnScope ["data", "start", "length", "rest", "byte"] ["data", "start"] (defScope s_sequence_length) := ⟨rfl, rfl, rfl, by decide +kernel, rfl, by decide +kernel, by decide +kernel⟩
theorem ok_sequence_length (D : Dn K mg "sequence_length" s_sequence_length ["data", "start"]) (n_len : mg "len" = none) (o_announced_length : OwnOk P w K mg base CX0 1 "announced_length" ["first"] (spN1 fun n => .int (annLen n : Nat)))
    (o_is_continuation : OwnOk P w K mg base CX0 1 "is_continuation" ["byte"] (spN1 fun n => .bl (Kh450.isContinuation n))) (o_second_byte_fits : OwnOk P w K mg base CX0 1 "second_byte_fits" ["first", "second"] (spN2 fun a b => .bl (sbf a b))) :
    OwnOk P w K mg base CX0 2 "sequence_length" ["data", "start"] (spSeq K) := by
  refine own_ok D sc_sequence_length (fun _ _ _ _ h => by obtain ⟨v, d, i, rfl, _⟩ := h; rfl) (fun f cdv A outer s H vs Q E hr h => ⟨_, (pss_cons (ps_set (i := 2) sc_sequence_length.nd rfl (by first | exact Or.inl rfl | exact Or.inr rfl) (pe_own o_announced_length (hr.mono (by omega)) rfl pass0 (pa_cons (pe_ix (kix_list (K := K) rfl) (pv 0) (pv 1) (fun _ _ => rfl)) pa_nil)))
    (pss_cons (ps_set (i := 3) sc_sequence_length.nd rfl (by first | exact Or.inl rfl | exact Or.inr rfl) (pe_slice (ksl_list (K := K) rfl) (pv 0) (po_some (pe_op op_add (pv 1) pe_int)) (po_some (pe_op op_add (pv 1) (pv 2)))))
    (pss_cons (ps_if (pt_cmpR op_lt (pe_callB (kcall_len (K := K) rfl) (by rfl) n_len PySem.boot_len (pa_cons (pv 3) pa_nil)) (pe_op op_sub (pv 2) pe_int) (nomark _)) (pss_one (ps_ret pe_int)) pss_nil)
    (pss_cons (ps_for PassesOwn.never rfl (kpi_list (K := K) rfl (pv 3)) (pg_name (i := 4) sc_sequence_length.nd rfl (by first | exact Or.inl rfl | exact Or.inr rfl))
    (pss_one (ps_if (pt_not (pt_val (pe_own o_is_continuation (hr.mono (by omega)) rfl pass0 (pa_cons (pv 4) pa_nil)))) (pss_one (ps_ret pe_int)) pss_nil)))
    (pss_cons (ps_if (PW.pt (pw_and (kpt_truth (K := K) rfl (pv 3)) (pw_and1 (pt_not (pt_val (pe_own o_second_byte_fits (hr.mono (by omega)) rfl pass0 (pa_cons (pe_ix (kix_list (K := K) rfl) (pv 0) (pv 1) (fun _ _ => rfl)) (pa_cons (pe_ix (kix_list (K := K) rfl) (pv 3) pe_int (fun _ _ => rfl)) pa_nil)))))))) (pss_one (ps_ret pe_int)) pss_nil)
    (pss_one (ps_ret (pv 2)))))))), ?_⟩)
  obtain ⟨v, d, i, rfl, ⟨a, rfl, hS⟩, hi, q⟩ := h
  obtain ⟨c, r, hd⟩ : ∃ c r, d.drop i = c :: r := by
    cases e : d.drop i with
    | nil => rw [List.drop_eq_nil_iff] at e; omega
    | cons c r => exact ⟨c, r, rfl⟩
  rw [hd] at q
  have hc : (nV d)[i]? = some (.int (c : Int)) := nV_at (by have := congrArg (fun l => l[0]?) hd; simpa using this)
  refine ⟨_, rfl, _, rfl, a, _, i, _, rfl, rfl, hS, atI_nat hc, c, rfl, fun H1 s1 => ?_⟩
  walk_at "sx"
  refine ⟨_, s1.seq hS, fun p hp => ⟨_, .inl (SqL.of upd_same), ?_⟩⟩
  rw [cut_seq d i (annLen c) hi c r hd]
  have s2 : Same H (upd H1 p (.lst (nV (r.take (annLen c - 1))))) := s1.trans (same_new hp)
  simp only [seqLen] at q
  generalize hrest : r.take (annLen c - 1) = rest at q s2 ⊢
  refine ite2 (fun h1 => ?_) (fun h1 => ?_)
  · rw [decide_eq_true_eq, List.length_map] at h1
    rw [if_pos (by omega)] at q
    exact q _ s2
  rw [decide_eq_true_eq, List.length_map] at h1
  rw [if_neg (by omega)] at q
  refine ⟨_, rfl, p, rfl, ⟨_, SqL.of upd_same⟩, for_list (xs := nV rest) (fun j σ' H' => Same (upd H1 p (.lst (nV rest))) H' ∧ (∃ x, σ' = [some (.ref a), some (.int i), some (.int (annLen c : Nat)), some (.ref p), x]) ∧ (rest.take j).all Kh450.isContinuation = true)
    ⟨Same.refl _, ⟨_, rfl⟩, rfl⟩ (fun j σ' H' _ ⟨s3, _⟩ => s3.seq (SqL.of upd_same)) ?_ ?_⟩
  · rintro j x σ' H' hx ⟨s3, ⟨y, rfl⟩, hall⟩
    obtain ⟨b, hb, rfl⟩ := nV_get hx
    walk_at "sx"
    intro H3 s4
    cases hcb : Kh450.isContinuation b with
    | true =>
      simp only [Bool.not_true, Bool.false_eq_true, if_false]
      refine ⟨s3.trans s4, ⟨_, rfl⟩, ?_⟩
      rw [take_at hb, List.all_append, hall]
      simp [hcb]
    | false =>
      simp only [Bool.not_false, if_true]
      have hn : rest.all Kh450.isContinuation = false := List.all_eq_false.mpr ⟨b, List.mem_of_getElem? hb, by rw [hcb]; decide⟩
      rw [hn, if_neg (by decide)] at q
      exact q _ ((s2.trans s3).trans s4)
  · rintro σ' H' ⟨s3, ⟨y, rfl⟩, hall⟩
    rw [List.length_map, List.take_length] at hall
    rw [hall, if_pos rfl] at q
    walk_at "sx"
    have hR : SqL K H' p (nV rest) := s3.seq (SqL.of upd_same)
    cases rest with
    | nil =>
      refine ⟨_, .inl ⟨_, hR, rfl⟩, ?_⟩
      exact q _ (s2.trans s3)
    | cons b t =>
      refine ⟨_, .inl ⟨_, hR, rfl⟩, ?_⟩
      refine iteT ?_
      refine ⟨_, ((s2.trans s3)).seq hS, _, atI_nat hc, _, hR, _, atI_nat (j := 0) rfl, c, b, rfl, fun H4 s4 => ?_⟩
      have q := q _ ((s2.trans s3).trans s4)
      refine ⟨sbf c b, rfl, ?_⟩
      cases hs : sbf c b with
      | true =>
        simp only [hs, if_true] at q
        exact iteF q
      | false =>
        simp only [hs, Bool.false_eq_true, if_false] at q
        exact iteT q
/-- is_utf8(data) -/
def utf8Loop : Nat → List Nat → Bool
  | _, [] => true
  | 0, _ => false
  | k + 1, l => if seqLen l = 0 then false else utf8Loop k (l.drop (seqLen l))
def spUtf8 (K : PySem.W.Frag) : Sp := fun vs H Q _ => ∃ (v : V) (d : List Nat), vs = [v] ∧ Lr K d v H ∧ ∀ H', Same H H' → Q (.bl (utf8Loop d.length d)) H'
theorem utf8_fuel : ∀ (k k' : Nat) (l : List Nat), l.length ≤ k → l.length ≤ k' → utf8Loop k l = utf8Loop k' l
  | 0, 0, _, _, _ => rfl
  | k, k', [], _, _ => by cases k <;> cases k' <;> rfl
  | 0, _, a :: r, h, _ => by simp at h
  | _, 0, a :: r, _, h => by simp at h
  | k + 1, k' + 1, a :: r, h, h' => by
    show (if seqLen (a :: r) = 0 then false else utf8Loop k ((a :: r).drop (seqLen (a :: r)))) = (if seqLen (a :: r) = 0 then false else utf8Loop k' ((a :: r).drop (seqLen (a :: r))))
    by_cases z : seqLen (a :: r) = 0
    · rw [if_pos z, if_pos z]
    · rw [if_neg z, if_neg z]
      exact utf8_fuel k k' _ (by rw [List.length_drop]; simp only [List.length_cons] at h ⊢; omega) (by rw [List.length_drop]; simp only [List.length_cons] at h' ⊢; omega)
abbrev s_is_utf8 : Stmt := top 18
theorem sc_is_utf8 : FnScope ["data", "position", "length"] ["data"] (defScope s_is_utf8) := ⟨rfl, rfl, rfl, by decide +kernel, rfl, by decide +kernel, by decide +kernel⟩
theorem ok_is_utf8 (D : Dn K mg "is_utf8" s_is_utf8 ["data"]) (n_len : mg "len" = none) (o_sequence_length : OwnOk P w K mg base CX0 2 "sequence_length" ["data", "start"] (spSeq K)) : OwnOk P w K mg base CX0 3 "is_utf8" ["data"] (spUtf8 K) := by
  refine own_ok D sc_is_utf8 (fun _ _ _ _ h => by obtain ⟨v, d, rfl, _⟩ := h; rfl) (fun f cdv A outer s H vs Q E hr h => ⟨_, (pss_cons (ps_set (i := 1) sc_is_utf8.nd rfl (by first | exact Or.inl rfl | exact Or.inr rfl) pe_int)
    (pss_cons (ps_while PassesOwn.never (pt_cmpR op_lt (pv 1) (pe_callB (kcall_len (K := K) rfl) (by rfl) n_len PySem.boot_len (pa_cons (pv 0) pa_nil)) (nomark _)) (pss_cons (ps_set (i := 2) sc_is_utf8.nd rfl (by first | exact Or.inl rfl | exact Or.inr rfl) (pe_own o_sequence_length (hr.mono (by omega)) rfl pass0 (pa_cons (pv 0) (pa_cons (pv 1) pa_nil))))
    (pss_cons (ps_if (pt_cmpR op_eq (pv 2) pe_int (nomark _)) (pss_one (ps_ret pe_bl)) pss_nil)
    (pss_one (ps_aug (i := 1) sc_is_utf8.nd rfl (by first | exact Or.inl rfl | exact Or.inr rfl) (pv 2) ip_add)))))
    (pss_one (ps_ret pe_bl)))), ?_⟩)
  obtain ⟨v, d, rfl, ⟨a, rfl, hS⟩, q⟩ := h
  walk_at "sx"
  refine ⟨fun m σ' H' => Same H H' ∧ ∃ (i : Nat) (x : Option V), σ' = [some (.ref a), some (.int (i : Int)), x] ∧ m = d.length - i ∧ utf8Loop d.length d = utf8Loop d.length (d.drop i), ⟨_, Same.refl _, 0, _, rfl, rfl, rfl⟩, ?_⟩
  rintro m σ' H' ⟨s1, i, x, rfl, rfl, hu⟩
  walk_at "sx"
  refine ⟨_, .inl (s1.seq hS), ?_⟩
  rw [List.length_map]
  refine ite2 (fun h => ?_) (fun h => ?_)
  · rw [decide_eq_true_eq] at h
    have hi : i < d.length := by omega
    refine ⟨fun σ2 H2 => Same H H2 ∧ ∃ (i' : Nat) (x : Option V), σ2 = [some (.ref a), some (.int (i' : Int)), x] ∧ i < i' ∧ utf8Loop d.length d = utf8Loop d.length (d.drop i'), ?_, ?_⟩
    · rintro σ2 H2 ⟨s2, i', y, rfl, hi', hu'⟩
      exact ⟨_, by omega, s2, i', y, rfl, rfl, hu'⟩
    · refine ⟨_, d, i, rfl, ⟨a, rfl, s1.seq hS⟩, hi, fun H3 s3 => ?_⟩
      walk_at "sx"
      have hne : d.drop i ≠ [] := by intro z; rw [List.drop_eq_nil_iff] at z; omega
      obtain ⟨k, hk⟩ : ∃ k, d.length = k + 1 := ⟨d.length - 1, by omega⟩
      have step : utf8Loop d.length (d.drop i) = if seqLen (d.drop i) = 0 then false else utf8Loop d.length (d.drop (i + seqLen (d.drop i))) := by
        conv => lhs; rw [hk]
        cases e : d.drop i with
        | nil => exact absurd e hne
        | cons c r =>
          show (if seqLen (c :: r) = 0 then false else utf8Loop k ((c :: r).drop (seqLen (c :: r)))) = _
          by_cases z : seqLen (c :: r) = 0
          · rw [if_pos z, if_pos z]
          · rw [if_neg z, if_neg z, ← e, List.drop_drop]
            have hl : ((d.drop (i + seqLen (d.drop i))) : List Nat).length ≤ k := by
              rw [List.length_drop]; rw [← e] at z; omega
            exact utf8_fuel _ _ _ hl (by omega)
      refine ite2 (fun z => ?_) (fun z => ?_)
      · have z' : seqLen (d.drop i) = 0 := by simpa using z
        rw [if_pos z'] at step
        have q := q _ (s1.trans s3)
        rw [hu, step] at q
        exact q
      · have z' : ¬ seqLen (d.drop i) = 0 := by simpa using z
        rw [if_neg z'] at step
        refine ⟨_, rfl, _, rfl, _, _, rfl, rfl, s1.trans s3, i + seqLen (d.drop i), some (.int (seqLen (d.drop i) : Nat)), by simp, by omega, hu.trans step⟩
  · rw [decide_eq_true_eq] at h
    have e : d.drop i = [] := by rw [List.drop_eq_nil_iff]; omega
    rw [e] at hu
    have q := q _ s1
    rw [hu, show utf8Loop d.length [] = true by cases d.length <;> rfl] at q
    exact q

end
end Bt

namespace Bt
open Kh450 (decodeUtf8 encodeUtf8 isContinuation isScalar)
/-! ### UTF-8 -/
theorem seq_dec : ∀ (l : List Nat), (∀ b ∈ l, b < 256) → (match decodeUtf8 l with
  | none => seqLen l = 0
  | some (c, r) => 0 < seqLen l ∧ l.drop (seqLen l) = r ∧ l.take (seqLen l) = encodeUtf8 c)
  | [], _ => rfl
  | a :: r, hb => by
    have ha : a < 256 := hb a (by simp)
    unfold decodeUtf8
    dsimp only
    by_cases h1 : a < 0x80
    · rw [if_pos h1]
      have e : seqLen (a :: r) = 1 := by simp [seqLen, annLen, h1]
      simp [e, encodeUtf8, h1]
    rw [if_neg h1]
    by_cases h2 : a < 0xC2
    · rw [if_pos h2]
      have e : annLen a = 0 := by unfold annLen; rw [if_neg h1, if_neg (by omega), if_neg (by omega), if_neg (by omega)]
      simp [seqLen, e]
    rw [if_neg h2]
    by_cases h3 : a < 0xE0
    · rw [if_pos h3]
      have e : annLen a = 2 := by unfold annLen; rw [if_neg h1, if_pos (by omega)]
      have hs : ∀ b, sbf a b = true := fun b => by unfold sbf; rw [if_neg (by omega), if_neg (by omega), if_neg (by omega), if_neg (by omega)]
      cases r with
      | nil => simp [seqLen, e]
      | cons b r =>
        have hbb : b < 256 := hb b (by simp)
        by_cases hc : isContinuation b = true
        · have e2 : seqLen (a :: b :: r) = 2 := by simp [seqLen, e, hc, hs]
          simp only [hc, if_true]
          rw [e2]
          refine ⟨by omega, rfl, ?_⟩
          simp only [isContinuation, Bool.and_eq_true, decide_eq_true_eq] at hc
          unfold encodeUtf8
          rw [if_neg (by omega), if_pos (by omega)]
          simp
          omega
        · simp only [hc, if_false]
          simp [seqLen, e, hc]
    rw [if_neg h3]
    by_cases h4 : a < 0xF0
    · rw [if_pos h4]
      have e : annLen a = 3 := by unfold annLen; rw [if_neg h1, if_neg (by omega), if_pos (by omega)]
      match r, hb with
      | [], _ => simp [seqLen, e]
      | [b], _ => simp [seqLen, e]
      | b :: c :: r, hb =>
        have hbb : b < 256 := hb b (by simp)
        have hcc : c < 256 := hb c (by simp)
        dsimp only
        have e1 : seqLen (a :: b :: c :: r) = if isContinuation b && isContinuation c then (if sbf a b then 3 else 0) else 0 := by
          simp [seqLen, e]
        rw [e1]
        cases hb1 : isContinuation b <;> cases hc1 : isContinuation c <;> simp only [Bool.false_and, Bool.and_false, Bool.true_and, Bool.false_eq_true, if_false, if_true, Bool.and_self]
        simp only [isContinuation, Bool.and_eq_true, decide_eq_true_eq] at hb1 hc1
        have hs : sbf a b = (decide (0x800 ≤ a % 16 * 4096 + b % 64 * 64 + c % 64) && isScalar (a % 16 * 4096 + b % 64 * 64 + c % 64)) := by
          rw [Bool.eq_iff_iff]
          unfold sbf isScalar
          simp only [Bool.and_eq_true, decide_eq_true_eq, Bool.not_eq_true', Bool.and_eq_false_iff, decide_eq_false_iff_not]
          repeat' split
          all_goals (simp only [decide_eq_true_eq, true_iff]; omega)
        rw [hs]
        by_cases hq : (decide (0x800 ≤ a % 16 * 4096 + b % 64 * 64 + c % 64) && isScalar (a % 16 * 4096 + b % 64 * 64 + c % 64)) = true
        · simp only [hq, if_true]
          simp only [Bool.and_eq_true, decide_eq_true_eq] at hq
          refine ⟨by omega, rfl, ?_⟩
          unfold encodeUtf8
          rw [if_neg (by omega), if_neg (by omega), if_pos (by omega)]
          simp
          omega
        · simp only [hq, if_false, Bool.false_eq_true]
    rw [if_neg h4]
    by_cases h5 : a < 0xF5
    · rw [if_pos h5]
      have e : annLen a = 4 := by unfold annLen; rw [if_neg h1, if_neg (by omega), if_neg (by omega), if_pos (by omega)]
      match r, hb with
      | [], _ => simp [seqLen, e]
      | [b], _ => simp [seqLen, e]
      | [b, c], _ => simp [seqLen, e]
      | b :: c :: d :: r, hb =>
        have hbb : b < 256 := hb b (by simp)
        have hcc : c < 256 := hb c (by simp)
        have hdd : d < 256 := hb d (by simp)
        dsimp only
        have e1 : seqLen (a :: b :: c :: d :: r) = if isContinuation b && isContinuation c && isContinuation d then (if sbf a b then 4 else 0) else 0 := by
          simp [seqLen, e, Bool.and_assoc]
        rw [e1]
        cases hb1 : isContinuation b <;> cases hc1 : isContinuation c <;> cases hd1 : isContinuation d <;> simp only [Bool.false_and, Bool.and_false, Bool.true_and, Bool.false_eq_true, if_false, if_true, Bool.and_self]
        simp only [isContinuation, Bool.and_eq_true, decide_eq_true_eq] at hb1 hc1 hd1
        have hs : sbf a b = (decide (0x10000 ≤ a % 8 * 262144 + b % 64 * 4096 + c % 64 * 64 + d % 64) && isScalar (a % 8 * 262144 + b % 64 * 4096 + c % 64 * 64 + d % 64)) := by
          rw [Bool.eq_iff_iff]
          unfold sbf isScalar
          simp only [Bool.and_eq_true, decide_eq_true_eq, Bool.not_eq_true', Bool.and_eq_false_iff, decide_eq_false_iff_not]
          repeat' split
          all_goals (simp only [decide_eq_true_eq, true_iff]; omega)
        rw [hs]
        by_cases hq : (decide (0x10000 ≤ a % 8 * 262144 + b % 64 * 4096 + c % 64 * 64 + d % 64) && isScalar (a % 8 * 262144 + b % 64 * 4096 + c % 64 * 64 + d % 64)) = true
        · simp only [hq, if_true]
          simp only [Bool.and_eq_true, decide_eq_true_eq] at hq
          refine ⟨by omega, rfl, ?_⟩
          unfold encodeUtf8
          rw [if_neg (by omega), if_neg (by omega), if_neg (by omega)]
          simp
          omega
        · simp only [hq, if_false, Bool.false_eq_true]
    · rw [if_neg h5]
      have e : annLen a = 0 := by unfold annLen; rw [if_neg h1, if_neg (by omega), if_neg (by omega), if_neg (by omega)]
      simp [seqLen, e]
end Bt

namespace Bt
open PySem PySem.Spec PyProof.Rows L2
local macro_rules | `(tactic| walk_at "sx") => `(tactic| simp only [cxK, tTru, rLen, rListOf, rTupOf, tRet, tRetN, tChain, tRng, tCB, tCons, tNil, tC, tVar, tOp, tUn, tTest, tB, tAnd, tOr, tNot, tIfS, tSeq, tIf, tOrV, tAndV, tNotV, tCall, tSl, tPart, tNoPart, tLst, tTup, tBM, tBM0, rExtendS, iList, iTup, iSeqV, rIxL, rIxT, rSlL, rAppend, rExtend, rCat, rI0, rI, rIxS, rEq, rNe, rU, tAsg, gName, tDrop, tNext, scal, L2.start, List.map_cons, List.map_nil, List.length_cons, List.length_nil, Nat.reduceAdd, Nat.reduceSub, List.replicate_succ, List.replicate_zero, List.append_nil, List.cons_append, List.nil_append, List.getElem?_cons_zero, List.getElem?_cons_succ, Option.some.injEq, exists_eq_left', exists_eq_left, V.int.injEq, V.bl.injEq, V.str.injEq, V.ref.injEq, List.cons.injEq, and_true, true_and, exists_and_left, List.set_cons_zero, List.set_cons_succ, spN1_run, tFC, sFC, sFCAug, tMeth, tMake, sRaise, tErF, rAdd, rPop, tM1, tCallL, Option.some.injEq, HO.ins.injEq])
local macro_rules | `(tactic| walk_at "sm") => `(tactic| (repeat (first | exact Same.refl _ | assumption | (refine Same.trans ?_ (same_new (by assumption))) | (refine Same.trans ?_ (by assumption)))))
section
variable {P : Program} {w : World} {K : PySem.W.Frag} {mg : Str → Option Value} {base : Heap}
/-! ### pieces -/
def addPiece (ps : List (List Nat)) (b : Nat) : List (List Nat) := match ps.getLast? with
  | some p => (match p.getLast? with
    | some c => if Kh450.isWhite c = Kh450.isWhite b then ps.dropLast ++ [p ++ [b]] else ps ++ [[b]]
    | none => ps ++ [[b]])
  | none => ps ++ [[b]]
def pieces (l : List Nat) : List (List Nat) := l.foldl addPiece []
theorem pieces_snoc (l : List Nat) (b : Nat) : pieces (l ++ [b]) = addPiece (pieces l) b := by
  unfold pieces
  rw [List.foldl_append]
  rfl
def spPieces (K : PySem.W.Frag) : Sp := spG (fun l vs G => ∃ v, vs = [v] ∧ Lq K l v G ∧ l.length ≤ 1000000) (fun l => Lss (pieces l))
theorem addPiece_nil (b : Nat) : addPiece [] b = [[b]] := rfl
theorem addPiece_snoc (qs : List (List Nat)) (p : List Nat) (c b : Nat) : addPiece (qs ++ [p ++ [c]]) b = if Kh450.isWhite c = Kh450.isWhite b then qs ++ [(p ++ [c]) ++ [b]] else (qs ++ [p ++ [c]]) ++ [[b]] := by
  unfold addPiece
  simp
/-- the pieces as they lie: all but the last one published -/
def PcAt (G H0 H : Hp) (F : Addr) (n : Nat) (ps : List (List Nat)) : Prop := G F = none ∧ H0 F = none ∧ ((ps = [] ∧ H F = some (.lst [])) ∨
  ∃ qs p vs l, ps = qs ++ [p] ∧ p ≠ [] ∧ p.length ≤ n ∧ qs.length < n ∧ H F = some (.lst (vs ++ [.ref l])) ∧ Paired (fun l v => Ls l v G) qs vs ∧ H l = some (.lst (nV p)) ∧ G l = none ∧ H0 l = none ∧ l ≠ F)
abbrev s_pieces : Stmt := top 19
theorem sc_pieces : FnScope ["text", "found", "byte"] ["text"] (defScope s_pieces) := ⟨rfl, rfl, rfl, by decide +kernel, rfl, by decide +kernel, by decide +kernel⟩
theorem ok_pieces (D : Dn K mg "pieces" s_pieces ["text"]) (o_is_space : OwnOk P w K mg base CX0 1 "is_space" ["byte"] (spN1 fun n => .bl (Kh450.isWhite n))) : OwnOk P w K mg base CX0 2 "pieces" ["text"] (spPieces K) := by
  refine own_ok D sc_pieces (fun _ _ _ _ h => by obtain ⟨G, l, _, ⟨v, rfl, _⟩, _⟩ := h; rfl) (fun f cdv A outer s H vs Q E hr h => ⟨_, (pss_cons (ps_set (i := 1) sc_pieces.nd rfl (by first | exact Or.inl rfl | exact Or.inr rfl) (pe_lst pa_nil))
    (pss_cons (ps_for PassesOwn.never rfl (kpi_seqv (K := K) rfl (pv 0)) (pg_name (i := 2) sc_pieces.nd rfl (by first | exact Or.inl rfl | exact Or.inr rfl))
    (pss_one (ps_if (PW.pt (pw_and (kpt_truth (K := K) rfl (pv 1)) (pw_and1 (pt_cmpR op_eq (pe_own o_is_space (hr.mono (by omega)) rfl pass0 (pa_cons (pe_ix (kix_list (K := K) rfl) (pe_ix (kix_list (K := K) rfl) (pv 1) (pe_un un_neg pe_int) (fun _ _ => rfl)) (pe_un un_neg pe_int) (fun _ _ => rfl)) pa_nil)) (pe_own o_is_space (hr.mono (by omega)) rfl pass0 (pa_cons (pv 2) pa_nil)) (nomark _))))) (pss_one (ps_expr (kpe_bm (K := K) rfl PySem.F.plainAttrs_list PySem.F.slot_list_append PySem.F.type_list_append mt_append (pe_ix (kix_list (K := K) rfl) (pv 1) (pe_un un_neg pe_int) (fun _ _ => rfl)) (pa_cons (pv 2) pa_nil)))) (pss_one (ps_expr (kpe_bm (K := K) rfl PySem.F.plainAttrs_list PySem.F.slot_list_append PySem.F.type_list_append mt_append (pv 1) (pa_cons (pe_lst (pa_cons (pv 2) pa_nil)) pa_nil)))))))
    (pss_one (ps_ret (pv 1))))), ?_⟩)
  obtain ⟨G, l, sG, ⟨v, rfl, ⟨a, rfl, hS⟩, hlen⟩, q⟩ := h
  walk_at "sx"
  refine ⟨Nat.zero_le _, fun F hF => ?_⟩
  have e0 : Ext G H G (upd H F (.lst [])) := (Ext.refl sG).priv hF
  refine ⟨a, nV l, H, rfl, e0.same, hS.same sG, fun J hJ => for_it (xs := nV l) (H0 := H) (fun i σ' H' => i ≤ l.length ∧ ∃ G' x, σ' = [some (.ref a), some (.ref F), x] ∧ Ext G H G' H' ∧ PcAt G' H H' F i (pieces (l.take i)))
    hJ ⟨Nat.zero_le _, G, _, rfl, e0, sG.free hF, hF, .inl ⟨rfl, upd_same⟩⟩ (fun i σ' H' _ ⟨_, G', x, _, e, _⟩ => e.same) ?_ ?_⟩
  · rintro i x σ' H' hx ⟨hi, G', y, rfl, e, gF, hF', pc⟩
    obtain ⟨b, hb, rfl⟩ := nV_get hx
    have hi' : i < l.length := (List.getElem?_eq_some_iff.mp hb).1
    walk_at "sx"
    rw [take_at hb, pieces_snoc]
    rcases pc with ⟨hp, hFl⟩ | ⟨qs, p, vs, m, hp, hpn, hpl, hql, hFl, hpv, hm, gm, hm0, hmF⟩
    · refine ⟨_, truL (SqL.of hFl), iteF (iteF ?_)⟩
      refine ⟨tyL (SqL.of hFl), by decide, fun r hr => ?_⟩
      have hrF : r ≠ F := fun z => by rw [z, hFl] at hr; cases hr
      refine ⟨_, (upd_ne hrF.symm).trans hFl, by decide, hi', G', ((e.priv hr).mut hF' gF), gF, hF', .inr ⟨[], [b], [], r, ?_, by simp, by simp, by simp, ?_, .nil, ?_, e.gnone hr, e.same.free hr, hrF⟩⟩
      · rw [hp]; rfl
      · exact upd_same
      · rw [upd_ne hrF, upd_same]; rfl
    · obtain ⟨p0, c, rfl⟩ : ∃ p0 c, p = p0 ++ [c] := ⟨p.dropLast, p.getLast hpn, (List.dropLast_concat_getLast hpn).symm⟩
      have hFs : SqL K H' F (vs ++ [.ref m]) := SqL.of hFl
      refine ⟨_, truL hFs, ?_⟩
      rw [show (vs ++ [V.ref m]).isEmpty = false by cases vs <;> rfl]
      refine iteT ?_
      have hcl : atI (nV (p0 ++ [c])) (-1) = some (.int (c : Int)) := by
        rw [nV_app]; exact atI_last _ _
      refine ⟨_, hFs, _, atI_last _ _, m, rfl, _, SqL.of hm, _, hcl, ?_⟩
      rw [spN1_run]
      intro H1 s1 H2 s2
      have s12 := s1.trans s2
      refine ⟨rfl, ?_⟩
      rw [hp, addPiece_snoc]
      have hF2 : H2 F = some (.lst (vs ++ [.ref m])) := s12 _ _ hFl
      have hm2 : H2 m = some (.lst (nV (p0 ++ [c]))) := s12 _ _ hm
      have e2 : Ext G H G' H2 := e.heap s12
      by_cases hw : Kh450.isWhite c = Kh450.isWhite b
      · rw [if_pos hw, hw]
        refine ite2 (fun _ => ?_) (fun z => absurd (decide_eq_true rfl) z)
        refine ⟨_, SqL.of hF2, _, atI_last _ _, tyL (SqL.of hm2), m, rfl, _, hm2, ?_, hi', G', e2.mut hm0 gm, gF, hF', .inr ⟨qs, (p0 ++ [c]) ++ [b], vs, m, rfl, by simp, ?_, by omega, ?_, hpv, ?_, gm, hm0, hmF⟩⟩
        · rw [List.length_map]; exact lt_line (by omega)
        · simp at hpl ⊢; omega
        · rw [upd_ne hmF.symm]; exact hF2
        · rw [upd_same]; simp [List.map_append]
      · rw [if_neg hw]
        refine ite2 (fun z => absurd (by simpa using z) hw) (fun _ => ?_)
        refine ⟨tyL (SqL.of hF2), by decide, fun r hr => ?_⟩
        have hrF : r ≠ F := fun z => by rw [z, hF2] at hr; cases hr
        have hrm : r ≠ m := fun z => by rw [z, hm2] at hr; cases hr
        have e3 : Ext G H (upd G' m (.lst (nV (p0 ++ [c])))) H2 := e2.pub hm0 hm2
        have gF3 : upd G' m (.lst (nV (p0 ++ [c]))) F = none := by rw [upd_ne hmF.symm]; exact gF
        refine ⟨_, (upd_ne hrF.symm).trans hF2, ?_, hi', upd G' m (.lst (nV (p0 ++ [c]))), ((e3.priv hr).mut hF' gF3), gF3, hF', .inr ⟨qs ++ [p0 ++ [c]], [b], vs ++ [.ref m], r, rfl, by simp, by simp, by simp; omega, upd_same, ?_, ?_, ?_, e2.same.free hr, hrF⟩⟩
        · have := Paired.length hpv
          exact lt_line (by simp; omega)
        · exact (paired_same (fun _ _ _ _ s q => q.same s) (same_new gm) hpv).snoc ⟨m, rfl, upd_same⟩
        · rw [upd_ne hrF, upd_same]; rfl
        · rw [upd_ne hrm]; exact e2.gnone hr
  · rintro σ' H' ⟨_, G', x, rfl, e, gF, hF', pc⟩
    rw [List.length_map, List.take_length] at pc
    refine ⟨_, rfl, ?_⟩
    rcases pc with ⟨hp, hFl⟩ | ⟨qs, p, vs, m, hp, hpn, hpl, hql, hFl, hpv, hm, gm, hm0, hmF⟩
    · refine q _ _ _ (e.pub hF' hFl) ⟨F, [], rfl, upd_same, ?_⟩
      rw [hp]
      exact .nil
    · have e3 := (e.pub hm0 hm).pub hF' hFl
      refine q _ _ _ e3 ⟨F, _, rfl, upd_same, ?_⟩
      rw [hp]
      have gF3 : upd G' m (.lst (nV p)) F = none := by rw [upd_ne hmF.symm]; exact gF
      refine Paired.snoc (paired_same (fun _ _ _ _ s q => q.same s) ((same_new gm).trans (same_new gF3)) hpv) ⟨m, rfl, ?_⟩
      rw [upd_ne hmF, upd_same]

/-! ### joined -/
theorem joinTexts_snoc (sep : List Nat) : ∀ (ls : List (List Nat)) (t : List Nat), ls ≠ [] → Kh450.joinTexts sep (ls ++ [t]) = Kh450.joinTexts sep ls ++ (sep ++ t)
  | [], _, h => absurd rfl h
  | [a], t, _ => by simp [Kh450.joinTexts]
  | a :: b :: r, t, _ => by
    have ih := joinTexts_snoc sep (b :: r) t (by simp)
    show a ++ sep ++ Kh450.joinTexts sep (b :: r ++ [t]) = a ++ sep ++ Kh450.joinTexts sep (b :: r) ++ (sep ++ t)
    rw [ih]
    simp [List.append_assoc]
theorem joinTexts_take_le (sep : List Nat) : ∀ (ls : List (List Nat)) (i : Nat), (Kh450.joinTexts sep (ls.take i)).length ≤ (Kh450.joinTexts sep ls).length
  | [], i => by simp
  | [a], i => by cases i <;> simp [Kh450.joinTexts]
  | a :: b :: r, 0 => by simp [Kh450.joinTexts]
  | a :: b :: r, 1 => by simp [Kh450.joinTexts]
  | a :: b :: r, i + 2 => by
    have ih := joinTexts_take_le sep (b :: r) (i + 1)
    show (a ++ sep ++ Kh450.joinTexts sep ((b :: r).take (i + 1))).length ≤ (a ++ sep ++ Kh450.joinTexts sep (b :: r)).length
    simp only [List.length_append]
    omega
def spJoined : Sp := spG (fun (x : List (List Nat) × List Nat) vs G => ∃ v u, vs = [v, u] ∧ Sqs x.1 v G ∧ Ls x.2 u G ∧ (Kh450.joinTexts x.2 x.1).length ≤ 1000000) (fun x => Ls (Kh450.joinTexts x.2 x.1))
abbrev s_joined : Stmt := top 21
theorem sc_joined : FnScope ["texts", "separator", "whole", "place", "text"] ["texts", "separator"] (defScope s_joined) := ⟨rfl, rfl, rfl, by decide +kernel, rfl, by decide +kernel, by decide +kernel⟩
theorem ok_joined (D : Dn K mg "joined" s_joined ["texts", "separator"]) (n_enumerate : mg "enumerate" = none) : OwnOk P w K mg base CX0 1 "joined" ["texts", "separator"] spJoined := by
  refine own_ok D sc_joined (fun _ _ _ _ h => by obtain ⟨G, l, _, ⟨v, u, rfl, _⟩, _⟩ := h; rfl) (fun f cdv A outer s H vs Q E hr h => ⟨_, (pss_cons (ps_set (i := 2) sc_joined.nd rfl (by first | exact Or.inl rfl | exact Or.inr rfl) (pe_lst pa_nil))
    (pss_cons (ps_for PassesOwn.never rfl (kpi_enum (K := K) rfl (by rfl) n_enumerate (pa_cons (pv 0) pa_nil)) (kpg_tup (K := K) rfl rfl (pgs_cons (pg_name (i := 3) sc_joined.nd rfl (by first | exact Or.inl rfl | exact Or.inr rfl)) (pgs_cons (pg_name (i := 4) sc_joined.nd rfl (by first | exact Or.inl rfl | exact Or.inr rfl)) pgs_nil)))
    (pss_cons (ps_if (pt_cmpR op_gt (pv 3) pe_int (nomark _)) (pss_one (ps_expr (kpe_bm (K := K) rfl PySem.F.plainAttrs_list PySem.F.slot_list_extend PySem.F.type_list_extend mt_extendS (pv 2) (pa_cons (pv 1) pa_nil)))) pss_nil)
    (pss_one (ps_expr (kpe_bm (K := K) rfl PySem.F.plainAttrs_list PySem.F.slot_list_extend PySem.F.type_list_extend mt_extendS (pv 2) (pa_cons (pv 4) pa_nil))))))
    (pss_one (ps_ret (pv 2))))), ?_⟩)
  obtain ⟨G, ⟨ls, sep⟩, sG, ⟨v, u, rfl, ⟨a, vs, rfl, ha, hp⟩, ⟨b, rfl, hb⟩, hlen⟩, q⟩ := h
  simp only at hlen q hp hb
  walk_at "sx"
  refine ⟨Nat.zero_le _, fun F hF => ?_⟩
  have e0 : Ext G H G (upd H F (.lst [])) := (Ext.refl sG).priv hF
  have hab : a ≠ F := fun z => by rw [← z, sG _ _ ha] at hF; cases hF
  have hbF : b ≠ F := fun z => by rw [← z, sG _ _ hb] at hF; cases hF
  refine ⟨_, rfl, a, vs, rfl, SqL.of (e0.sub _ _ ha), for_enum (xs := vs) (fun i σ' H' => i ≤ vs.length ∧ ∃ x y, σ' = [some (.ref a), some (.ref b), some (.ref F), x, y] ∧ Ext G H G H' ∧ H' F = some (.lst (nV (Kh450.joinTexts sep (ls.take i)))))
    ⟨Nat.zero_le _, _, _, rfl, e0, upd_same⟩ (fun i σ' H' _ ⟨_, x, y, _, e, _⟩ => SqL.of (e.sub _ _ ha)) ?_ ?_⟩
  · rintro i x σ' H' T hx ⟨hi, y, z, rfl, e, hFl⟩ hT
    obtain ⟨t, ht, ⟨c, rfl, hc⟩⟩ := Paired.at hp hx
    have hi' : i < vs.length := (List.getElem?_eq_some_iff.mp hx).1
    have hTF : T ≠ F := fun z => by rw [z, hFl] at hT; cases hT
    have hcF : c ≠ F := fun z => by
      subst z
      rcases hc with hc | hc <;> (rw [sG _ _ hc] at hF; cases hF)
    have hbT : b ≠ T := fun z => by rw [← z, e.sub _ _ hb] at hT; cases hT
    have hcT : c ≠ T := fun z => by
      subst z
      rcases hc with hc | hc <;> (rw [e.sub _ _ hc] at hT; cases hT)
    have eT : Ext G H G (upd H' T (.tup [.int (i : Int), .ref c])) := e.priv hT
    have hlt := joinTexts_take_le sep ls (i + 1)
    rw [take_at ht] at hlt ⊢
    refine ⟨T, _, rfl, SqT.of upd_same, rfl, _, _, rfl, _, _, rfl, rfl, ?_⟩
    walk_at "sx"
    have hFT : (upd H' T (.tup [.int (i : Int), .ref c])) F = some (.lst (nV (Kh450.joinTexts sep (ls.take i)))) := (upd_ne hTF.symm).trans hFl
    have hcH : ∀ {H2 : Hp}, Same G H2 → (H2 c = some (.lst (nV t)) ∨ H2 c = some (.tup (nV t))) := fun s2 => hc.imp (s2 _ _) (s2 _ _)
    by_cases h0 : i = 0
    · subst h0
      refine ite2 (fun z => by simp at z) (fun _ => ?_)
      refine ⟨tyL (SqL.of hFT), _, hFT, nV t, hcH eT.sub, ?_, hi', _, _, ⟨rfl, rfl⟩, eT.mut hF (sG.free hF), ?_⟩
      · rw [List.length_map, List.length_map]
        exact le_line (by simp [Kh450.joinTexts] at hlt ⊢; omega)
      · rw [upd_same]
        simp [Kh450.joinTexts]
    · refine ite2 (fun _ => ?_) (fun z => by simp at z; omega)
      have hne : ls.take i ≠ [] := fun z => by
        rcases List.take_eq_nil_iff.mp z with z | z
        · exact h0 z
        · rw [z] at ht; cases ht
      rw [joinTexts_snoc _ _ _ hne] at hlt ⊢
      simp only [List.length_append] at hlt
      refine ⟨tyL (SqL.of hFT), _, hFT, nV sep, .inl (eT.sub _ _ hb), ?_, ?_⟩
      · rw [List.length_map, List.length_map]
        exact le_line (by omega)
      have eM := eT.mut (o := .lst (nV (Kh450.joinTexts sep (ls.take i)) ++ nV sep)) hF (sG.free hF)
      refine ⟨tyL (SqL.of upd_same), _, upd_same, nV t, hcH eM.sub, ?_, hi', _, _, ⟨rfl, rfl⟩, eM.mut hF (sG.free hF), ?_⟩
      · rw [List.length_append, List.length_map, List.length_map, List.length_map]
        exact le_line (by omega)
      · rw [upd_same]
        simp [List.append_assoc]
  · rintro σ' H' ⟨_, x, y, rfl, e, hFl⟩
    have e' : ls.take vs.length = ls := by rw [← Paired.length hp]; exact List.take_length
    rw [e'] at hFl
    exact ⟨_, rfl, q _ _ _ (e.pub hF hFl) ⟨F, rfl, upd_same⟩⟩
theorem all_paired_any {α : Type} {R : α → V → Hp → Prop} (h : ∀ a v H, R a v H) : True := trivial
/-! ### ascii_bytes -/
def spAscii : Sp := spG (fun (z : Str) vs _ => vs = [.str z] ∧ z.length ≤ 1000000) (fun z => Ls z.cps.toList)
def Sg (c : Nat) (v : V) (_H : Hp) : Prop := v = .str ⟨#[c]⟩
theorem paired_sg {H : Hp} : ∀ l : List Nat, Paired (fun c v => Sg c v H) l (l.map fun c => V.str ⟨#[c]⟩)
  | [] => .nil
  | c :: r => .cons rfl (paired_sg r)
theorem filter_yes {α : Type} (l : List α) : l.filter (fun _ => true) = l := List.filter_eq_self.mpr fun _ _ => rfl
abbrev s_ascii_bytes : Stmt := top 8
theorem sc_ascii_bytes : FnScope ["text", "sign"] ["text"] (defScope s_ascii_bytes) := ⟨rfl, rfl, rfl, by decide +kernel, rfl, by decide +kernel, by decide +kernel⟩
theorem ok_ascii_bytes (D : Dn K mg "ascii_bytes" s_ascii_bytes ["text"]) (n_ord : mg "ord" = none) : OwnOk P w K mg base CX0 1 "ascii_bytes" ["text"] spAscii := by
  refine own_ok D sc_ascii_bytes (fun _ _ _ _ h => by obtain ⟨G, l, _, ⟨rfl, _⟩, _⟩ := h; rfl) (fun f cdv A outer s H vs Q E hr h => ⟨_, (pss_one (ps_ret (pe_lc (own := [("sign", 1)]) (g := gName 1) (tt := tYes) rfl sc_ascii_bytes.nd (pi_str (pv 0)) (blkOk_by (N := ["text", "sign"]) (sc := defScope s_ascii_bytes) (by decide +kernel)) (fun _ _ _ _ _ => pg_name (i := 1) sc_ascii_bytes.nd rfl (Or.inl rfl)) (fun _ _ _ _ _ => pts_nil) (fun _ _ _ _ _ => (pe_callB call_ord (by rfl) n_ord (by decide +kernel) (pa_cons (pv 1) pa_nil)))))), ?_⟩)
  obtain ⟨G, z, sG, ⟨rfl, hlen⟩, q⟩ := h
  refine ⟨_, rfl, z, rfl, fun F hF => lc_ofS (z := z) (R := Sg) Nm (fun _ => true) id sG (paired_sg _) (by rw [List.length_map]; exact lt_line (by rw [Array.length_toList]; exact hlen)) hF (fun _ _ _ _ _ h => h) Nm.same (fun _ => rfl) (fun c x G' H' _ e hx Q' k => k _ (Same.refl _)) (fun c x G' H' _ e hx _ Q' k => ?_) (fun G' H' ys e hF' gF hy => ?_)⟩
  · obtain rfl : x = _ := hx
    refine ⟨_, rfl, _, rfl, rfl, k _ _ _ (Ext.refl e.sub) rfl⟩
  · rw [filter_yes, List.map_id] at hy
    rw [paired_of_nV hy] at hF'
    exact q _ _ _ (e.pub hF hF') ⟨F, rfl, upd_same⟩
/-! ### words -/
def words (l : List Nat) : List (List Nat) := (pieces l).filter fun p => !Kh450.isWhite (p.headD 0)
def PcOk (ps : List (List Nat)) : Prop := ∀ p ∈ ps, p ≠ []
theorem addPiece_ok {ps : List (List Nat)} (b : Nat) (h : PcOk ps) : PcOk (addPiece ps b) := by
  unfold addPiece
  intro p hp
  split at hp
  · split at hp
    · split at hp
      · rcases List.mem_append.mp hp with hp | hp
        · exact h p (List.dropLast_subset _ hp)
        · simp at hp; subst hp; simp
      · rcases List.mem_append.mp hp with hp | hp
        · exact h p hp
        · simp at hp; subst hp; simp
    · rcases List.mem_append.mp hp with hp | hp
      · exact h p hp
      · simp at hp; subst hp; simp
  · rcases List.mem_append.mp hp with hp | hp
    · exact h p hp
    · simp at hp; subst hp; simp
theorem foldl_ok : ∀ (l : List Nat) (ps : List (List Nat)), PcOk ps → PcOk (l.foldl addPiece ps)
  | [], _, h => h
  | b :: r, ps, h => foldl_ok r _ (addPiece_ok b h)
theorem pieces_ok (l : List Nat) : PcOk (pieces l) := foldl_ok l [] (fun _ h => by cases h)
theorem addPiece_size (ps : List (List Nat)) (b : Nat) : (addPiece ps b).length ≤ ps.length + 1 := by
  unfold addPiece
  split
  · split
    · split
      · simp
      · simp
    · simp
  · simp
theorem pieces_size : ∀ (l : List Nat) (ps : List (List Nat)), (l.foldl addPiece ps).length ≤ ps.length + l.length
  | [], _ => by simp
  | b :: r, ps => by
    have := pieces_size r (addPiece ps b)
    have := addPiece_size ps b
    simp only [List.foldl_cons, List.length_cons]
    omega
def spWords (K : PySem.W.Frag) : Sp := spG (fun l vs G => ∃ v, vs = [v] ∧ Lq K l v G ∧ l.length ≤ 1000000) (fun l => Lss (words l))
abbrev s_words : Stmt := top 20
theorem sc_words : FnScope ["text", "piece"] ["text"] (defScope s_words) := ⟨rfl, rfl, rfl, by decide +kernel, rfl, by decide +kernel, by decide +kernel⟩
theorem ok_words (D : Dn K mg "words" s_words ["text"]) (o_is_space : OwnOk P w K mg base CX0 1 "is_space" ["byte"] (spN1 fun n => .bl (Kh450.isWhite n))) (o_pieces : OwnOk P w K mg base CX0 2 "pieces" ["text"] (spPieces K)) :
    OwnOk P w K mg base CX0 3 "words" ["text"] (spWords K) := by
  refine own_ok D sc_words (fun _ _ _ _ h => by obtain ⟨G, l, _, ⟨v, rfl, _⟩, _⟩ := h; rfl) (fun f cdv A outer s H vs Q E hr h => ⟨_, (pss_one (ps_ret (pe_lc (own := [("piece", 1)]) (g := gName 1) (tt := _) rfl sc_words.nd (kpi_list (K := K) rfl (pe_own o_pieces (hr.mono (by omega)) rfl pass0 (pa_cons (pv 0) pa_nil))) (blkOk_by (N := ["text", "piece"]) (sc := defScope s_words) (by decide +kernel)) (fun _ _ _ _ _ => pg_name (i := 1) sc_words.nd rfl (Or.inl rfl)) (fun _ _ _ _ _ => pts_one (pt_not (pt_val (pe_own o_is_space (hr.mono (by omega)) rfl pass0 (pa_cons (pe_ix (kix_list (K := K) rfl) (pv 1) pe_int (fun _ _ => rfl)) pa_nil))))) (fun _ _ _ _ _ => (pv 1))))), ?_⟩)
  obtain ⟨G, l, sG, ⟨v, rfl, hv, hlen⟩, q⟩ := h
  refine ⟨_, rfl, G, l, sG, ⟨v, rfl, hv, hlen⟩, fun y G1 H1 e1 hy => ?_⟩
  obtain ⟨a, vs, rfl, ha, hp⟩ := hy
  have hsz : vs.length ≤ l.length := by rw [← Paired.length hp]; simpa [pieces] using pieces_size l []
  refine ⟨a, rfl, ⟨_, SqL.of (e1.sub _ _ ha)⟩, fun F hF => lc_of (R := Ls) Ls (fun p => !Kh450.isWhite (p.headD 0)) id (SqL.of (e1.sub _ _ ha)) e1.sub hp (lt_line (by omega)) hF (fun _ _ _ _ s h => h.same s) (fun _ _ _ _ s h => h.same s) (fun _ => rfl) (fun p x G' H' hm e hx Q' k => ?_) (fun p x G' H' hm e hx _ Q' k => ?_) (fun G' H' ys e hF' gF hy => ?_)⟩
  · obtain ⟨m, rfl, hm'⟩ := hx
    cases p with
    | nil => exact absurd rfl (pieces_ok l [] hm)
    | cons c r =>
      refine ⟨_, rfl, m, _, 0, .int (c : Int), rfl, rfl, SqL.of (e.sub _ _ hm'), atI_nat (j := 0) rfl, c, rfl, fun H2 s2 => ?_⟩
      exact ⟨_, rfl, k _ s2⟩
  · exact ⟨_, rfl, k _ _ _ (Ext.refl e.sub) hx⟩
  · rw [List.map_id] at hy
    exact q _ _ _ (e1.trans (e.pub hF hF')) ⟨F, ys, rfl, upd_same, paired_same (fun _ _ _ _ s h => h.same s) (same_new gF) hy⟩
/-! ### slugs -/
def lowerB (b : Nat) : Nat := if Kh450.isUpper b then b + 32 else b
abbrev s_lower_byte : Stmt := top 28
theorem sc_lower_byte : FnScope ["byte"] ["byte"] (defScope s_lower_byte) := ⟨rfl, rfl, rfl, by decide +kernel, rfl, by decide +kernel, by decide +kernel⟩
theorem ok_lower_byte (D : Dn K mg "lower_byte" s_lower_byte ["byte"]) (n_ord : mg "ord" = none) (o_is_uppercase : OwnOk P w K mg base CX0 1 "is_uppercase" ["byte"] (spN1 fun n => .bl (Kh450.isUpper n))) : OwnOk P w K mg base CX0 2 "lower_byte" ["byte"] (spN1 fun n => .int (lowerB n : Nat)) := by
  refine own_ok D sc_lower_byte (fun _ _ _ _ h => spN1_len h) (fun f cdv A outer s H vs Q E hr h => ⟨_, (pss_one (ps_ret (pe_ifExp (pt_val (pe_own o_is_uppercase (hr.mono (by omega)) rfl pass0 (pa_cons (pv 0) pa_nil))) (pe_op op_sub (pe_op op_add (pv 0) (pe_ordL 97 n_ord)) (pe_ordL 65 n_ord)) (pv 0)))), ?_⟩)
  obtain ⟨n, rfl, q⟩ := h
  simp only [lowerB] at q
  walk_at "sx"
  intro H1 s1
  have q := q _ s1
  cases hu : Kh450.isUpper n
  · rw [hu] at q; exact iteF q
  · rw [hu] at q
    exact iteT (fin_int (by simp; omega) q)
def slugWord (l : List Nat) : List Nat := (l.filter isLD).map lowerB
def spSlugWord : Sp := spG (fun l vs G => ∃ v, vs = [v] ∧ Ls l v G ∧ l.length ≤ 1000000) (fun l => Ls (slugWord l))
abbrev s_slug_word : Stmt := top 27
theorem sc_slug_word : FnScope ["word", "byte"] ["word"] (defScope s_slug_word) := ⟨rfl, rfl, rfl, by decide +kernel, rfl, by decide +kernel, by decide +kernel⟩
theorem ok_slug_word (D : Dn K mg "slug_word" s_slug_word ["word"]) (o_is_letter_or_digit : OwnOk P w K mg base CX0 2 "is_letter_or_digit" ["byte"] (spN1 fun n => .bl (isLD n))) (o_lower_byte : OwnOk P w K mg base CX0 2 "lower_byte" ["byte"] (spN1 fun n => .int (lowerB n : Nat))) :
    OwnOk P w K mg base CX0 3 "slug_word" ["word"] spSlugWord := by
  refine own_ok D sc_slug_word (fun _ _ _ _ h => by obtain ⟨G, l, _, ⟨v, rfl, _⟩, _⟩ := h; rfl) (fun f cdv A outer s H vs Q E hr h => ⟨_, (pss_one (ps_ret (pe_lc (own := [("byte", 1)]) (g := gName 1) (tt := _) rfl sc_slug_word.nd (kpi_list (K := K) rfl (pv 0)) (blkOk_by (N := ["word", "byte"]) (sc := defScope s_slug_word) (by decide +kernel)) (fun _ _ _ _ _ => pg_name (i := 1) sc_slug_word.nd rfl (Or.inl rfl)) (fun _ _ _ _ _ => pts_one (pt_val (pe_own o_is_letter_or_digit (hr.mono (by omega)) rfl pass0 (pa_cons (pv 1) pa_nil)))) (fun _ _ _ _ _ => (pe_own o_lower_byte (hr.mono (by omega)) rfl pass0 (pa_cons (pv 1) pa_nil)))))), ?_⟩)
  obtain ⟨G, l, sG, ⟨v, rfl, ⟨a, rfl, ha⟩, hlen⟩, q⟩ := h
  refine ⟨_, rfl, a, rfl, ⟨_, SqL.of (sG _ _ ha)⟩, fun F hF => lc_of (R := Nm) Nm isLD lowerB (SqL.of (sG _ _ ha)) sG (paired_nV l) (by rw [List.length_map]; exact lt_line hlen) hF Nm.same Nm.same (fun _ => rfl) (fun c x G' H' hm e hx Q' k => ?_) (fun c x G' H' hm e hx _ Q' k => ?_) (fun G' H' ys e hF' gF hy => ?_)⟩
  · obtain rfl : x = _ := hx
    exact ⟨_, rfl, c, rfl, fun H2 s2 => ⟨_, rfl, k _ s2⟩⟩
  · obtain rfl : x = _ := hx
    exact ⟨_, rfl, c, rfl, fun H2 s2 => k _ _ _ ((Ext.refl e.sub).heap s2) rfl⟩
  · rw [paired_of_nV hy] at hF'
    exact q _ _ _ (e.pub hF hF') ⟨F, rfl, upd_same⟩
abbrev s_with_length : Stmt := top 32
theorem sc_with_length : FnScope ["data"] ["data"] (defScope s_with_length) := ⟨rfl, rfl, rfl, by decide +kernel, rfl, by decide +kernel, by decide +kernel⟩
def spWithLen : Sp := spG (fun l vs G => ∃ v, vs = [v] ∧ Ls l v G ∧ l.length ≤ 900000) (fun l => Ls (l.length :: l))
theorem ok_with_length (D : Dn K mg "with_length" s_with_length ["data"]) (n_len : mg "len" = none) : OwnOk P w K mg base CX0 1 "with_length" ["data"] spWithLen := by
  refine own_ok D sc_with_length (fun _ _ _ _ h => by obtain ⟨G, l, _, ⟨v, rfl, _⟩, _⟩ := h; rfl) (fun f cdv A outer s H vs Q E hr h => ⟨_, (pss_one (ps_ret (pe_op op_cat (pe_lst (pa_cons (pe_callB (kcall_len (K := K) rfl) (by rfl) n_len PySem.boot_len (pa_cons (pv 0) pa_nil)) pa_nil)) (pv 0)))), ?_⟩)
  obtain ⟨G, l, sG, ⟨v, rfl, ⟨a, rfl, ha⟩, hlen⟩, q⟩ := h
  refine ⟨_, rfl, a, _, rfl, .inl (SqL.of (sG _ _ ha)), Nat.le_of_lt (lt_line (by simp)), fun p hp => ?_⟩
  have e1 : Ext G H G (upd H p (.lst [.int ((nV l).length : Nat)])) := (Ext.refl sG).priv hp
  refine ⟨_, rfl, p, a, _, _, rfl, rfl, upd_same, e1.sub _ _ ha, ?_, fun r hr => ?_⟩
  · show 1 + (nV l).length ≤ _
    rw [List.length_map]; exact le_line (by omega)
  · refine q _ _ _ (e1.made hr) ⟨r, rfl, upd_same.trans ?_⟩
    simp

end
end Bt

namespace Bt
open PySem PySem.Spec PyProof.Rows L2
local macro_rules | `(tactic| walk_at "sx") => `(tactic| simp only [cxK, tTru, rLen, rListOf, rTupOf, tRet, tRetN, tChain, tRng, tCB, tCons, tNil, tC, tVar, tOp, tUn, tTest, tB, tAnd, tOr, tNot, tIfS, tSeq, tIf, tOrV, tAndV, tNotV, tCall, tSl, tPart, tNoPart, tLst, tTup, tBM, tBM0, rExtendS, iList, iTup, iSeqV, rIxL, rIxT, rSlL, rAppend, rExtend, rCat, rI0, rI, rIxS, rEq, rNe, rU, tAsg, gName, tDrop, tNext, scal, L2.start, List.map_cons, List.map_nil, List.length_cons, List.length_nil, Nat.reduceAdd, Nat.reduceSub, List.replicate_succ, List.replicate_zero, List.append_nil, List.cons_append, List.nil_append, List.getElem?_cons_zero, List.getElem?_cons_succ, Option.some.injEq, exists_eq_left', exists_eq_left, V.int.injEq, V.bl.injEq, V.str.injEq, V.ref.injEq, List.cons.injEq, and_true, true_and, exists_and_left, List.set_cons_zero, List.set_cons_succ, spN1_run, tFC, sFC, sFCAug, tMeth, tMake, sRaise, tErF, rAdd, rPop, tM1, tCallL, Option.some.injEq, HO.ins.injEq])
local macro_rules | `(tactic| walk_at "sm") => `(tactic| (repeat (first | exact Same.refl _ | assumption | (refine Same.trans ?_ (same_new (by assumption))) | (refine Same.trans ?_ (by assumption)))))
section
variable {P : Program} {w : World} {K : PySem.W.Frag} {mg : Str → Option Value} {base : Heap}
/-! ### the reader -/
abbrev s_Refusal_init : Stmt := inClass (top 1) 0
theorem sc_Refusal_init : FnScope ["self", "code"] ["self", "code"] (defScope s_Refusal_init) := ⟨rfl, rfl, rfl, by decide +kernel, rfl, by decide +kernel, by decide +kernel⟩
theorem ok_Refusal_init (D : DnB K mg "Refusal" "Refusal.__init__" s_Refusal_init ["self", "code"]) : OwnB P w K mg base 1 "Refusal" ["self", "code"] "code" := by
  refine base_ok D sc_Refusal_init rfl (fun f cdv A outer s H vs Q E hr h => ⟨_, (pss_one (ps_erF (K := K) rfl (pv 0) (pv 1))), ?_⟩)
  obtain ⟨a, C, x, rfl, ha, he, nf, q⟩ := h
  walk_at "sx"
  exact ⟨C, he, nf, .inl ⟨ha, q⟩⟩
theorem put_len {f : Str} {v : V} {fs : List (Str × V)} {n : Nat} (h : fs.length ≤ n) (l : n + 1 < 1000) : (putF f v fs).length ≤ n + 1 ∧ (putF f v fs).length < 1000 := by
  have := length_putF f v fs
  omega
end
end Bt

namespace Bt
open PySem PySem.Spec PyProof.Rows L2
local macro_rules | `(tactic| walk_at "sx") => `(tactic| simp only [cxK, tTru, rLen, rListOf, rTupOf, tRet, tRetN, tChain, tRng, tCB, tCons, tNil, tC, tVar, tOp, tUn, tTest, tB, tAnd, tOr, tNot, tIfS, tSeq, tIf, tOrV, tAndV, tNotV, tCall, tSl, tPart, tNoPart, tLst, tTup, tBM, tBM0, rExtendS, iList, iTup, iSeqV, rIxL, rIxT, rSlL, rAppend, rExtend, rCat, rI0, rI, rIxS, rEq, rNe, rU, tAsg, gName, tDrop, tNext, scal, L2.start, List.map_cons, List.map_nil, List.length_cons, List.length_nil, Nat.reduceAdd, Nat.reduceSub, List.replicate_succ, List.replicate_zero, List.append_nil, List.cons_append, List.nil_append, List.getElem?_cons_zero, List.getElem?_cons_succ, Option.some.injEq, exists_eq_left', exists_eq_left, V.int.injEq, V.bl.injEq, V.str.injEq, V.ref.injEq, List.cons.injEq, and_true, true_and, exists_and_left, List.set_cons_zero, List.set_cons_succ, spN1_run, tFC, sFC, sFCAug, tMeth, tMake, sRaise, tErF, rAdd, rPop, tM1, tCallL, Option.some.injEq, HO.ins.injEq])
local macro_rules | `(tactic| walk_at "sm") => `(tactic| (repeat (first | exact Same.refl _ | assumption | (refine Same.trans ?_ (same_new (by assumption))) | (refine Same.trans ?_ (by assumption)))))
section
variable {P : Program} {w : World} {K : PySem.W.Frag} {mg : Str → Option Value} {base : Heap}
open LamX
/-! ### answer, answer_text: what is handed on is called, a refusal is answered by its code -/
/-- a def whose code object is known -/
structure DnC (K : PySem.W.Frag) (mg : Str → Option Value) (x : Str) (st : Stmt) (ps : List Str) (c : Addr) : Prop where
  ex : ∃ (f : Addr) (oc kV doc pm ct : Value) (od an : Option Addr) (sl : Array (Option Value)), mg x = some (.ref f) ∧ K.lookup f = some ⟨oc, od, .func (PySem.W.fnOf x x (defArgs st) (defBody st) (defScope st) .none kV doc pm an (.ref c) ct), sl⟩ ∧ PySem.W.codeIn K (.ref c) x = true ∧ PySem.W.keepIn K (.ref f) = true ∧
    Binds K (PySem.W.fnOf x x (defArgs st) (defBody st) (defScope st) .none kV doc pm an (.ref c) ct) ps []
theorem act_ok {x a : Str} {st : Stmt} {N : List Str} {kb : Nat} {T : List (Addr × Str)} {TT : (XK → Hp → VK → Prop) → Hp → VK → Prop} (D : Dn K mg x st [a]) (S : FnScope N [a] (defScope st))
    (hbody : ∀ (j : Nat) (g : Addr) (cdv : Value) (A : Around) (outer : List Env) (f : Addr) (s : Shared) (H : Hp) (Q : VK) (tl : XK → Hp → VK → Prop), Act P w K mg base j (frs outer) f H s tl → Room (kb + j) (A.deeper (envOfC x (defScope st) s.heap.objs.size g cdv)) → Tabs T H → TT tl H Q →
      ∃ t, PSs (cxOf CX0 P w K mg base N x (defScope st) g cdv A outer s H E0).nox (defBody st) t ∧ t { nx := fun _ H' => Q .non H', rt := Q } (start N [.ref f]) H) : OwnAct P w K mg base (kb + 1) x T TT := by
  obtain ⟨g, fd, hm, F, hb⟩ := D.ex
  obtain ⟨oc, od, kV, doc, pm, an, cdv, ct, osl, rfl, lk, hcd⟩ := F.ex
  refine ⟨g, hm, F.kp, fun j A outer f s H Q tl act e0 hr tabs want => ?_⟩
  have hr' : Room (kb + j + 1) A := by rwa [show kb + 1 + j = kb + j + 1 by omega] at hr
  refine run_ofS (us := [.ref f]) (vs := [.ref f]) lk hcd S hr' e0 (hb s [.ref f] (e0.mod.kin.keeps fun b o e => (e0.bs b o e).1) rfl) (.cons rfl .nil) rfl fun hr2 => ?_
  obtain ⟨t, h, q⟩ := hbody j g cdv A outer f s H Q tl act hr2 tabs want
  exact ⟨t, h.nox, q⟩
theorem act_okC {x a : Str} {st : Stmt} {N : List Str} {kb : Nat} {c : Addr} {T : List (Addr × Str)} {TT : (XK → Hp → VK → Prop) → Hp → VK → Prop} (D : DnC K mg x st [a] c) (S : FnScope N [a] (defScope st))
    (hbody : ∀ (j : Nat) (g : Addr) (A : Around) (outer : List Env) (f : Addr) (s : Shared) (H : Hp) (Q : VK) (tl : XK → Hp → VK → Prop), Act P w K mg base j (frs outer) f H s tl → Room (kb + j) (A.deeper (envOfC x (defScope st) s.heap.objs.size g (.ref c))) → Tabs T H → TT tl H Q →
      ∃ t, PSs (cxOf CX0 P w K mg base N x (defScope st) g (.ref c) A outer s H E0).nox (defBody st) t ∧ t { nx := fun _ H' => Q .non H', rt := Q } (start N [.ref f]) H) : OwnAct P w K mg base (kb + 1) x T TT := by
  obtain ⟨g, oc, kV, doc, pm, ct, od, an, sl, hm, lk, hcd, hk, hb⟩ := D.ex
  refine ⟨g, hm, hk, fun j A outer f s H Q tl act e0 hr tabs want => ?_⟩
  have hr' : Room (kb + j + 1) A := by rwa [show kb + 1 + j = kb + j + 1 by omega] at hr
  refine run_ofS (us := [.ref f]) (vs := [.ref f]) lk hcd S hr' e0 (hb s [.ref f] (e0.mod.kin.keeps fun b o e => (e0.bs b o e).1) rfl) (.cons rfl .nil) rfl fun hr2 => ?_
  obtain ⟨t, h, q⟩ := hbody j g A outer f s H Q tl act hr2 tabs want
  exact ⟨t, h.nox, q⟩
/-- n.f of a caught error of whatever own class -/
def tXfA (K : PySem.W.Frag) (a : Addr) (cls : Value) (d : Option Addr) (f : Str) (te : TE) : TE := fun σ H Q => te σ H fun x H1 => x = .ref a ∧ ∃ (C dd : Addr) (fs : List (Str × V)) (v : V), cls = .ref C ∧ XfC K C ∧ PySem.W.findIn K (.ref C) f = some none ∧ d = some dd ∧ H1 dd = some (.xd fs) ∧ fs.lookup f = some v ∧ Q v H1
theorem pe_xfA {X : Cx} {a : Addr} {oe : Obj} {cls : Value} {d : Option Addr} {pn : List (Addr × Obj)} {e : Expr} {te : TE} {pos : Pos} {n : Str} (hK : X.K = K) (hz : Zc cls d oe) (hf : ∃ vs, oe.data = .fields vs) (he : PE (X.suite a ((a, oe) :: pn)) e te)
    (hb : attributeBase e n X.env (eval e X.env) = eval e X.env := by rfl) : PE (X.suite a ((a, oe) :: pn)) (.Attribute e n pos) (tXfA K a cls d n te) := by
  subst hK
  constructor
  intro pins s σ H Q I want
  -- first the name alone, then the kit's rule at a value that is known
  refine attr_of hb (thn (he.run pins s σ H _ I want) fun u s1 got => ?_)
  obtain ⟨x, H1, I1, rx, rfl, C, dd, fs, v, rfl, T, no, rfl, lies, look, q⟩ := got
  cases (show u = Value.ref a from rx)
  obtain ⟨at_, _⟩ := I1.pin (a, oe) (List.mem_append_left _ List.mem_cons_self)
  obtain ⟨ws, data⟩ := hf
  have own : ObjOk X.prog X.w H1 s1.heap dd (.xd fs) := I1.hok dd _ lies
  obtain ⟨mA, names, same⟩ := own
  obtain ⟨od, at2, look2⟩ := lookIn_ns names
  obtain ⟨u2, hu2, ru2⟩ := RelO.some_of (v := v) (o := mA n) (by rw [← look]; exact same n)
  refine HandSPX.exc_get (od := some od) I1.kIn ⟨at_, hz.1, ?_, by rw [hz.2]; exact at2⟩ T.ga T.gg T.exC (PySem.W.findObj_own T.hdC no rfl (by rw [look2, hu2])) (handed_of ru2) ⟨v, H1, I1.tok _, ru2, q⟩
  unfold PySem.W.notCls
  rw [data] <;> rfl
/-- what becomes of a refusal: its code is answered -/
def EA (K : PySem.W.Frag) (CF : Addr) (Q : VK) : XK := fun cls d H => ∃ b, PySem.W.exmOne K cls (.ref CF) = some b ∧ (b = true → ∀ a, H a = none → tRet (tLst (tCons (tXfA K a cls d "code" (tVar 1)) tNil)) { nx := fun _ H' => Q .non H', rt := Q } [none, some (.ref a)] H) ∧ (b = false → False)
theorem EA_mk {CF C dd : Addr} {Q : VK} {H : Hp} {fs : List (Str × V)} {v : V} (te : PySem.W.exmOne K (.ref C) (.ref CF) = some true) (tx : XfC K C) (nc : PySem.W.findIn K (.ref C) "code" = some none) (lies : H dd = some (.xd fs)) (look : fs.lookup ("code" : Str) = some v)
    (q : ∀ p, H p = none → Q (.ref p) (upd H p (.lst [v]))) : EA K CF Q (.ref C) (some dd) H :=
  ⟨true, te, fun _ a ha => ⟨_, rfl, rfl, C, dd, fs, v, rfl, tx, nc, rfl, lies, look, by show 1 ≤ sizeLine; decide, q⟩, fun z => Bool.noConfusion z⟩
def TTans (K : PySem.W.Frag) (CF : Addr) : (XK → Hp → VK → Prop) → Hp → VK → Prop := fun tl H Q => tl (EA K CF Q) H Q
theorem frs_cx {CX : CXT} {N : List Str} {qual : Str} {sc : Scope} {g : Addr} {cd : Value} {A : Around} {outer : List Env} {s : Shared} {H : Hp} {E : XK} : frs (cxOf CX P w K mg base N qual sc g cd A outer s H E).stack = s.heap.objs.size :: frs outer := rfl
abbrev s_answer : Stmt := top 30
theorem sc_answer : FnScope ["operation", "refusal"] ["operation"] (defScope s_answer) := ⟨rfl, rfl, rfl, by decide +kernel, rfl, by decide +kernel, by decide +kernel⟩
theorem ok_answer {CF : Addr} {T : List (Addr × Str)} (D : Dn K mg "answer" s_answer ["operation"]) (at_Refusal : mg "Refusal" = some (.ref CF)) : OwnAct P w K mg base 2 "answer" T (TTans K CF) := by
  refine act_ok D sc_answer (fun j g cdv A outer f s H Q tl act hr tabs want => ⟨_, pss_one (ps_try_as (i := 1) (tb := fun W D σ H => σ[0]? = some (some (.ref f)) ∧ tl (WE W σ) H D.rt)
      (ts := fun a cls d => tRet (tLst (tCons (tXfA K a cls d "code" (tVar 1)) tNil))) (Wout := fun _ _ _ _ => False) rfl rfl sc_answer.nd rfl rfl ⟨rfl, by decide, Or.inl at_Refusal⟩ L2.takes0
      (fun W pn xe tk _ => pss_one (ps_ret (pe_actL (i := 0) (E := WE W) (tl := tl) (fun σ => passAt tk σ) (fun pins s2 σ2 H2 Q2 E2 I q => ?_) rfl (Or.inl rfl))))
      (fun a oe cls d pn hz hf => pss_one (ps_ret (pe_lst (pa_cons (pe_xfA rfl hz hf (pv 1)) pa_nil))))), rfl, want⟩)
  refine act _ _ s2 H2 Q2 E2 I.base (fun c m => ?_) I.env0 (hr.mono (by omega)) q
  rcases List.mem_cons.mp m with rfl | m
  · exact .inr (Heap.get?_none_of_le (Nat.le_refl _))
  · exact .inl m
def TTtext (K : PySem.W.Frag) (CF : Addr) (T : List (Addr × Str)) (q : Str) : (XK → Hp → VK → Prop) → Hp → VK → Prop := fun tl H Q => ∀ c H1, ExtN H H1 → Tabs T H1 → H1 c = some (CodeO c q) →
  TTans K CF (fun E Hz Qz => Hz c = some (CodeO c q) ∧ tl E Hz fun v H' => spWithLen [v] H' Qz E0) H1 Q
abbrev s_answer_text : Stmt := top 31
theorem sc_answer_text : FnScope ["operation"] ["operation"] (defScope s_answer_text) := ⟨rfl, rfl, rfl, by decide +kernel, rfl, by decide +kernel, by decide +kernel⟩
theorem ok_answer_text {CF ct Pt : Addr} {T : List (Addr × Str)} (D : DnC K mg "answer_text" s_answer_text ["operation"] ct) (tb_answer_text : TabB base mg ct Pt) (mem : (Pt, ("answer_text.<locals>.<lambda>" : Str)) ∈ T) (one : ∀ p ∈ T, p.1 = Pt → p.2 = "answer_text.<locals>.<lambda>")
    (o_answer : OwnAct P w K mg base 2 "answer" T (TTans K CF)) (o_with_length : OwnOk P w K mg base CX0 1 "with_length" ["data"] spWithLen) : OwnAct P w K mg base 5 "answer_text" T (TTtext K CF T "answer_text.<locals>.<lambda>") := by
  refine act_okC D sc_answer_text (fun j g A outer f s H Q tl act hr tabs want => ⟨_, pss_one (ps_ret (pe_lam2 (k := j + 1) (t := fun E => tCall spWithLen [] E0 (tCons (fun σ H Q => σ[0]? = some (some (.ref f)) ∧ tl E H Q) tNil)) o_answer rfl tb_answer_text rfl mem one (hr.mono (by omega)) (lamS_by (sc := defScope s_answer_text) (by decide +kernel)) rfl (fun _ _ _ _ _ => rfl)
    (fun pins σ H1 s1 I1 A2 outer2 z Hz E f2 c2 un old hr2 => pe_own o_with_length (hr2.mono (by omega)) (by rfl) pass0 (pa_cons (pe_actL (i := 0) (E := fun _ => E) (tl := tl) (fun σ => ?_) (fun pins s2 σ2 H2 Q2 E2 I q => ?_) rfl (Or.inr (Or.inr rfl))) pa_nil)))), tabs, fun c H1 grown tabs1 code => ?_⟩)
  · exact fun pins H s e s' I c => (L2.passes_call (L2.takes_of rfl rfl rfl rfl) (fun _ _ _ _ h => h)) pins σ H s e s' I c
  · have old1 : ∀ c ∈ s.heap.objs.size :: frs outer, c ∈ frs outer ∨ s.heap.get? c = none := fun c m => by
      rcases List.mem_cons.mp m with rfl | m
      · exact .inr (Heap.get?_none_of_le (Nat.le_refl _))
      · exact .inl m
    have back : ∀ c, s1.heap.get? c = none → s.heap.get? c = none := fun c h => by
      cases e : s.heap.get? c with
      | none => rfl
      | some o => obtain ⟨o', e'⟩ := I1.base.there c o e (fun z => by cases z); rw [h] at e'; cases e'
    have old2 : ∀ c ∈ frs outer2, c ∈ frs outer ∨ s.heap.get? c = none := fun c m => by
      rcases old c m with h | h
      · exact old1 c h
      · exact .inr (back c h)
    have a := un_on I1.base un old1
    refine act _ _ s2 H2 Q2 E2 (un_on a I.base old2) (fun c m => ?_) I.env0 (hr2.mono (by omega)) q
    rcases List.mem_cons.mp m with rfl | m
    · refine .inr ?_
      cases e : s.heap.get? z.heap.objs.size with
      | none => rfl
      | some o =>
        obtain ⟨o', e'⟩ := a.there _ o e (fun z => by cases z)
        rw [Heap.get?_none_of_le (Nat.le_refl _)] at e'; cases e'
    · exact old2 c m
  · have want := want c H1 grown tabs1 code
    exact ⟨want.1, rfl, want.2⟩
/-- return answer_text(lambda: ..), all told -/
def tText (K : PySem.W.Frag) (CF : Addr) (T : List (Addr × Str)) (t : XK → TE) : TE := fun σ H Q => Tabs T H ∧ ∀ H1, ExtN H H1 → t (EA K CF Q) σ H1 fun v H' => spWithLen [v] H' Q E0
theorem text_of {CF : Addr} {T : List (Addr × Str)} {q q2 : Str} {t : XK → TE} {σ : L2.St} {H : Hp} {Q : VK} (h : tText K CF T t σ H Q) : tLam2 T q (TTtext K CF T q2) t σ H Q :=
  ⟨h.1, fun _ H1 g1 _ code _ _ g2 _ code2 => ⟨code2, g2 _ _ code codeO_ne, h.2 _ (g1.trans g2)⟩⟩
def tAns (K : PySem.W.Frag) (CF : Addr) (T : List (Addr × Str)) (t : XK → TE) : TE := fun σ H Q => Tabs T H ∧ ∀ H1, ExtN H H1 → t (EA K CF Q) σ H1 Q
theorem ans_of {CF : Addr} {T : List (Addr × Str)} {q : Str} {t : XK → TE} {σ : L2.St} {H : Hp} {Q : VK} (h : tAns K CF T t σ H Q) : tLam2 T q (TTans K CF) t σ H Q :=
  ⟨h.1, fun _ H1 g1 _ code => ⟨code, h.2 _ g1⟩⟩
/-- a def of the text whose code object is known, its promise -/
theorem def_okC {x : Str} {st : Stmt} {N ps : List Str} {k : Nat} {sp : Sp} {f c : Addr} {oc kV doc pm ct : Value} {od an : Option Addr} {sl : Array (Option Value)} (l : K.lookup f = some ⟨oc, od, .func (PySem.W.fnOf x x (defArgs st) (defBody st) (defScope st) .none kV doc pm an (.ref c) ct), sl⟩) (hcd : PySem.W.codeIn K (.ref c) x = true)
    (S : FnScope N ps (defScope st)) (len : ∀ vs H Q E, sp vs H Q E → vs.length = ps.length)
    (hbody : ∀ (A : Around) (outer : List Env) (s : Shared) (H : Hp) (vs : List V) (Q : VK) (E : XK), Room k (A.deeper (envOfC x (defScope st) s.heap.objs.size f (.ref c))) → sp vs H Q E →
      ∃ t, PSs (cxOf CX0 P w K mg base N x (defScope st) f (.ref c) A outer s H E).nox (defBody st) t ∧ t { nx := fun _ H' => Q .non H', rt := Q } (start N vs) H) : FnOk P w K mg base CX0 (k + 1) f (PySem.W.fnOf x x (defArgs st) (defBody st) (defScope st) .none kV doc pm an (.ref c) ct) ps sp :=
  fn_of l hcd S len fun A outer s H vs Q E hr hsp => let ⟨t, h, q⟩ := hbody A outer s H vs Q E hr hsp; ⟨t, h.nox, q⟩

end
end Bt

namespace Bt
open PySem PySem.Spec PyProof.Rows L2
local macro_rules | `(tactic| walk_at "sx") => `(tactic| simp only [cxK, tTru, rLen, rListOf, rTupOf, tRet, tRetN, tChain, tRng, tCB, tCons, tNil, tC, tVar, tOp, tUn, tTest, tB, tAnd, tOr, tNot, tIfS, tSeq, tIf, tOrV, tAndV, tNotV, tCall, tSl, tPart, tNoPart, tLst, tTup, tBM, tBM0, rExtendS, iList, iTup, iSeqV, rIxL, rIxT, rSlL, rAppend, rExtend, rCat, rI0, rI, rIxS, rEq, rNe, rU, tAsg, gName, tDrop, tNext, scal, L2.start, List.map_cons, List.map_nil, List.length_cons, List.length_nil, Nat.reduceAdd, Nat.reduceSub, List.replicate_succ, List.replicate_zero, List.append_nil, List.cons_append, List.nil_append, List.getElem?_cons_zero, List.getElem?_cons_succ, Option.some.injEq, exists_eq_left', exists_eq_left, V.int.injEq, V.bl.injEq, V.str.injEq, V.ref.injEq, List.cons.injEq, and_true, true_and, exists_and_left, List.set_cons_zero, List.set_cons_succ, spN1_run, tFC, sFC, sFCAug, tMeth, tMake, sRaise, tErF, rAdd, rPop, tM1, tCallL, Option.some.injEq, HO.ins.injEq])
local macro_rules | `(tactic| walk_at "sm") => `(tactic| (repeat (first | exact Same.refl _ | assumption | (refine Same.trans ?_ (same_new (by assumption))) | (refine Same.trans ?_ (by assumption)))))
section
variable {P : Program} {w : World} {K : PySem.W.Frag} {mg : Str → Option Value} {base : Heap}
/-! ### the errors without arguments; texts that are asked for -/
abbrev s_EncodingError_init : Stmt := inClass (top 2) 0
theorem sc_EncodingError_init : FnScope ["self"] ["self"] (defScope s_EncodingError_init) := ⟨rfl, rfl, rfl, by decide +kernel, rfl, by decide +kernel, by decide +kernel⟩
theorem ok_EncodingError_init {C : Addr} (D : DnX K mg "EncodingError" "EncodingError.__init__" C s_EncodingError_init ["self"]) (b_Refusal : OwnB P w K mg base 1 "Refusal" ["self", "code"] "code") (nc : PySem.W.findIn K (.ref C) "code" = some none) : OwnX P w K mg base 2 "EncodingError" C 0 (cdF (-24)) ["self"] := by
  refine err_ok D sc_EncodingError_init rfl (fun f cdv A outer s H vs Q E hr h => ⟨_, (pss_one (ps_expr (pe_binit b_Refusal (hr.mono (by omega)) (by rfl) pass0 (pa_cons (pv 0) (pa_cons (pe_un un_neg pe_int) pa_nil))))), ?_⟩)
  obtain ⟨a, ws, rfl, hn, ha, q⟩ := h
  obtain rfl : ws = [] := List.eq_nil_of_length_eq_zero hn
  have he := D.err
  walk_at "sx"
  refine ⟨a, C, _, rfl, ha, he, nc, fun d hd hne => q d _ hd hne upd_same ((upd_ne hne).trans upd_same) fun b ba bd => ?_⟩
  rw [upd_ne ba, upd_ne bd]
/-- a refusal with this code alone -/
def ErrC0 (C : Addr) (c : Int) (H : Hp) (E : XK) : Prop := ∀ H' d, Same H H' → H' d = none → E (.ref C) (some d) (upd H' d (.xd [("code", .int c)]))
def spText (K : PySem.W.Frag) (C : Addr) : Sp := fun vs H Q E => ∃ v d, vs = [v] ∧ Lr K d v H ∧ d.length ≤ 1000 ∧ if utf8Loop d.length d = true then ∀ H' l, Same H H' → H' l = none → Q (.ref l) (upd H' l (.tup (nV d))) else ErrC0 C (-24) H E
abbrev s_read_text : Stmt := top 23
theorem sc_read_text : FnScope ["text"] ["text"] (defScope s_read_text) := ⟨rfl, rfl, rfl, by decide +kernel, rfl, by decide +kernel, by decide +kernel⟩
theorem ok_read_text {C : Addr} {ps : List Str} (D : Dn K mg "read_text" s_read_text ["text"]) (n_tuple : mg "tuple" = none) (o_is_utf8 : OwnOk P w K mg base CX0 3 "is_utf8" ["data"] (spUtf8 K)) (x_EncodingError : OwnX P w K mg base 2 "EncodingError" C 0 (cdF (-24)) ps) :
    OwnOk P w K mg base (L2.CX P w) 4 "read_text" ["text"] (spText K C) := by
  refine own_okX D sc_read_text (fun _ _ _ _ h => by obtain ⟨_, _, rfl, _⟩ := h; rfl) (fun f cdv A outer s H vs Q E hr h => ⟨_, (pss_cons (ps_if (pt_not (pt_val (pe_own o_is_utf8 (hr.mono (by omega)) rfl pass0 (pa_cons (pv 0) pa_nil)))) (pss_one (ps_raise0 x_EncodingError (hr.mono (by omega)) (by rfl) rfl (L2.takes_of rfl rfl rfl rfl))) pss_nil)
    (pss_one (ps_ret (pe_callTy (kcall_tuple (K := K) rfl) (by rfl) n_tuple (by decide +kernel) (pa_cons (pv 0) pa_nil))))), ?_⟩)
  obtain ⟨v, d, rfl, hv, hlen, q⟩ := h
  walk_at "sx"
  refine ⟨v, d, rfl, hv, fun H1 s1 => ⟨_, rfl, ?_⟩⟩
  by_cases hu : utf8Loop d.length d = true
  · rw [if_pos hu] at q
    rw [hu]
    obtain ⟨a, rfl, ha⟩ := hv
    exact iteF ⟨a, rfl, _, .inl ⟨s1.seq ha, fun l hl => q H1 l s1 hl⟩⟩
  · rw [if_neg hu] at q
    rw [Bool.eq_false_iff.mpr hu]
    exact iteT fun dE hd => q H1 dE s1 hd

end
end Bt

namespace Bt
open PySem PySem.Spec PyProof.Rows L2
local macro_rules | `(tactic| walk_at "sx") => `(tactic| simp only [cxK, tTru, rLen, rListOf, rTupOf, tRet, tRetN, tChain, tRng, tCB, tCons, tNil, tC, tVar, tOp, tUn, tTest, tB, tAnd, tOr, tNot, tIfS, tSeq, tIf, tOrV, tAndV, tNotV, tCall, tSl, tPart, tNoPart, tLst, tTup, tBM, tBM0, rExtendS, iList, iTup, iSeqV, rIxL, rIxT, rSlL, rAppend, rExtend, rCat, rI0, rI, rIxS, rEq, rNe, rU, tAsg, gName, tDrop, tNext, scal, L2.start, List.map_cons, List.map_nil, List.length_cons, List.length_nil, Nat.reduceAdd, Nat.reduceSub, List.replicate_succ, List.replicate_zero, List.append_nil, List.cons_append, List.nil_append, List.getElem?_cons_zero, List.getElem?_cons_succ, Option.some.injEq, exists_eq_left', exists_eq_left, V.int.injEq, V.bl.injEq, V.str.injEq, V.ref.injEq, List.cons.injEq, and_true, true_and, exists_and_left, List.set_cons_zero, List.set_cons_succ, spN1_run, tFC, sFC, sFCAug, tMeth, tMake, sRaise, tErF, rAdd, rPop, tM1, tCallL, Option.some.injEq, HO.ins.injEq])
local macro_rules | `(tactic| walk_at "sm") => `(tactic| (repeat (first | exact Same.refl _ | assumption | (refine Same.trans ?_ (same_new (by assumption))) | (refine Same.trans ?_ (by assumption)))))
section
variable {P : Program} {w : World} {K : PySem.W.Frag} {mg : Str → Option Value} {base : Heap}
theorem addPiece_flat (ps : List (List Nat)) (b : Nat) : (addPiece ps b).flatten = ps.flatten ++ [b] := by
  unfold addPiece
  split
  · rename_i p hp
    obtain ⟨qs, rfl⟩ := List.getLast?_eq_some_iff.mp hp
    split
    · split
      · simp
      · simp
    · simp
  · simp
theorem pieces_flat : ∀ (l : List Nat) (ps : List (List Nat)), (l.foldl addPiece ps).flatten = ps.flatten ++ l
  | [], _ => by simp
  | b :: r, ps => by rw [List.foldl_cons, pieces_flat r, addPiece_flat]; simp
theorem joinTexts_len (sep : List Nat) : ∀ ls : List (List Nat), (Kh450.joinTexts sep ls).length ≤ ls.flatten.length + ls.length * sep.length
  | [] => by simp [Kh450.joinTexts]
  | [a] => by simp [Kh450.joinTexts]
  | a :: b :: r => by
    have ih := joinTexts_len sep (b :: r)
    show (a ++ sep ++ Kh450.joinTexts sep (b :: r)).length ≤ _
    rw [List.flatten_cons, List.length_append, List.length_append, List.length_append, List.length_cons, Nat.succ_mul]
    omega
theorem flat_filter_len {α : Type} (p : List α → Bool) : ∀ ls : List (List α), ((ls.filter p).flatten).length ≤ ls.flatten.length
  | [] => by simp
  | a :: r => by
    have ih := flat_filter_len p r
    rw [List.filter_cons]
    split <;> (simp only [List.flatten_cons, List.length_append]; omega)
theorem flat_map_len {α β : Type} {f : List α → List β} (h : ∀ l, (f l).length ≤ l.length) : ∀ ls : List (List α), ((ls.map f).flatten).length ≤ ls.flatten.length
  | [] => by simp
  | a :: r => by
    have ih := flat_map_len h r
    have := h a
    simp only [List.map_cons, List.flatten_cons, List.length_append]
    omega
theorem flat_mem_len {α : Type} : ∀ {ls : List (List α)} {l : List α}, l ∈ ls → l.length ≤ ls.flatten.length
  | a :: r, l, h => by
    rw [List.flatten_cons, List.length_append]
    rcases List.mem_cons.mp h with rfl | h
    · omega
    · have := flat_mem_len h
      omega
theorem slugWord_len (l : List Nat) : (slugWord l).length ≤ l.length := by
  unfold slugWord
  rw [List.length_map]
  exact List.length_filter_le _ _
theorem words_flat (l : List Nat) : (words l).flatten.length ≤ l.length := by
  have h := flat_filter_len (fun p => !Kh450.isWhite (p.headD 0)) (pieces l)
  have e : (pieces l).flatten = l := by simpa [pieces] using pieces_flat l []
  rw [e] at h
  exact h
theorem words_len (l : List Nat) : (words l).length ≤ l.length := Nat.le_trans (List.length_filter_le _ _) (by simpa [pieces] using pieces_size l [])
def spaced (l : List Nat) : List Nat := l.map fun b => if b = 45 ∨ b = 95 then 32 else b
def slugOf (l : List Nat) : List Nat := let t := (Kh450.joinTexts [45] (((words (spaced l)).map slugWord).filter fun p => !p.isEmpty)).take 30
  if t.isEmpty then [115, 101, 99, 116, 105, 111, 110] else t
def spSlugOf (K : PySem.W.Frag) : Sp := spG (fun l vs G => ∃ v, vs = [v] ∧ Lq K l v G ∧ l.length ≤ 1000) (fun l => Ls (slugOf l))
abbrev s_slug_of : Stmt := top 26
theorem sc_slug_of : FnScope ["text", "spaced", "parts", "slug_text", "byte", "word", "part"] ["text"] (defScope s_slug_of) := ⟨rfl, rfl, rfl, by decide +kernel, rfl, by decide +kernel, by decide +kernel⟩
theorem ok_slug_of (D : Dn K mg "slug_of" s_slug_of ["text"]) (n_ord : mg "ord" = none) (c_SPACE : IsC mg "SPACE" (.int 32)) (c_LONGEST_SLUG : IsC mg "LONGEST_SLUG" (.int 30)) (o_words : OwnOk P w K mg base CX0 3 "words" ["text"] (spWords K)) (o_slug_word : OwnOk P w K mg base CX0 3 "slug_word" ["word"] spSlugWord)
    (o_joined : OwnOk P w K mg base CX0 1 "joined" ["texts", "separator"] spJoined) (o_ascii_bytes : OwnOk P w K mg base CX0 1 "ascii_bytes" ["text"] spAscii) : OwnOk P w K mg base CX0 4 "slug_of" ["text"] (spSlugOf K) := by
  refine own_ok D sc_slug_of (fun _ _ _ _ h => by obtain ⟨G, l, _, ⟨v, rfl, _⟩, _⟩ := h; rfl) (fun f cdv A outer s H vs Q E hr h => ⟨_, (pss_cons (ps_setLc (i := 1) (own := [("byte", 4)]) (g := gName 4) (tt := tYes) rfl sc_slug_of.nd rfl rfl (sw_true rfl rfl rfl (by decide +kernel)) (kpi_seqv (K := K) rfl (pv 0)) (blkOk_by (N := ["text", "spaced", "parts", "slug_text", "byte", "word", "part"]) (sc := defScope s_slug_of) (by decide +kernel)) (fun _ _ _ _ _ => pg_name (i := 4) sc_slug_of.nd rfl (Or.inl rfl)) (fun _ _ _ _ _ => pts_nil) (fun _ _ _ _ _ => (pe_ifExp (pt_cmpR (kop_in (K := K) rfl) (pv 4) (pe_tup (pa_cons (pe_ordL 45 n_ord) (pa_cons (pe_ordL 95 n_ord) pa_nil))) (by rfl)) (pe_cst (by rfl) c_SPACE) (pv 4))))
    (pss_cons (ps_setLc (i := 2) (own := [("word", 5)]) (g := gName 5) (tt := tYes) rfl sc_slug_of.nd rfl rfl (sw_true rfl rfl rfl (by decide +kernel)) (kpi_list (K := K) rfl (pe_own o_words (hr.mono (by omega)) rfl pass0 (pa_cons (pv 1) pa_nil))) (blkOk_by (N := ["text", "spaced", "parts", "slug_text", "byte", "word", "part"]) (sc := defScope s_slug_of) (by decide +kernel)) (fun _ _ _ _ _ => pg_name (i := 5) sc_slug_of.nd rfl (Or.inl rfl)) (fun _ _ _ _ _ => pts_nil) (fun _ _ _ _ _ => (pe_own o_slug_word (hr.mono (by omega)) rfl pass0 (pa_cons (pv 5) pa_nil))))
    (pss_cons (ps_set (i := 3) sc_slug_of.nd rfl (by first | exact Or.inl rfl | exact Or.inr rfl) (pe_slice (ksl_list (K := K) rfl) (pe_own o_joined (hr.mono (by omega)) rfl pass0 (pa_cons (pe_lc (own := [("part", 6)]) (g := gName 6) (tt := _) rfl sc_slug_of.nd (kpi_list (K := K) rfl (pv 2)) (blkOk_by (N := ["text", "spaced", "parts", "slug_text", "byte", "word", "part"]) (sc := defScope s_slug_of) (by decide +kernel)) (fun _ _ _ _ _ => pg_name (i := 6) sc_slug_of.nd rfl (Or.inl rfl)) (fun _ _ _ _ _ => pts_one (kpt_truth (K := K) rfl (pv 6))) (fun _ _ _ _ _ => (pv 6))) (pa_cons (pe_own o_ascii_bytes (hr.mono (by omega)) rfl pass0 (pa_cons pe_str pa_nil)) pa_nil))) po_none (po_some (pe_cst (by rfl) c_LONGEST_SLUG))))
    (pss_one (ps_ret (pe_ifExp (kpt_truth (K := K) rfl (pv 3)) (pv 3) (pe_own o_ascii_bytes (hr.mono (by omega)) rfl pass0 (pa_cons pe_str pa_nil)))))))), ?_⟩)
  obtain ⟨G, l, sG, ⟨v, rfl, ⟨a, rfl, ha⟩, hlen⟩, q⟩ := h
  -- spaced
  refine ⟨a, nV l, H, rfl, Same.refl H, ha.same sG, fun J hJ F hF => lc_gen (R := Nm) Nm (fun _ => true) (fun b : Nat => if b = 45 ∨ b = 95 then 32 else b) hJ.go hJ.stop hJ.yld sG (paired_nV l) (by rw [List.length_map]; exact lt_line (by omega)) hF Nm.same Nm.same (fun _ => rfl) (fun c x G' H' hm e hx Q' k => k _ (Same.refl _)) (fun c x G' H' hm e hx _ Q' k => ?_) (fun G1 H1 ys e hF1 gF hy => ?_)⟩
  · obtain rfl : x = _ := hx
    refine ⟨_, rfl, by decide, fun p hp => ⟨p, _, rfl, .inr (SqT.of upd_same), rfl, rfl, _, rfl, ?_⟩⟩
    have e2 := (Ext.refl e.sub).priv (o := .tup [.int 45, .int 95]) hp
    have hin : inV (V.int (c : Int)) [V.int 45, V.int 95] = decide (c = 45 ∨ c = 95) := by
      simp only [inV, List.any_cons, List.any_nil, eqV, Bool.or_false]
      rw [Bool.eq_iff_iff]; simp; omega
    refine ite2 (fun z => ?_) (fun z => ?_)
    · have z' : c = 45 ∨ c = 95 := of_decide_eq_true (hin ▸ (show inV (V.int (c : Int)) [V.int 45, V.int 95] = true from z))
      refine k _ _ _ e2 ?_
      rw [if_pos z']; exact rfl
    · have z' : ¬ (c = 45 ∨ c = 95) := fun y => z (by show inV (V.int (c : Int)) [V.int 45, V.int 95] = true; rw [hin]; exact decide_eq_true y)
      refine ⟨_, rfl, k _ _ _ e2 ?_⟩
      rw [if_neg z']; exact rfl
  rw [filter_yes] at hy
  rw [paired_of_nV hy] at hF1
  have e1 := e.pub hF hF1
  have hsp : Ls (spaced l) (.ref F) (upd G1 F (.lst (nV (spaced l)))) := ⟨F, rfl, upd_same⟩
  have hspl : (spaced l).length ≤ 1000 := by simpa [spaced] using hlen
  clear hF1 hy e gF
  change Ext G H (upd G1 F (.lst (nV (spaced l)))) H1 at e1
  generalize upd G1 F (.lst (nV (spaced l))) = G2 at e1 hsp
  -- words(spaced), slug_word of each
  refine ⟨_, rfl, G2, spaced l, e1.sub, ⟨_, rfl, hsp.q, by omega⟩, fun y G3 H3 e3 hy => ?_⟩
  obtain ⟨b, ws, rfl, hb, hp⟩ := hy
  have hwl := words_len (spaced l)
  have hwf := words_flat (spaced l)
  have hsz : ws.length ≤ 1000 := by rw [← Paired.length hp]; omega
  refine ⟨b, rfl, ⟨_, SqL.of (e3.sub _ _ hb)⟩, fun F2 hF2 => lc_of (R := Ls) Ls (fun _ => true) slugWord (SqL.of (e3.sub _ _ hb)) e3.sub hp (lt_line (by omega)) hF2 (fun _ _ _ _ s h => h.same s) (fun _ _ _ _ s h => h.same s) (fun _ => rfl) (fun p x G' H' hm e hx Q' k => k _ (Same.refl _)) (fun p x G' H' hm e hx _ Q' k => ?_) (fun G4 H4 ys2 e4 hFl gF hy => ?_)⟩
  · refine ⟨_, rfl, G', p, e.sub, ⟨_, rfl, hx, ?_⟩, fun y G5 H5 e5 hy => k _ _ _ e5 hy⟩
    have := flat_mem_len hm
    omega
  rw [filter_yes] at hy
  have e4' := ((e1.trans e3).trans e4).pub (e1.same.free (e3.same.free hF2)) hFl
  have hpp := paired_same (R := Ls) (fun _ _ _ _ s h => Ls.same s h) (same_new (o := .lst ys2) gF) hy
  have hFF : (upd G4 F2 (.lst ys2)) F2 = some (.lst ys2) := upd_same
  have hsz2 : ys2.length ≤ 1000 := by rw [← Paired.length hy, List.length_map]; omega
  generalize upd G4 F2 (.lst ys2) = G5 at e4' hpp hFF
  -- joined
  refine ⟨_, rfl, F2, rfl, ⟨_, SqL.of (e4'.sub _ _ hFF)⟩, fun F3 hF3 => lc_of (R := Ls) Ls (fun p => !p.isEmpty) id (SqL.of (e4'.sub _ _ hFF)) e4'.sub hpp (lt_line (by omega)) hF3 (fun _ _ _ _ s h => h.same s) (fun _ _ _ _ s h => h.same s) (fun _ => rfl) (fun p x G' H' hm e hx Q' k => ?_) (fun p x G' H' hm e hx _ Q' k => ?_) (fun G6 H6 ys3 e6 hFl3 gF3 hy3 => ?_)⟩
  · obtain ⟨m, rfl, hm'⟩ := hx
    refine ⟨_, rfl, _, truL (SqL.of (e.sub _ _ hm')), ?_⟩
    rw [show (nV p).isEmpty = p.isEmpty by cases p <;> rfl]
    exact k _ (Same.refl _)
  · exact ⟨_, rfl, k _ _ _ (Ext.refl e.sub) hx⟩
  rw [List.map_id] at hy3
  have e6' := (e4'.trans e6).pub (e4'.same.free hF3) hFl3
  have hpp3 := paired_same (R := Ls) (fun _ _ _ _ s h => Ls.same s h) (same_new (o := .lst ys3) gF3) hy3
  have hFF3 : (upd G6 F3 (.lst ys3)) F3 = some (.lst ys3) := upd_same
  generalize upd G6 F3 (.lst ys3) = G7 at e6' hpp3 hFF3
  refine ⟨G7, "-", e6'.sub, ⟨rfl, by decide⟩, fun y8 G8 H8 e8 hy8 => ?_⟩
  have e8' := e6'.trans e8
  refine ⟨G8, (((words (spaced l)).map slugWord).filter (fun p => !p.isEmpty), [45]), e8.sub, ⟨_, _, rfl, Lss.sqs ⟨F3, ys3, rfl, e8.up _ _ hFF3, paired_same (R := Ls) (fun _ _ _ _ s h => Ls.same s h) e8.up hpp3⟩, hy8, ?_⟩, fun y9 G9 H9 e9 hy9 => ?_⟩
  · have h1 := joinTexts_len [45] (((words (spaced l)).map slugWord).filter (fun p => !p.isEmpty))
    have h2 := flat_filter_len (fun p : List Nat => !p.isEmpty) ((words (spaced l)).map slugWord)
    have h3 := flat_map_len slugWord_len (words (spaced l))
    have h4 := List.length_filter_le (fun p : List Nat => !p.isEmpty) ((words (spaced l)).map slugWord)
    rw [List.length_map] at h4
    simp only [List.length_cons, List.length_nil] at h1
    exact Nat.le_trans h1 (by omega)
  obtain ⟨c, rfl, hc⟩ := hy9
  have e9' := e8'.trans e9
  simp only [slugOf] at q
  change G9 c = some (.lst (nV (Kh450.joinTexts [45] (((words (spaced l)).map slugWord).filter fun p => !p.isEmpty)))) at hc
  generalize Kh450.joinTexts [45] (((words (spaced l)).map slugWord).filter fun p => !p.isEmpty) = jt at hc q
  refine ⟨_, rfl, c, _, rfl, SqL.of (e9'.sub _ _ hc), fun r hr => ?_⟩
  have hcut : cutV (nV jt) none (some (30 : Int)) = nV (jt.take 30) := by
    unfold cutV
    rw [HT.sIx_none, show (some (30 : Int)) = some ((30 : Nat) : Int) from rfl, HT.sIx_nat, List.drop_zero, Nat.sub_zero, ← List.map_take, List.length_map]
    congr 1
    by_cases h : 30 ≤ jt.length
    · rw [Nat.min_eq_left h]
    · rw [Nat.min_eq_right (by omega), List.take_of_length_le (Nat.le_refl _), List.take_of_length_le (by omega)]
  rw [hcut]
  have e10 := e9'.made (o := .lst (nV (jt.take 30))) hr
  refine ⟨_, rfl, _, truL (SqL.of upd_same), ?_⟩
  rw [show (nV (jt.take 30)).isEmpty = (jt.take 30).isEmpty by cases jt.take 30 <;> rfl]
  cases hem : (jt.take 30).isEmpty with
  | false =>
    rw [hem] at q
    exact iteT ⟨_, rfl, q _ _ _ e10 ⟨r, rfl, upd_same⟩⟩
  | true =>
    rw [hem] at q
    refine iteF ⟨_, "section", e10.sub, ⟨rfl, by decide⟩, fun y G11 H11 e11 hy => q _ _ _ (e10.trans e11) hy⟩
/-! ### slug -/
open LamX
def slugAns (l : List Nat) : List Int := if utf8Loop l.length l then ((slugOf l).length :: slugOf l).map Int.ofNat else [-24]
def spSlug (K : PySem.W.Frag) (T : List (Addr × Str)) : Sp := fun vs H Q _ => ∃ (v : V) (d : List Nat), vs = [v] ∧ Lr K d v H ∧ Tabs T H ∧ d.length ≤ 1000 ∧ ∀ (p : Addr) H', H' p = some (.lst ((slugAns d).map V.int)) → Q (.ref p) H'
theorem nV_int (l : List Nat) : (l.map Int.ofNat).map V.int = nV l := by rw [List.map_map]; rfl
theorem Lr.ext {l : List Nat} {v : V} {H H' : Hp} (h : Lr K l v H) (e : ExtN H H') : Lr K l v H' := let ⟨a, z, q⟩ := h; ⟨a, z, sqL_up (fun b o h1 h2 => e b o h1 h2) q⟩
abbrev s_slug : Stmt := top 33
theorem sc_slug : FnScope ["text"] ["text"] (defScope s_slug) := ⟨rfl, rfl, rfl, by decide +kernel, rfl, by decide +kernel, by decide +kernel⟩
theorem fn_slug {f CF CE cs Ps : Addr} {T : List (Addr × Str)} {oc kV doc pm ct : Value} {od an : Option Addr} {sl : Array (Option Value)} (l : K.lookup f = some ⟨oc, od, .func (PySem.W.fnOf "slug" "slug" (defArgs s_slug) (defBody s_slug) (defScope s_slug) .none kV doc pm an (.ref cs) ct), sl⟩) (hcd : PySem.W.codeIn K (.ref cs) "slug" = true)
    (tb_slug : TabB base mg cs Ps) (mem : (Ps, ("slug.<locals>.<lambda>" : Str)) ∈ T) (one : ∀ p ∈ T, p.1 = Ps → p.2 = "slug.<locals>.<lambda>") (o_answer_text : OwnAct P w K mg base 5 "answer_text" T (TTtext K CF T "answer_text.<locals>.<lambda>"))
    (o_read_text : OwnOk P w K mg base (L2.CX P w) 4 "read_text" ["text"] (spText K CE)) (o_slug_of : OwnOk P w K mg base CX0 4 "slug_of" ["text"] (spSlugOf K)) (te : PySem.W.exmOne K (.ref CE) (.ref CF) = some true) (tx : XfC K CE) (nc : PySem.W.findIn K (.ref CE) "code" = some none) :
    FnOk P w K mg base CX0 11 f (PySem.W.fnOf "slug" "slug" (defArgs s_slug) (defBody s_slug) (defScope s_slug) .none kV doc pm an (.ref cs) ct) ["text"] (spSlug K T) := by
  refine def_okC l hcd sc_slug (fun _ _ _ _ h => by obtain ⟨v, d, rfl, _⟩ := h; rfl) (fun A outer s H vs Q E hr h => ⟨_, pss_one (ps_ret (pe_imp (pe_lam2 (k := 4) (t := fun E => tCall (spSlugOf K) [] E0 (tCons (tCall (spText K CE) [] E (tCons (tVar 0) tNil)) tNil)) o_answer_text rfl tb_slug rfl mem one (hr.mono (by omega)) (lamS_by (sc := defScope s_slug) (by decide +kernel)) rfl (fun _ _ _ _ _ => rfl)
    (fun pins σ H1 s1 I1 A2 outer2 z Hz E f2 c2 un old hr2 => pe_own o_slug_of (hr2.mono (by omega)) (by rfl) pass0 (pa_cons (pe_own o_read_text (hr2.mono (by omega)) (by rfl) (L2.passes_call (L2.takes_of rfl rfl rfl rfl) (fun _ _ _ _ h => h)) (pa_cons (pv 0) pa_nil)) pa_nil))) fun _ _ _ => text_of)), ?_⟩)
  obtain ⟨v, d, rfl, hv, tabs, hlen, q⟩ := h
  refine ⟨tabs, fun H1 g1 => ⟨_, rfl, v, d, rfl, hv.ext g1, hlen, ?_⟩⟩
  unfold slugAns at q
  by_cases hu : utf8Loop d.length d = true
  · rw [if_pos hu] at q ⊢
    refine fun H2 l2 s2 hl2 => ⟨_, d, Same.refl _, ⟨_, rfl, ⟨_, rfl, .inr upd_same⟩, hlen⟩, fun y G3 H3 e3 hy => ?_⟩
    refine ⟨G3, slugOf d, e3.sub, ⟨_, rfl, hy, ?_⟩, fun z G4 H4 e4 hz => ?_⟩
    · unfold slugOf
      dsimp only
      split
      · decide
      · rw [List.length_take]; omega
    · obtain ⟨p, rfl, hp⟩ := hz
      refine q p _ ?_
      rw [nV_int]
      exact e4.sub _ _ hp
  · rw [if_neg hu] at q ⊢
    exact fun H2 dE s2 hd => EA_mk te tx nc upd_same rfl fun p hp => q p _ upd_same

end
end Bt

namespace Bt
open Kh450 (decodeUtf8 encodeUtf8 isContinuation isScalar)
theorem utf8_dec : ∀ (k : Nat) (l : List Nat), l.length ≤ k → (∀ b ∈ l, b < 256) → (match Kh450.decodeAllLoop k l with
  | none => utf8Loop k l = false
  | some t => utf8Loop k l = true ∧ Kh450.encodeAll t = l)
  | k, [], _, _ => by cases k <;> exact ⟨rfl, rfl⟩
  | 0, a :: r, h, _ => by simp at h
  | k + 1, a :: r, h, hb => by
    have hd := seq_dec (a :: r) hb
    show match (match decodeUtf8 (a :: r) with | none => none | some (c, rest) => (Kh450.decodeAllLoop k rest).map fun codes => c :: codes) with
      | none => utf8Loop (k + 1) (a :: r) = false
      | some t => utf8Loop (k + 1) (a :: r) = true ∧ Kh450.encodeAll t = a :: r
    have eu : utf8Loop (k + 1) (a :: r) = if seqLen (a :: r) = 0 then false else utf8Loop k ((a :: r).drop (seqLen (a :: r))) := rfl
    rw [eu]
    cases e : decodeUtf8 (a :: r) with
    | none =>
      rw [e] at hd
      simp only at hd ⊢
      rw [if_pos hd]
    | some p =>
      obtain ⟨c, rest⟩ := p
      rw [e] at hd
      simp only at hd ⊢
      obtain ⟨hpos, hdrop, htake⟩ := hd
      rw [if_neg (by omega), hdrop]
      have hlen : rest.length ≤ k := by
        rw [← hdrop, List.length_drop]
        simp only [List.length_cons] at h ⊢
        omega
      have ih := utf8_dec k rest hlen (fun b hm => hb b (List.mem_of_mem_drop (hdrop ▸ hm)))
      cases e2 : Kh450.decodeAllLoop k rest with
      | none =>
        rw [e2] at ih
        exact ih
      | some t =>
        rw [e2] at ih
        simp only [Option.map_some] at ih ⊢
        refine ⟨ih.1, ?_⟩
        show encodeUtf8 c ++ Kh450.encodeAll t = a :: r
        rw [ih.2, ← htake, ← hdrop, List.take_append_drop]

theorem decodeAll_eq (l : List Nat) (hb : ∀ b ∈ l, b < 256) : (match Kh450.decodeAll l with
  | none => utf8Loop l.length l = false
  | some t => utf8Loop l.length l = true ∧ Kh450.encodeAll t = l) := utf8_dec l.length l (Nat.le_refl _) hb
/-! ### slugs -/
open Kh450 (slugWords lowerCase isLower isDigit isWhite isUpper)
theorem slugWords_ne : ∀ l, slugWords l ≠ []
  | [] => by simp [slugWords]
  | c :: r => by
    have h := slugWords_ne r
    unfold slugWords
    cases e : slugWords r with
    | nil => exact absurd e h
    | cons w o =>
      dsimp only
      split
      · simp
      · split <;> simp
theorem isLD_eq (c : Nat) : (isLower (lowerCase c) || isDigit c) = isLD c := by
  unfold isLD lowerCase
  cases hu : isUpper c
  · simp
  · simp only [if_true, Bool.or_true, Bool.true_or]
    simp only [isUpper, Bool.and_eq_true, decide_eq_true_eq] at hu
    simp only [isLower, Bool.or_eq_true, Bool.and_eq_true, decide_eq_true_eq]
    left; omega
theorem lowerB_eq (c : Nat) : lowerB c = lowerCase c := rfl
def isSep (c : Nat) : Bool := isWhite c || c == 45 || c == 95
theorem slugWords_cons (c : Nat) (r : List Nat) (w : List Nat) (o : List (List Nat)) (h : slugWords r = w :: o) : slugWords (c :: r) = if isLD c then (lowerB c :: w) :: o else if isSep c then [] :: w :: o else w :: o := by
  show (match slugWords r with | [] => [] | word :: others => _) = _
  rw [h]
  dsimp only
  rw [isLD_eq]
  rfl

def glue : List (List Nat) → List (List Nat) → List (List Nat)
  | [], q => q
  | [w], x :: y => (w ++ x) :: y
  | [w], [] => [w]
  | w :: v :: o, q => w :: glue (v :: o) q
theorem glue_snoc (w x : List Nat) (y : List (List Nat)) : ∀ o : List (List Nat), glue (o ++ [w]) (x :: y) = o ++ (w ++ x) :: y
  | [] => rfl
  | [a] => rfl
  | a :: b :: o => by
    show a :: glue (b :: o ++ [w]) (x :: y) = a :: (b :: o ++ (w ++ x) :: y)
    rw [glue_snoc w x y (b :: o)]
def swF (c : Nat) : List (List Nat) → List (List Nat)
  | [] => []
  | w :: o => if isLD c then (lowerB c :: w) :: o else if isSep c then [] :: w :: o else w :: o
theorem slugWords_F (c : Nat) (r : List Nat) : slugWords (c :: r) = swF c (slugWords r) := by
  cases e : slugWords r with
  | nil => exact absurd e (slugWords_ne r)
  | cons w o => exact slugWords_cons c r w o e
theorem swF_glue (c : Nat) : ∀ (p : List (List Nat)) (x : List Nat) (y : List (List Nat)), p ≠ [] → swF c (glue p (x :: y)) = glue (swF c p) (x :: y)
  | [], _, _, h => absurd rfl h
  | [w], x, y, _ => by
    show (if isLD c then (lowerB c :: (w ++ x)) :: y else if isSep c then [] :: (w ++ x) :: y else (w ++ x) :: y) = glue (if isLD c then [lowerB c :: w] else if isSep c then [[], w] else [w]) (x :: y)
    split
    · rfl
    · split <;> rfl
  | w :: v :: o, x, y, _ => by
    show (if isLD c then (lowerB c :: w) :: glue (v :: o) (x :: y) else if isSep c then [] :: w :: glue (v :: o) (x :: y) else w :: glue (v :: o) (x :: y)) = glue (if isLD c then (lowerB c :: w) :: v :: o else if isSep c then [] :: w :: v :: o else w :: v :: o) (x :: y)
    split
    · rfl
    · split <;> rfl
theorem slugWords_app (m : List Nat) : ∀ l : List Nat, slugWords (l ++ m) = glue (slugWords l) (slugWords m)
  | [] => by
    cases e : slugWords m with
    | nil => exact absurd e (slugWords_ne m)
    | cons x y => show slugWords m = _; rw [e]; rfl
  | c :: l => by
    rw [List.cons_append, slugWords_F, slugWords_F, slugWords_app m l]
    cases e : slugWords m with
    | nil => exact absurd e (slugWords_ne m)
    | cons x y => exact swF_glue c _ x y (slugWords_ne l)
/-- behind one byte more -/
theorem slugWords_snoc (b : Nat) (l : List Nat) (o : List (List Nat)) (w : List Nat) (h : slugWords l = o ++ [w]) : slugWords (l ++ [b]) = if isLD b then o ++ [w ++ [lowerB b]] else if isSep b then o ++ [w, []] else o ++ [w] := by
  rw [slugWords_app, h, slugWords_F]
  show glue (o ++ [w]) (if isLD b then [[lowerB b]] else if isSep b then [[], []] else [[]]) = _
  split
  · rw [glue_snoc]
  · split
    · rw [glue_snoc]; simp
    · rw [glue_snoc]; simp
/-! bytes of what is no sign of ASCII are left out -/
theorem big_bytes {b : Nat} (h : 128 ≤ b) : isLD b = false ∧ isSep b = false := by
  constructor
  · simp [isLD, isLower, isUpper, isDigit]; omega
  · simp [isSep, isWhite]; omega
theorem slugWords_big {b : Nat} (h : 128 ≤ b) (r : List Nat) : slugWords (b :: r) = slugWords r := by
  rw [slugWords_F]
  cases e : slugWords r with
  | nil => exact absurd e (slugWords_ne r)
  | cons w o => simp [swF, (big_bytes h).1, (big_bytes h).2]
theorem slugWords_bigs : ∀ (l r : List Nat), (∀ b ∈ l, 128 ≤ b) → slugWords (l ++ r) = slugWords r
  | [], _, _ => rfl
  | b :: l, r, h => by rw [List.cons_append, slugWords_big (h b (by simp)), slugWords_bigs l r (fun c hc => h c (by simp [hc]))]
theorem encode_big {c : Nat} (h : ¬ c < 128) : ∀ b ∈ encodeUtf8 c, 128 ≤ b := by
  intro b hb
  unfold encodeUtf8 at hb
  rw [if_neg h] at hb
  split at hb
  · simp at hb; omega
  · split at hb
    · simp at hb; omega
    · simp at hb; omega
theorem slugWords_enc : ∀ t : List Nat, slugWords (Kh450.encodeAll t) = slugWords t
  | [] => rfl
  | c :: t => by
    have ih := slugWords_enc t
    show slugWords (encodeUtf8 c ++ Kh450.encodeAll t) = _
    by_cases h : c < 128
    · have e : encodeUtf8 c = [c] := by unfold encodeUtf8; rw [if_pos h]
      rw [e, slugWords_F c t, ← ih, ← slugWords_F]
      rfl
    · rw [slugWords_bigs _ _ (encode_big h), slugWords_big (by omega), ih]
/-! the pieces and the words -/
def sp1 (b : Nat) : Nat := if b = 45 ∨ b = 95 then 32 else b
def runW (ps : List (List Nat)) : List (List Nat) := ((ps.filter fun p => !isWhite (p.headD 0)).map slugWord).filter fun p => !p.isEmpty
/-- all of a piece is of one kind -/
def OneKind (ps : List (List Nat)) : Prop := ∀ p ∈ ps, p ≠ [] ∧ ∀ c ∈ p, isWhite c = isWhite (p.headD 0)
theorem isSep_sp (b : Nat) : isWhite (sp1 b) = isSep b := by
  unfold sp1 isSep
  by_cases h : b = 45 ∨ b = 95
  · rw [if_pos h]
    rcases h with rfl | rfl <;> rfl
  · rw [if_neg h]
    have : (b == 45) = false ∧ (b == 95) = false := by constructor <;> (simp; omega)
    simp [this.1, this.2]
theorem sep_not_LD {b : Nat} (h : isSep b = true) : isLD b = false := by
  simp only [isSep, isWhite, Bool.or_eq_true, beq_iff_eq] at h
  simp only [isLD, isLower, isUpper, isDigit, Bool.or_eq_false_iff, Bool.and_eq_false_iff, decide_eq_false_iff_not]
  omega
theorem sp1_of {b : Nat} (h : isSep b = false) : sp1 b = b := by
  unfold sp1
  simp only [isSep, isWhite, Bool.or_eq_false_iff, beq_eq_false_iff_ne] at h
  rw [if_neg (by omega)]
theorem runW_app (a b : List (List Nat)) : runW (a ++ b) = runW a ++ runW b := by simp [runW]
theorem slugWord_app (a b : List Nat) : slugWord (a ++ b) = slugWord a ++ slugWord b := by simp [slugWord]
def ne (ls : List (List Nat)) : List (List Nat) := ls.filter fun p => !p.isEmpty
theorem ne_app (a b : List (List Nat)) : ne (a ++ b) = ne a ++ ne b := by simp [ne]
theorem runW_word {p : List Nat} (h : isWhite (p.headD 0) = false) : runW [p] = ne [slugWord p] := by simp only [runW, ne, List.filter_cons, List.filter_nil, h, Bool.not_false, if_true, List.map_cons, List.map_nil]
theorem runW_white {p : List Nat} (h : isWhite (p.headD 0) = true) : runW [p] = [] := by simp only [runW, List.filter_cons, List.filter_nil, h, Bool.not_true, Bool.false_eq_true, if_false, List.map_nil]
theorem head_app (p q : List Nat) (h : p ≠ []) : (p ++ q).headD 0 = p.headD 0 := by
  cases p with
  | nil => exact absurd rfl h
  | cons a r => rfl
/-- what the program's pieces say and what the words say, behind the same bytes -/
def Both (ps o : List (List Nat)) (w : List Nat) : Prop := OneKind ps ∧
  ((w = [] ∧ ne o = runW ps ∧ (ps = [] ∨ ∃ qs p, ps = qs ++ [p] ∧ isWhite (p.headD 0) = true)) ∨ ∃ qs p, ps = qs ++ [p] ∧ isWhite (p.headD 0) = false ∧ w = slugWord p ∧ ne o = runW qs)
theorem both_all : ∀ (l : List Nat), ∃ o w, slugWords l = o ++ [w] ∧ Both (pieces (l.map sp1)) o w := by
  intro l
  -- from the left
  have rev : ∀ (n : Nat) (l : List Nat), l.length = n → ∃ o w, slugWords l = o ++ [w] ∧ Both (pieces (l.map sp1)) o w := by
    intro n
    induction n with
    | zero =>
      intro l h
      have : l = [] := List.length_eq_zero_iff.mp h
      subst this
      exact ⟨[], [], rfl, (fun p hp => by cases hp), .inl ⟨rfl, rfl, .inl rfl⟩⟩
    | succ n ih =>
      intro l h
      obtain ⟨l', b, rfl⟩ : ∃ l' b, l = l' ++ [b] := by
        have hne : l ≠ [] := fun z => by subst z; cases h
        exact ⟨l.dropLast, l.getLast hne, (List.dropLast_concat_getLast hne).symm⟩
      obtain ⟨o, w, hs, hok, hB⟩ := ih l' (by simpa using h)
      have hsn := slugWords_snoc b l' o w hs
      rw [List.map_append, List.map_cons, List.map_nil, pieces_snoc]
      generalize pieces (l'.map sp1) = ps at hok hB ⊢
      -- the last piece
      have new : ∀ (qs : List (List Nat)), OneKind qs → OneKind (qs ++ [[sp1 b]]) := fun qs hq p hp => by
        rcases List.mem_append.mp hp with hp | hp
        · exact hq p hp
        · simp at hp; subst hp; simp
      have more : ∀ (qs : List (List Nat)) (p : List Nat), OneKind (qs ++ [p]) → isWhite (sp1 b) = isWhite (p.headD 0) → OneKind (qs ++ [p ++ [sp1 b]]) := fun qs p hq hw r hr => by
        rcases List.mem_append.mp hr with hr | hr
        · exact hq r (List.mem_append_left _ hr)
        · simp at hr; subst hr
          have hp := hq p (by simp)
          refine ⟨by simp, fun c hc => ?_⟩
          rw [head_app _ _ hp.1]
          rcases List.mem_append.mp hc with hc | hc
          · exact hp.2 c hc
          · simp at hc; subst hc; exact hw
      have lastOf : ∀ (qs : List (List Nat)) (p : List Nat), OneKind (qs ++ [p]) → addPiece (qs ++ [p]) (sp1 b) = if isWhite (sp1 b) = isWhite (p.headD 0) then qs ++ [p ++ [sp1 b]] else qs ++ [p] ++ [[sp1 b]] := fun qs p hq => by
        have hp := hq p (by simp)
        obtain ⟨p0, c, rfl⟩ : ∃ p0 c, p = p0 ++ [c] := ⟨p.dropLast, p.getLast hp.1, (List.dropLast_concat_getLast hp.1).symm⟩
        rw [addPiece_snoc]
        have := hp.2 c (by simp)
        rw [this]
        by_cases z : isWhite (sp1 b) = isWhite ((p0 ++ [c]).headD 0)
        · rw [if_pos z, if_pos z.symm]
        · rw [if_neg z, if_neg (fun y => z y.symm)]
      by_cases hb : isSep b = true
      · -- a separator
        rw [sep_not_LD hb, if_neg (by decide), if_pos hb] at hsn
        have hw1 : isWhite (sp1 b) = true := (isSep_sp b).trans hb
        refine ⟨o ++ [w], [], by rw [hsn]; simp, ?_⟩
        rcases hB with ⟨rfl, hne, hps⟩ | ⟨qs, p, rfl, hp, rfl, hne⟩
        · rcases hps with rfl | ⟨qs, p, rfl, hp⟩
          · refine ⟨new [] (fun p hp => by cases hp), .inl ⟨rfl, ?_, .inr ⟨[], _, rfl, hw1⟩⟩⟩
            rw [ne_app, hne]
            show runW [] ++ ne [[]] = runW ([] ++ [[sp1 b]])
            rw [runW_app, runW_white (p := [sp1 b]) hw1]; rfl
          · rw [lastOf qs p hok, if_pos (hw1.trans hp.symm)]
            have hpn := (hok p (by simp)).1
            refine ⟨more qs p hok (hw1.trans hp.symm), .inl ⟨rfl, ?_, .inr ⟨qs, _, rfl, by rw [head_app _ _ hpn]; exact hp⟩⟩⟩
            rw [ne_app, hne, runW_app, runW_app, runW_white hp, runW_white (p := p ++ [sp1 b]) (by rw [head_app _ _ hpn]; exact hp)]
            simp [ne]
        · rw [lastOf qs p hok, if_neg (by rw [hw1, hp]; decide)]
          refine ⟨new _ hok, .inl ⟨rfl, ?_, .inr ⟨_, _, rfl, hw1⟩⟩⟩
          rw [ne_app, hne, runW_app, runW_app, runW_word hp, runW_white (p := [sp1 b]) hw1]
          simp
      · -- no separator
        have hbf : isSep b = false := by simpa using hb
        have hw1 : isWhite (sp1 b) = false := (isSep_sp b).trans hbf
        have hw : slugWords (l' ++ [b]) = o ++ [w ++ slugWord [b]] := by
          rw [hsn]
          by_cases hl : isLD b = true
          · rw [if_pos hl]; simp [slugWord, hl]
          · rw [if_neg hl, if_neg hb]; simp [slugWord, hl]
        refine ⟨o, w ++ slugWord [b], hw, ?_⟩
        have hsp := sp1_of hbf
        rcases hB with ⟨rfl, hne, hps⟩ | ⟨qs, p, rfl, hp, rfl, hne⟩
        · have e : addPiece ps (sp1 b) = ps ++ [[sp1 b]] := by
            rcases hps with rfl | ⟨qs, p, rfl, hp⟩
            · rfl
            · rw [lastOf qs p hok, if_neg (by rw [hw1, hp]; decide)]
          rw [e]
          refine ⟨new _ hok, .inr ⟨ps, _, rfl, hw1, by rw [hsp]; rfl, hne⟩⟩
        · rw [lastOf qs p hok, if_pos (hw1.trans hp.symm)]
          have hpn := (hok p (by simp)).1
          refine ⟨more qs p hok (hw1.trans hp.symm), .inr ⟨qs, _, rfl, by rw [head_app _ _ hpn]; exact hp, by rw [slugWord_app, hsp], hne⟩⟩
  exact rev l.length l rfl
theorem runW_words (l : List Nat) : runW (pieces (l.map sp1)) = ne (slugWords l) := by
  obtain ⟨o, w, hs, _, hB⟩ := both_all l
  rw [hs, ne_app]
  rcases hB with ⟨rfl, hne, _⟩ | ⟨qs, p, e, hp, rfl, hne⟩
  · rw [hne]; simp [ne]
  · rw [e, runW_app, runW_word hp, hne]
theorem slugOf_eq (t : List Nat) : slugOf (Kh450.encodeAll t) = Kh450.slug t := by
  have h : ((words (spaced (Kh450.encodeAll t))).map slugWord).filter (fun p => !p.isEmpty) = (slugWords t).filter fun w => !w.isEmpty := by
    have := runW_words (Kh450.encodeAll t)
    rw [slugWords_enc] at this
    exact this
  unfold slugOf Kh450.slug
  rw [h]
  rfl
theorem slug_is (ns : List Int) (h : ∀ x ∈ ns, 0 ≤ x ∧ x ≤ 255) : slugAns (ns.map Int.toNat) = PyKh450.slug ns := by
  have hb : ∀ b ∈ ns.map Int.toNat, b < 256 := fun b hb => by
    obtain ⟨x, hx, rfl⟩ := List.mem_map.mp hb
    have := h x hx
    omega
  have hd := decodeAll_eq (ns.map Int.toNat) hb
  show slugAns (ns.map Int.toNat) = Kh450Neutral.integers (match Kh450.decodeAll (ns.map Int.toNat) with | none => Kh450.number (-24) | some t => Kh450.bytesResult (Kh450.slug t))
  unfold slugAns
  cases e : Kh450.decodeAll (ns.map Int.toNat) with
  | none =>
    rw [e] at hd
    rw [show utf8Loop (ns.map Int.toNat).length (ns.map Int.toNat) = false from hd]
    rfl
  | some t =>
    rw [e] at hd
    obtain ⟨h1, h2⟩ := hd
    rw [h1, if_pos rfl]
    rw [← h2, slugOf_eq]
    rfl
end Bt

namespace Bt
open PySem PySem.Spec PyProof.Rows L2 LamX
open PySem.W (Codec OpenSpec)
theorem nV_toNat : ∀ {l : List Int}, (∀ x ∈ l, 0 ≤ x ∧ x ≤ 255) → nV (l.map Int.toNat) = l.map V.int
  | [], _ => rfl
  | x :: r, h => by
    have hx := h x (by simp)
    have ih := nV_toNat (l := r) fun y hy => h y (by simp [hy])
    show V.int ((x.toNat : Nat) : Int) :: nV (r.map Int.toNat) = V.int x :: r.map V.int
    rw [ih, Int.toNat_of_nonneg hx.1]
theorem tab_obj {q : Program} {loose : List Str} {mean : ExcName → Option Value} {mg mb : Str → Option Value} {K : PySem.W.Frag} {h : Heap} {x : Str} {f c P : Nat} {oc oc2 : Value} {od od2 : Option Addr} {fd : FuncData} {sl sl2 : Array (Option Value)} {vs : Array Value} (T : Top q loose mean mg mb h) (hd : ((recsOf q).find? (fun e => e.name == x)).isSome = true) (X : K.In h)
    (a : PySem.W.nsIn K mainGlobals x = some (some (.ref f))) (l : K.lookup f = some ⟨oc, od, .func fd, sl⟩) (hc : fd.code = .ref c) (lc : K.lookup c = some ⟨oc2, od2, .fields vs, sl2⟩) (hv : vs[11]? = some (.ref P)) : PySem.W.CodeHd h c P ∧ h.get? P = some { cls := .none, data := .fields #[] } := by
  obtain ⟨d, hd⟩ := Option.isSome_iff_exists.mp hd
  exact tab_def (n := 0) T X hd a l hc lc hv
theorem all_mk {P : Program} {w : World} {K : PySem.W.Frag} {q : Program} {loose : List Str} {mean : ExcName → Option Value} {h : Heap} {mg mb : Str → Option Value} {fa : Addr} {Goal : Prop} (X : K.In h) (top : Top q loose mean mg mb h) (hfa : mg "slug" = some (.ref fa))
    (fi_answer_text : ((recsOf q).find? (fun e => e.name == ("answer_text" : Str))).isSome = true)
    (fi_slug : ((recsOf q).find? (fun e => e.name == ("slug" : Str))).isSome = true)
    (fin : ∀ (fd : FuncData) (cs : List (Addr × Addr)) (T : List (Addr × Str)), (∀ p ∈ cs, PySem.W.CodeHd h p.1 p.2 ∧ h.get? p.2 = some { cls := .none, data := .fields #[] }) → (∀ p ∈ cs, K.lookup p.2 = none) → (∀ (s : Shared) (us : List Value), us.length = (["text"] : List Str).length → BindsTo s fd ⟨us, []⟩ ((["text"] : List Str).zip us)) →
      (∀ base : Heap, K.In base → base.Ns mainGlobals mg → (∀ p ∈ cs, TabB base mg p.1 p.2) → FnOk P w K mg base CX0 11 fa fd ["text"] ((fun K T => spSlug K T) K T)) → (∀ H : Hp, (∀ p ∈ cs, H p.2 = some (.tbl #[])) → Tabs T H) → Goal)
    {f_ascii_bytes : Addr} {oc_ascii_bytes kV_ascii_bytes dc_ascii_bytes pm_ascii_bytes cd_ascii_bytes ct_ascii_bytes : Value} {od_ascii_bytes an_ascii_bytes : Option Addr} {sl_ascii_bytes : Array (Option Value)}
    {f_is_space : Addr} {oc_is_space kV_is_space dc_is_space pm_is_space cd_is_space ct_is_space : Value} {od_is_space an_is_space : Option Addr} {sl_is_space : Array (Option Value)}
    {f_is_lowercase : Addr} {oc_is_lowercase kV_is_lowercase dc_is_lowercase pm_is_lowercase cd_is_lowercase ct_is_lowercase : Value} {od_is_lowercase an_is_lowercase : Option Addr} {sl_is_lowercase : Array (Option Value)}
    {f_is_uppercase : Addr} {oc_is_uppercase kV_is_uppercase dc_is_uppercase pm_is_uppercase cd_is_uppercase ct_is_uppercase : Value} {od_is_uppercase an_is_uppercase : Option Addr} {sl_is_uppercase : Array (Option Value)}
    {f_is_digit : Addr} {oc_is_digit kV_is_digit dc_is_digit pm_is_digit cd_is_digit ct_is_digit : Value} {od_is_digit an_is_digit : Option Addr} {sl_is_digit : Array (Option Value)}
    {f_is_letter_or_digit : Addr} {oc_is_letter_or_digit kV_is_letter_or_digit dc_is_letter_or_digit pm_is_letter_or_digit cd_is_letter_or_digit ct_is_letter_or_digit : Value} {od_is_letter_or_digit an_is_letter_or_digit : Option Addr} {sl_is_letter_or_digit : Array (Option Value)}
    {f_is_continuation : Addr} {oc_is_continuation kV_is_continuation dc_is_continuation pm_is_continuation cd_is_continuation ct_is_continuation : Value} {od_is_continuation an_is_continuation : Option Addr} {sl_is_continuation : Array (Option Value)}
    {f_announced_length : Addr} {oc_announced_length kV_announced_length dc_announced_length pm_announced_length cd_announced_length ct_announced_length : Value} {od_announced_length an_announced_length : Option Addr} {sl_announced_length : Array (Option Value)}
    {f_second_byte_fits : Addr} {oc_second_byte_fits kV_second_byte_fits dc_second_byte_fits pm_second_byte_fits cd_second_byte_fits ct_second_byte_fits : Value} {od_second_byte_fits an_second_byte_fits : Option Addr} {sl_second_byte_fits : Array (Option Value)}
    {f_sequence_length : Addr} {oc_sequence_length kV_sequence_length dc_sequence_length pm_sequence_length cd_sequence_length ct_sequence_length : Value} {od_sequence_length an_sequence_length : Option Addr} {sl_sequence_length : Array (Option Value)}
    {f_is_utf8 : Addr} {oc_is_utf8 kV_is_utf8 dc_is_utf8 pm_is_utf8 cd_is_utf8 ct_is_utf8 : Value} {od_is_utf8 an_is_utf8 : Option Addr} {sl_is_utf8 : Array (Option Value)}
    {f_pieces : Addr} {oc_pieces kV_pieces dc_pieces pm_pieces cd_pieces ct_pieces : Value} {od_pieces an_pieces : Option Addr} {sl_pieces : Array (Option Value)}
    {f_words : Addr} {oc_words kV_words dc_words pm_words cd_words ct_words : Value} {od_words an_words : Option Addr} {sl_words : Array (Option Value)}
    {f_joined : Addr} {oc_joined kV_joined dc_joined pm_joined cd_joined ct_joined : Value} {od_joined an_joined : Option Addr} {sl_joined : Array (Option Value)}
    {f_read_text : Addr} {oc_read_text kV_read_text dc_read_text pm_read_text cd_read_text ct_read_text : Value} {od_read_text an_read_text : Option Addr} {sl_read_text : Array (Option Value)}
    {f_slug_of : Addr} {oc_slug_of kV_slug_of dc_slug_of pm_slug_of cd_slug_of ct_slug_of : Value} {od_slug_of an_slug_of : Option Addr} {sl_slug_of : Array (Option Value)}
    {f_slug_word : Addr} {oc_slug_word kV_slug_word dc_slug_word pm_slug_word cd_slug_word ct_slug_word : Value} {od_slug_word an_slug_word : Option Addr} {sl_slug_word : Array (Option Value)}
    {f_lower_byte : Addr} {oc_lower_byte kV_lower_byte dc_lower_byte pm_lower_byte cd_lower_byte ct_lower_byte : Value} {od_lower_byte an_lower_byte : Option Addr} {sl_lower_byte : Array (Option Value)}
    {f_answer : Addr} {oc_answer kV_answer dc_answer pm_answer cd_answer ct_answer : Value} {od_answer an_answer : Option Addr} {sl_answer : Array (Option Value)}
    {f_answer_text : Addr} {oc_answer_text kV_answer_text dc_answer_text pm_answer_text ct_answer_text : Value} {cc_answer_text pp_answer_text : Nat} {oc2_answer_text : Value} {od2_answer_text : Option Addr} {vs_answer_text : Array Value} {sl2_answer_text : Array (Option Value)} {od_answer_text an_answer_text : Option Addr} {sl_answer_text : Array (Option Value)}
    {f_with_length : Addr} {oc_with_length kV_with_length dc_with_length pm_with_length cd_with_length ct_with_length : Value} {od_with_length an_with_length : Option Addr} {sl_with_length : Array (Option Value)}
    {f_slug : Addr} {oc_slug kV_slug dc_slug pm_slug ct_slug : Value} {cc_slug pp_slug : Nat} {oc2_slug : Value} {od2_slug : Option Addr} {vs_slug : Array Value} {sl2_slug : Array (Option Value)} {od_slug an_slug : Option Addr} {sl_slug : Array (Option Value)}
    {t_SPACE : Tok}
    {t_TAB : Tok}
    {t_LINE_FEED : Tok}
    {t_CARRIAGE_RETURN : Tok}
    {t_LONGEST_SLUG : Tok}
    {C_Refusal : Addr}
    {nm_Refusal qn_Refusal : Str} {N_Refusal : Addr} {bs_Refusal bm_Refusal sub_Refusal : List Value} {sn_Refusal : List Str} {ab_Refusal : Bool} {co_Refusal : Option Bool} {dd_Refusal : Option Addr} {x0_Refusal x1_Refusal x2_Refusal x3_Refusal x5_Refusal : Option Value}
    {f_Refusal_init : Addr} {oc_Refusal_init kV_Refusal_init dc_Refusal_init pm_Refusal_init cd_Refusal_init ct_Refusal_init : Value} {od_Refusal_init an_Refusal_init : Option Addr} {sl_Refusal_init : Array (Option Value)}
    {C_EncodingError : Addr}
    {nm_EncodingError qn_EncodingError : Str} {N_EncodingError : Addr} {bs_EncodingError bm_EncodingError sub_EncodingError : List Value} {sn_EncodingError : List Str} {ab_EncodingError : Bool} {co_EncodingError : Option Bool} {dd_EncodingError : Option Addr} {x0_EncodingError x1_EncodingError x2_EncodingError x3_EncodingError x5_EncodingError : Option Value}
    {f_EncodingError_init : Addr} {oc_EncodingError_init kV_EncodingError_init dc_EncodingError_init pm_EncodingError_init cd_EncodingError_init ct_EncodingError_init : Value} {od_EncodingError_init an_EncodingError_init : Option Addr} {sl_EncodingError_init : Array (Option Value)}
    (a_ascii_bytes : PySem.W.nsIn K mainGlobals "ascii_bytes" = some (some (.ref f_ascii_bytes)))
    (l_ascii_bytes : K.lookup f_ascii_bytes = some ⟨oc_ascii_bytes, od_ascii_bytes, .func (PySem.W.fnOf "ascii_bytes" "ascii_bytes" (defArgs s_ascii_bytes) (defBody s_ascii_bytes) (defScope s_ascii_bytes) .none kV_ascii_bytes dc_ascii_bytes pm_ascii_bytes an_ascii_bytes cd_ascii_bytes ct_ascii_bytes), sl_ascii_bytes⟩)
    (c_ascii_bytes : PySem.W.codeIn K cd_ascii_bytes "ascii_bytes" = true)
    (k_ascii_bytes : PySem.W.keepIn K (.ref f_ascii_bytes) = true)
    (a_is_space : PySem.W.nsIn K mainGlobals "is_space" = some (some (.ref f_is_space)))
    (l_is_space : K.lookup f_is_space = some ⟨oc_is_space, od_is_space, .func (PySem.W.fnOf "is_space" "is_space" (defArgs s_is_space) (defBody s_is_space) (defScope s_is_space) .none kV_is_space dc_is_space pm_is_space an_is_space cd_is_space ct_is_space), sl_is_space⟩)
    (c_is_space : PySem.W.codeIn K cd_is_space "is_space" = true)
    (k_is_space : PySem.W.keepIn K (.ref f_is_space) = true)
    (a_is_lowercase : PySem.W.nsIn K mainGlobals "is_lowercase" = some (some (.ref f_is_lowercase)))
    (l_is_lowercase : K.lookup f_is_lowercase = some ⟨oc_is_lowercase, od_is_lowercase, .func (PySem.W.fnOf "is_lowercase" "is_lowercase" (defArgs s_is_lowercase) (defBody s_is_lowercase) (defScope s_is_lowercase) .none kV_is_lowercase dc_is_lowercase pm_is_lowercase an_is_lowercase cd_is_lowercase ct_is_lowercase), sl_is_lowercase⟩)
    (c_is_lowercase : PySem.W.codeIn K cd_is_lowercase "is_lowercase" = true)
    (k_is_lowercase : PySem.W.keepIn K (.ref f_is_lowercase) = true)
    (a_is_uppercase : PySem.W.nsIn K mainGlobals "is_uppercase" = some (some (.ref f_is_uppercase)))
    (l_is_uppercase : K.lookup f_is_uppercase = some ⟨oc_is_uppercase, od_is_uppercase, .func (PySem.W.fnOf "is_uppercase" "is_uppercase" (defArgs s_is_uppercase) (defBody s_is_uppercase) (defScope s_is_uppercase) .none kV_is_uppercase dc_is_uppercase pm_is_uppercase an_is_uppercase cd_is_uppercase ct_is_uppercase), sl_is_uppercase⟩)
    (c_is_uppercase : PySem.W.codeIn K cd_is_uppercase "is_uppercase" = true)
    (k_is_uppercase : PySem.W.keepIn K (.ref f_is_uppercase) = true)
    (a_is_digit : PySem.W.nsIn K mainGlobals "is_digit" = some (some (.ref f_is_digit)))
    (l_is_digit : K.lookup f_is_digit = some ⟨oc_is_digit, od_is_digit, .func (PySem.W.fnOf "is_digit" "is_digit" (defArgs s_is_digit) (defBody s_is_digit) (defScope s_is_digit) .none kV_is_digit dc_is_digit pm_is_digit an_is_digit cd_is_digit ct_is_digit), sl_is_digit⟩)
    (c_is_digit : PySem.W.codeIn K cd_is_digit "is_digit" = true)
    (k_is_digit : PySem.W.keepIn K (.ref f_is_digit) = true)
    (a_is_letter_or_digit : PySem.W.nsIn K mainGlobals "is_letter_or_digit" = some (some (.ref f_is_letter_or_digit)))
    (l_is_letter_or_digit : K.lookup f_is_letter_or_digit = some ⟨oc_is_letter_or_digit, od_is_letter_or_digit, .func (PySem.W.fnOf "is_letter_or_digit" "is_letter_or_digit" (defArgs s_is_letter_or_digit) (defBody s_is_letter_or_digit) (defScope s_is_letter_or_digit) .none kV_is_letter_or_digit dc_is_letter_or_digit pm_is_letter_or_digit an_is_letter_or_digit cd_is_letter_or_digit ct_is_letter_or_digit), sl_is_letter_or_digit⟩)
    (c_is_letter_or_digit : PySem.W.codeIn K cd_is_letter_or_digit "is_letter_or_digit" = true)
    (k_is_letter_or_digit : PySem.W.keepIn K (.ref f_is_letter_or_digit) = true)
    (a_is_continuation : PySem.W.nsIn K mainGlobals "is_continuation" = some (some (.ref f_is_continuation)))
    (l_is_continuation : K.lookup f_is_continuation = some ⟨oc_is_continuation, od_is_continuation, .func (PySem.W.fnOf "is_continuation" "is_continuation" (defArgs s_is_continuation) (defBody s_is_continuation) (defScope s_is_continuation) .none kV_is_continuation dc_is_continuation pm_is_continuation an_is_continuation cd_is_continuation ct_is_continuation), sl_is_continuation⟩)
    (c_is_continuation : PySem.W.codeIn K cd_is_continuation "is_continuation" = true)
    (k_is_continuation : PySem.W.keepIn K (.ref f_is_continuation) = true)
    (a_announced_length : PySem.W.nsIn K mainGlobals "announced_length" = some (some (.ref f_announced_length)))
    (l_announced_length : K.lookup f_announced_length = some ⟨oc_announced_length, od_announced_length, .func (PySem.W.fnOf "announced_length" "announced_length" (defArgs s_announced_length) (defBody s_announced_length) (defScope s_announced_length) .none kV_announced_length dc_announced_length pm_announced_length an_announced_length cd_announced_length ct_announced_length), sl_announced_length⟩)
    (c_announced_length : PySem.W.codeIn K cd_announced_length "announced_length" = true)
    (k_announced_length : PySem.W.keepIn K (.ref f_announced_length) = true)
    (a_second_byte_fits : PySem.W.nsIn K mainGlobals "second_byte_fits" = some (some (.ref f_second_byte_fits)))
    (l_second_byte_fits : K.lookup f_second_byte_fits = some ⟨oc_second_byte_fits, od_second_byte_fits, .func (PySem.W.fnOf "second_byte_fits" "second_byte_fits" (defArgs s_second_byte_fits) (defBody s_second_byte_fits) (defScope s_second_byte_fits) .none kV_second_byte_fits dc_second_byte_fits pm_second_byte_fits an_second_byte_fits cd_second_byte_fits ct_second_byte_fits), sl_second_byte_fits⟩)
    (c_second_byte_fits : PySem.W.codeIn K cd_second_byte_fits "second_byte_fits" = true)
    (k_second_byte_fits : PySem.W.keepIn K (.ref f_second_byte_fits) = true)
    (a_sequence_length : PySem.W.nsIn K mainGlobals "sequence_length" = some (some (.ref f_sequence_length)))
    (l_sequence_length : K.lookup f_sequence_length = some ⟨oc_sequence_length, od_sequence_length, .func (PySem.W.fnOf "sequence_length" "sequence_length" (defArgs s_sequence_length) (defBody s_sequence_length) (defScope s_sequence_length) .none kV_sequence_length dc_sequence_length pm_sequence_length an_sequence_length cd_sequence_length ct_sequence_length), sl_sequence_length⟩)
    (c_sequence_length : PySem.W.codeIn K cd_sequence_length "sequence_length" = true)
    (k_sequence_length : PySem.W.keepIn K (.ref f_sequence_length) = true)
    (a_is_utf8 : PySem.W.nsIn K mainGlobals "is_utf8" = some (some (.ref f_is_utf8)))
    (l_is_utf8 : K.lookup f_is_utf8 = some ⟨oc_is_utf8, od_is_utf8, .func (PySem.W.fnOf "is_utf8" "is_utf8" (defArgs s_is_utf8) (defBody s_is_utf8) (defScope s_is_utf8) .none kV_is_utf8 dc_is_utf8 pm_is_utf8 an_is_utf8 cd_is_utf8 ct_is_utf8), sl_is_utf8⟩)
    (c_is_utf8 : PySem.W.codeIn K cd_is_utf8 "is_utf8" = true)
    (k_is_utf8 : PySem.W.keepIn K (.ref f_is_utf8) = true)
    (a_pieces : PySem.W.nsIn K mainGlobals "pieces" = some (some (.ref f_pieces)))
    (l_pieces : K.lookup f_pieces = some ⟨oc_pieces, od_pieces, .func (PySem.W.fnOf "pieces" "pieces" (defArgs s_pieces) (defBody s_pieces) (defScope s_pieces) .none kV_pieces dc_pieces pm_pieces an_pieces cd_pieces ct_pieces), sl_pieces⟩)
    (c_pieces : PySem.W.codeIn K cd_pieces "pieces" = true)
    (k_pieces : PySem.W.keepIn K (.ref f_pieces) = true)
    (a_words : PySem.W.nsIn K mainGlobals "words" = some (some (.ref f_words)))
    (l_words : K.lookup f_words = some ⟨oc_words, od_words, .func (PySem.W.fnOf "words" "words" (defArgs s_words) (defBody s_words) (defScope s_words) .none kV_words dc_words pm_words an_words cd_words ct_words), sl_words⟩)
    (c_words : PySem.W.codeIn K cd_words "words" = true)
    (k_words : PySem.W.keepIn K (.ref f_words) = true)
    (a_joined : PySem.W.nsIn K mainGlobals "joined" = some (some (.ref f_joined)))
    (l_joined : K.lookup f_joined = some ⟨oc_joined, od_joined, .func (PySem.W.fnOf "joined" "joined" (defArgs s_joined) (defBody s_joined) (defScope s_joined) .none kV_joined dc_joined pm_joined an_joined cd_joined ct_joined), sl_joined⟩)
    (c_joined : PySem.W.codeIn K cd_joined "joined" = true)
    (k_joined : PySem.W.keepIn K (.ref f_joined) = true)
    (a_read_text : PySem.W.nsIn K mainGlobals "read_text" = some (some (.ref f_read_text)))
    (l_read_text : K.lookup f_read_text = some ⟨oc_read_text, od_read_text, .func (PySem.W.fnOf "read_text" "read_text" (defArgs s_read_text) (defBody s_read_text) (defScope s_read_text) .none kV_read_text dc_read_text pm_read_text an_read_text cd_read_text ct_read_text), sl_read_text⟩)
    (c_read_text : PySem.W.codeIn K cd_read_text "read_text" = true)
    (k_read_text : PySem.W.keepIn K (.ref f_read_text) = true)
    (a_slug_of : PySem.W.nsIn K mainGlobals "slug_of" = some (some (.ref f_slug_of)))
    (l_slug_of : K.lookup f_slug_of = some ⟨oc_slug_of, od_slug_of, .func (PySem.W.fnOf "slug_of" "slug_of" (defArgs s_slug_of) (defBody s_slug_of) (defScope s_slug_of) .none kV_slug_of dc_slug_of pm_slug_of an_slug_of cd_slug_of ct_slug_of), sl_slug_of⟩)
    (c_slug_of : PySem.W.codeIn K cd_slug_of "slug_of" = true)
    (k_slug_of : PySem.W.keepIn K (.ref f_slug_of) = true)
    (a_slug_word : PySem.W.nsIn K mainGlobals "slug_word" = some (some (.ref f_slug_word)))
    (l_slug_word : K.lookup f_slug_word = some ⟨oc_slug_word, od_slug_word, .func (PySem.W.fnOf "slug_word" "slug_word" (defArgs s_slug_word) (defBody s_slug_word) (defScope s_slug_word) .none kV_slug_word dc_slug_word pm_slug_word an_slug_word cd_slug_word ct_slug_word), sl_slug_word⟩)
    (c_slug_word : PySem.W.codeIn K cd_slug_word "slug_word" = true)
    (k_slug_word : PySem.W.keepIn K (.ref f_slug_word) = true)
    (a_lower_byte : PySem.W.nsIn K mainGlobals "lower_byte" = some (some (.ref f_lower_byte)))
    (l_lower_byte : K.lookup f_lower_byte = some ⟨oc_lower_byte, od_lower_byte, .func (PySem.W.fnOf "lower_byte" "lower_byte" (defArgs s_lower_byte) (defBody s_lower_byte) (defScope s_lower_byte) .none kV_lower_byte dc_lower_byte pm_lower_byte an_lower_byte cd_lower_byte ct_lower_byte), sl_lower_byte⟩)
    (c_lower_byte : PySem.W.codeIn K cd_lower_byte "lower_byte" = true)
    (k_lower_byte : PySem.W.keepIn K (.ref f_lower_byte) = true)
    (a_answer : PySem.W.nsIn K mainGlobals "answer" = some (some (.ref f_answer)))
    (l_answer : K.lookup f_answer = some ⟨oc_answer, od_answer, .func (PySem.W.fnOf "answer" "answer" (defArgs s_answer) (defBody s_answer) (defScope s_answer) .none kV_answer dc_answer pm_answer an_answer cd_answer ct_answer), sl_answer⟩)
    (c_answer : PySem.W.codeIn K cd_answer "answer" = true)
    (k_answer : PySem.W.keepIn K (.ref f_answer) = true)
    (a_answer_text : PySem.W.nsIn K mainGlobals "answer_text" = some (some (.ref f_answer_text)))
    (l_answer_text : K.lookup f_answer_text = some ⟨oc_answer_text, od_answer_text, .func (PySem.W.fnOf "answer_text" "answer_text" (defArgs s_answer_text) (defBody s_answer_text) (defScope s_answer_text) .none kV_answer_text dc_answer_text pm_answer_text an_answer_text (.ref cc_answer_text) ct_answer_text), sl_answer_text⟩)
    (c_answer_text : PySem.W.codeIn K (.ref cc_answer_text) "answer_text" = true)
    (k_answer_text : PySem.W.keepIn K (.ref f_answer_text) = true)
    (lc_answer_text : K.lookup cc_answer_text = some ⟨oc2_answer_text, od2_answer_text, .fields vs_answer_text, sl2_answer_text⟩)
    (vv_answer_text : vs_answer_text[11]? = some (.ref pp_answer_text))
    (nk_answer_text : K.lookup pp_answer_text = none)
    (a_with_length : PySem.W.nsIn K mainGlobals "with_length" = some (some (.ref f_with_length)))
    (l_with_length : K.lookup f_with_length = some ⟨oc_with_length, od_with_length, .func (PySem.W.fnOf "with_length" "with_length" (defArgs s_with_length) (defBody s_with_length) (defScope s_with_length) .none kV_with_length dc_with_length pm_with_length an_with_length cd_with_length ct_with_length), sl_with_length⟩)
    (c_with_length : PySem.W.codeIn K cd_with_length "with_length" = true)
    (k_with_length : PySem.W.keepIn K (.ref f_with_length) = true)
    (a_slug : PySem.W.nsIn K mainGlobals "slug" = some (some (.ref f_slug)))
    (l_slug : K.lookup f_slug = some ⟨oc_slug, od_slug, .func (PySem.W.fnOf "slug" "slug" (defArgs s_slug) (defBody s_slug) (defScope s_slug) .none kV_slug dc_slug pm_slug an_slug (.ref cc_slug) ct_slug), sl_slug⟩)
    (c_slug : PySem.W.codeIn K (.ref cc_slug) "slug" = true)
    (k_slug : PySem.W.keepIn K (.ref f_slug) = true)
    (lc_slug : K.lookup cc_slug = some ⟨oc2_slug, od2_slug, .fields vs_slug, sl2_slug⟩)
    (vv_slug : vs_slug[11]? = some (.ref pp_slug))
    (nk_slug : K.lookup pp_slug = none)
    (g_SPACE : PySem.W.nsIn K mainGlobals "SPACE" = some (some (.int 32 t_SPACE)))
    (g_TAB : PySem.W.nsIn K mainGlobals "TAB" = some (some (.int 9 t_TAB)))
    (g_LINE_FEED : PySem.W.nsIn K mainGlobals "LINE_FEED" = some (some (.int 10 t_LINE_FEED)))
    (g_CARRIAGE_RETURN : PySem.W.nsIn K mainGlobals "CARRIAGE_RETURN" = some (some (.int 13 t_CARRIAGE_RETURN)))
    (g_LONGEST_SLUG : PySem.W.nsIn K mainGlobals "LONGEST_SLUG" = some (some (.int 30 t_LONGEST_SLUG)))
    (z_enumerate : PySem.W.nsIn K mainGlobals "enumerate" = some none)
    (z_len : PySem.W.nsIn K mainGlobals "len" = some none)
    (z_ord : PySem.W.nsIn K mainGlobals "ord" = some none)
    (z_tuple : PySem.W.nsIn K mainGlobals "tuple" = some none)
    (g_Refusal : PySem.W.nsIn K mainGlobals "Refusal" = some (some (.ref C_Refusal)))
    (lx_Refusal : K.lookup C_Refusal = some (excClassObj nm_Refusal qn_Refusal C_Refusal N_Refusal bs_Refusal bm_Refusal true sn_Refusal sub_Refusal ab_Refusal co_Refusal dd_Refusal x0_Refusal x1_Refusal x2_Refusal x3_Refusal x5_Refusal "Exception.__new__"))
    (bm_Refusal : PySem.W.excTail exTail bm_Refusal = true)
    (sa_Refusal : PySem.W.findIn K (.ref C_Refusal) "__setattr__" = some (some (.builtin "object.__setattr__")))
    (be_Refusal : PySem.W.subIn K (.ref C_Refusal) (.type "BaseException") = some true)
    (ty_Refusal : PySem.W.typeIn K (.ref C_Refusal) = some (.type "type"))
    (kp_Refusal : PySem.W.keepIn K (.ref C_Refusal) = true)
    (ga_Refusal : PySem.W.findIn K (.ref C_Refusal) "__getattribute__" = some (some (.builtin "BaseException.__getattribute__")))
    (gg_Refusal : PySem.W.findIn K (.ref C_Refusal) "__getattr__" = some none)
    (hd_Refusal : PySem.W.hasDictIn K C_Refusal = true)
    (ic_Refusal : PySem.W.isClsIn K C_Refusal = true)
    (nf_Refusal_code : PySem.W.findIn K (.ref C_Refusal) "code" = some none)
    (nf_Refusal_kind : PySem.W.findIn K (.ref C_Refusal) "kind" = some none)
    (nf_Refusal_position : PySem.W.findIn K (.ref C_Refusal) "position" = some none)
    (su_Refusal_Refusal : PySem.W.subIn K (.ref C_Refusal) (.ref C_Refusal) = some true)
    (fi_Refusal_init : PySem.W.findIn K (.ref C_Refusal) "__init__" = some (some (.ref f_Refusal_init)))
    (l_Refusal_init : K.lookup f_Refusal_init = some ⟨oc_Refusal_init, od_Refusal_init, .func (PySem.W.fnOf "__init__" "Refusal.__init__" (defArgs s_Refusal_init) (defBody s_Refusal_init) (defScope s_Refusal_init) .none kV_Refusal_init dc_Refusal_init pm_Refusal_init an_Refusal_init cd_Refusal_init ct_Refusal_init), sl_Refusal_init⟩)
    (c_Refusal_init : PySem.W.codeIn K cd_Refusal_init "Refusal.__init__" = true)
    (k_Refusal_init : PySem.W.keepIn K (.ref f_Refusal_init) = true)
    (ti_Refusal_init : PySem.W.typeIn K (.ref f_Refusal_init) = some (.type "function"))
    (sp_Refusal : PySem.W.specialIn K (.ref C_Refusal) "__getattribute__" = some (some (.builtin "type.__getattribute__")))
    (rd_Refusal : PySem.W.readsIn K C_Refusal (.type "type") = true)
    (fc_Refusal : PySem.W.findCls K (.ref C_Refusal) (.type "type") "__init__" = some (.val (.ref f_Refusal_init)))
    (g_EncodingError : PySem.W.nsIn K mainGlobals "EncodingError" = some (some (.ref C_EncodingError)))
    (lx_EncodingError : K.lookup C_EncodingError = some (excClassObj nm_EncodingError qn_EncodingError C_EncodingError N_EncodingError bs_EncodingError bm_EncodingError true sn_EncodingError sub_EncodingError ab_EncodingError co_EncodingError dd_EncodingError x0_EncodingError x1_EncodingError x2_EncodingError x3_EncodingError x5_EncodingError "Exception.__new__"))
    (bm_EncodingError : PySem.W.excTail exTail bm_EncodingError = true)
    (sa_EncodingError : PySem.W.findIn K (.ref C_EncodingError) "__setattr__" = some (some (.builtin "object.__setattr__")))
    (be_EncodingError : PySem.W.subIn K (.ref C_EncodingError) (.type "BaseException") = some true)
    (ty_EncodingError : PySem.W.typeIn K (.ref C_EncodingError) = some (.type "type"))
    (kp_EncodingError : PySem.W.keepIn K (.ref C_EncodingError) = true)
    (ga_EncodingError : PySem.W.findIn K (.ref C_EncodingError) "__getattribute__" = some (some (.builtin "BaseException.__getattribute__")))
    (gg_EncodingError : PySem.W.findIn K (.ref C_EncodingError) "__getattr__" = some none)
    (hd_EncodingError : PySem.W.hasDictIn K C_EncodingError = true)
    (ic_EncodingError : PySem.W.isClsIn K C_EncodingError = true)
    (nf_EncodingError_code : PySem.W.findIn K (.ref C_EncodingError) "code" = some none)
    (nf_EncodingError_kind : PySem.W.findIn K (.ref C_EncodingError) "kind" = some none)
    (nf_EncodingError_position : PySem.W.findIn K (.ref C_EncodingError) "position" = some none)
    (su_EncodingError_EncodingError : PySem.W.subIn K (.ref C_EncodingError) (.ref C_EncodingError) = some true)
    (su_EncodingError_Refusal : PySem.W.subIn K (.ref C_EncodingError) (.ref C_Refusal) = some true)
    (fi_EncodingError_init : PySem.W.findIn K (.ref C_EncodingError) "__init__" = some (some (.ref f_EncodingError_init)))
    (l_EncodingError_init : K.lookup f_EncodingError_init = some ⟨oc_EncodingError_init, od_EncodingError_init, .func (PySem.W.fnOf "__init__" "EncodingError.__init__" (defArgs s_EncodingError_init) (defBody s_EncodingError_init) (defScope s_EncodingError_init) .none kV_EncodingError_init dc_EncodingError_init pm_EncodingError_init an_EncodingError_init cd_EncodingError_init ct_EncodingError_init), sl_EncodingError_init⟩)
    (c_EncodingError_init : PySem.W.codeIn K cd_EncodingError_init "EncodingError.__init__" = true)
    (k_EncodingError_init : PySem.W.keepIn K (.ref f_EncodingError_init) = true)
    (ti_EncodingError_init : PySem.W.typeIn K (.ref f_EncodingError_init) = some (.type "function"))
    (ne_answer_text_slug : pp_answer_text ≠ pp_slug)
    (ne_slug_answer_text : pp_slug ≠ pp_answer_text) : Goal := by
  have G := top.g
  have D_ascii_bytes : Dn K mg "ascii_bytes" s_ascii_bytes ["text"] := dn_mk X G a_ascii_bytes l_ascii_bytes c_ascii_bytes k_ascii_bytes fun _ _ _ _ _ _ us hl => match us, hl with | [_], _ => rfl
  have D_is_space : Dn K mg "is_space" s_is_space ["byte"] := dn_mk X G a_is_space l_is_space c_is_space k_is_space fun _ _ _ _ _ _ us hl => match us, hl with | [_], _ => rfl
  have D_is_lowercase : Dn K mg "is_lowercase" s_is_lowercase ["byte"] := dn_mk X G a_is_lowercase l_is_lowercase c_is_lowercase k_is_lowercase fun _ _ _ _ _ _ us hl => match us, hl with | [_], _ => rfl
  have D_is_uppercase : Dn K mg "is_uppercase" s_is_uppercase ["byte"] := dn_mk X G a_is_uppercase l_is_uppercase c_is_uppercase k_is_uppercase fun _ _ _ _ _ _ us hl => match us, hl with | [_], _ => rfl
  have D_is_digit : Dn K mg "is_digit" s_is_digit ["byte"] := dn_mk X G a_is_digit l_is_digit c_is_digit k_is_digit fun _ _ _ _ _ _ us hl => match us, hl with | [_], _ => rfl
  have D_is_letter_or_digit : Dn K mg "is_letter_or_digit" s_is_letter_or_digit ["byte"] := dn_mk X G a_is_letter_or_digit l_is_letter_or_digit c_is_letter_or_digit k_is_letter_or_digit fun _ _ _ _ _ _ us hl => match us, hl with | [_], _ => rfl
  have D_is_continuation : Dn K mg "is_continuation" s_is_continuation ["byte"] := dn_mk X G a_is_continuation l_is_continuation c_is_continuation k_is_continuation fun _ _ _ _ _ _ us hl => match us, hl with | [_], _ => rfl
  have D_announced_length : Dn K mg "announced_length" s_announced_length ["first"] := dn_mk X G a_announced_length l_announced_length c_announced_length k_announced_length fun _ _ _ _ _ _ us hl => match us, hl with | [_], _ => rfl
  have D_second_byte_fits : Dn K mg "second_byte_fits" s_second_byte_fits ["first", "second"] := dn_mk X G a_second_byte_fits l_second_byte_fits c_second_byte_fits k_second_byte_fits fun _ _ _ _ _ _ us hl => match us, hl with | [_, _], _ => rfl
  have D_sequence_length : Dn K mg "sequence_length" s_sequence_length ["data", "start"] := dn_mk X G a_sequence_length l_sequence_length c_sequence_length k_sequence_length fun _ _ _ _ _ _ us hl => match us, hl with | [_, _], _ => rfl
  have D_is_utf8 : Dn K mg "is_utf8" s_is_utf8 ["data"] := dn_mk X G a_is_utf8 l_is_utf8 c_is_utf8 k_is_utf8 fun _ _ _ _ _ _ us hl => match us, hl with | [_], _ => rfl
  have D_pieces : Dn K mg "pieces" s_pieces ["text"] := dn_mk X G a_pieces l_pieces c_pieces k_pieces fun _ _ _ _ _ _ us hl => match us, hl with | [_], _ => rfl
  have D_words : Dn K mg "words" s_words ["text"] := dn_mk X G a_words l_words c_words k_words fun _ _ _ _ _ _ us hl => match us, hl with | [_], _ => rfl
  have D_joined : Dn K mg "joined" s_joined ["texts", "separator"] := dn_mk X G a_joined l_joined c_joined k_joined fun _ _ _ _ _ _ us hl => match us, hl with | [_, _], _ => rfl
  have D_read_text : Dn K mg "read_text" s_read_text ["text"] := dn_mk X G a_read_text l_read_text c_read_text k_read_text fun _ _ _ _ _ _ us hl => match us, hl with | [_], _ => rfl
  have D_slug_of : Dn K mg "slug_of" s_slug_of ["text"] := dn_mk X G a_slug_of l_slug_of c_slug_of k_slug_of fun _ _ _ _ _ _ us hl => match us, hl with | [_], _ => rfl
  have D_slug_word : Dn K mg "slug_word" s_slug_word ["word"] := dn_mk X G a_slug_word l_slug_word c_slug_word k_slug_word fun _ _ _ _ _ _ us hl => match us, hl with | [_], _ => rfl
  have D_lower_byte : Dn K mg "lower_byte" s_lower_byte ["byte"] := dn_mk X G a_lower_byte l_lower_byte c_lower_byte k_lower_byte fun _ _ _ _ _ _ us hl => match us, hl with | [_], _ => rfl
  have D_answer : Dn K mg "answer" s_answer ["operation"] := dn_mk X G a_answer l_answer c_answer k_answer fun _ _ _ _ _ _ us hl => match us, hl with | [_], _ => rfl
  have DC_answer_text : DnC K mg "answer_text" s_answer_text ["operation"] cc_answer_text := ⟨f_answer_text, _, _, _, _, _, _, _, _, PySem.W.mg_of X G a_answer_text, l_answer_text, c_answer_text, k_answer_text, ((fun_mk l_answer_text c_answer_text k_answer_text).binds fun _ _ _ _ _ _ us hl => match us, hl with | [_], _ => rfl)⟩
  have ta_answer_text := tab_obj top fi_answer_text X a_answer_text l_answer_text rfl lc_answer_text vv_answer_text
  have D_with_length : Dn K mg "with_length" s_with_length ["data"] := dn_mk X G a_with_length l_with_length c_with_length k_with_length fun _ _ _ _ _ _ us hl => match us, hl with | [_], _ => rfl
  have DC_slug : DnC K mg "slug" s_slug ["text"] cc_slug := ⟨f_slug, _, _, _, _, _, _, _, _, PySem.W.mg_of X G a_slug, l_slug, c_slug, k_slug, ((fun_mk l_slug c_slug k_slug).binds fun _ _ _ _ _ _ us hl => match us, hl with | [_], _ => rfl)⟩
  have ta_slug := tab_obj top fi_slug X a_slug l_slug rfl lc_slug vv_slug
  have c_SPACE : IsC mg "SPACE" (.int 32) := ⟨_, PySem.W.mg_of X G g_SPACE, _, rfl⟩
  have c_TAB : IsC mg "TAB" (.int 9) := ⟨_, PySem.W.mg_of X G g_TAB, _, rfl⟩
  have c_LINE_FEED : IsC mg "LINE_FEED" (.int 10) := ⟨_, PySem.W.mg_of X G g_LINE_FEED, _, rfl⟩
  have c_CARRIAGE_RETURN : IsC mg "CARRIAGE_RETURN" (.int 13) := ⟨_, PySem.W.mg_of X G g_CARRIAGE_RETURN, _, rfl⟩
  have c_LONGEST_SLUG : IsC mg "LONGEST_SLUG" (.int 30) := ⟨_, PySem.W.mg_of X G g_LONGEST_SLUG, _, rfl⟩
  have n_enumerate : mg "enumerate" = none := PySem.W.mg_none_of X G z_enumerate
  have n_len : mg "len" = none := PySem.W.mg_none_of X G z_len
  have n_ord : mg "ord" = none := PySem.W.mg_none_of X G z_ord
  have n_tuple : mg "tuple" = none := PySem.W.mg_none_of X G z_tuple
  have at_Refusal : mg "Refusal" = some (.ref C_Refusal) := PySem.W.mg_of X G g_Refusal
  have ec_Refusal : ErrC K C_Refusal := ⟨⟨_, _, _, _, _, _, _, _, _, _, _, _, _, _, _, lx_Refusal, bm_Refusal⟩, sa_Refusal, be_Refusal, ty_Refusal, kp_Refusal⟩
  have tx_Refusal : XfC K C_Refusal := ⟨ga_Refusal, gg_Refusal, be_Refusal, hd_Refusal⟩
  have te_Refusal_Refusal : PySem.W.exmOne K (.ref C_Refusal) (.ref C_Refusal) = some true := exm_sub be_Refusal ic_Refusal ty_Refusal su_Refusal_Refusal
  have B_Refusal_init : DnB K mg "Refusal" "Refusal.__init__" s_Refusal_init ["self", "code"] := ⟨C_Refusal, f_Refusal_init, _, ⟨at_Refusal, sp_Refusal, rd_Refusal, fc_Refusal, k_Refusal_init⟩, (fun_mk l_Refusal_init c_Refusal_init k_Refusal_init), ((fun_mk l_Refusal_init c_Refusal_init k_Refusal_init).binds fun _ _ _ _ _ _ us hl => match us, hl with | [_, _], _ => rfl)⟩
  have at_EncodingError : mg "EncodingError" = some (.ref C_EncodingError) := PySem.W.mg_of X G g_EncodingError
  have ec_EncodingError : ErrC K C_EncodingError := ⟨⟨_, _, _, _, _, _, _, _, _, _, _, _, _, _, _, lx_EncodingError, bm_EncodingError⟩, sa_EncodingError, be_EncodingError, ty_EncodingError, kp_EncodingError⟩
  have tx_EncodingError : XfC K C_EncodingError := ⟨ga_EncodingError, gg_EncodingError, be_EncodingError, hd_EncodingError⟩
  have te_EncodingError_EncodingError : PySem.W.exmOne K (.ref C_EncodingError) (.ref C_EncodingError) = some true := exm_sub be_EncodingError ic_EncodingError ty_EncodingError su_EncodingError_EncodingError
  have te_EncodingError_Refusal : PySem.W.exmOne K (.ref C_EncodingError) (.ref C_Refusal) = some true := exm_sub be_Refusal ic_Refusal ty_Refusal su_EncodingError_Refusal
  have X_EncodingError_init : DnX K mg "EncodingError" "EncodingError.__init__" C_EncodingError s_EncodingError_init ["self"] := ⟨ec_EncodingError, at_EncodingError, f_EncodingError_init, _, fi_EncodingError_init, ti_EncodingError_init, (fun_mk l_EncodingError_init c_EncodingError_init k_EncodingError_init), ((fun_mk l_EncodingError_init c_EncodingError_init k_EncodingError_init).binds fun _ _ _ _ _ _ us hl => match us, hl with | [_], _ => rfl)⟩
  have mem_answer_text : (pp_answer_text, ("answer_text.<locals>.<lambda>" : Str)) ∈ ([(pp_answer_text, ("answer_text.<locals>.<lambda>" : Str)), (pp_slug, ("slug.<locals>.<lambda>" : Str))] : List (Addr × Str)) := by simp
  have one_answer_text : ∀ p ∈ ([(pp_answer_text, ("answer_text.<locals>.<lambda>" : Str)), (pp_slug, ("slug.<locals>.<lambda>" : Str))] : List (Addr × Str)), p.1 = pp_answer_text → p.2 = "answer_text.<locals>.<lambda>" := fun p hp e => by
    simp only [List.mem_cons, List.not_mem_nil, or_false] at hp
    rcases hp with rfl | rfl <;> first | rfl | exact absurd e ne_slug_answer_text
  have mem_slug : (pp_slug, ("slug.<locals>.<lambda>" : Str)) ∈ ([(pp_answer_text, ("answer_text.<locals>.<lambda>" : Str)), (pp_slug, ("slug.<locals>.<lambda>" : Str))] : List (Addr × Str)) := by simp
  have one_slug : ∀ p ∈ ([(pp_answer_text, ("answer_text.<locals>.<lambda>" : Str)), (pp_slug, ("slug.<locals>.<lambda>" : Str))] : List (Addr × Str)), p.1 = pp_slug → p.2 = "slug.<locals>.<lambda>" := fun p hp e => by
    simp only [List.mem_cons, List.not_mem_nil, or_false] at hp
    rcases hp with rfl | rfl <;> first | rfl | exact absurd e ne_answer_text_slug
  have go : ∀ base : Heap, (∀ p ∈ ([(cc_answer_text, pp_answer_text), (cc_slug, pp_slug)] : List (Addr × Addr)), TabB base mg p.1 p.2) → FnOk P w K mg base CX0 11 f_slug _ ["text"] ((fun K T => spSlug K T) K [(pp_answer_text, ("answer_text.<locals>.<lambda>" : Str)), (pp_slug, ("slug.<locals>.<lambda>" : Str))]) := fun base tabs => by
    have tb_answer_text : TabB base mg cc_answer_text pp_answer_text := tabs (cc_answer_text, pp_answer_text) (by simp)
    have tb_slug : TabB base mg cc_slug pp_slug := tabs (cc_slug, pp_slug) (by simp)
    have o_is_space := ok_is_space (P := P) (w := w) (mg := mg) (base := base)  (D := D_is_space) (c_SPACE := c_SPACE) (c_TAB := c_TAB) (c_LINE_FEED := c_LINE_FEED) (c_CARRIAGE_RETURN := c_CARRIAGE_RETURN)
    have o_is_lowercase := ok_is_lowercase (P := P) (w := w) (mg := mg) (base := base)  (D := D_is_lowercase) (n_ord := n_ord)
    have o_is_uppercase := ok_is_uppercase (P := P) (w := w) (mg := mg) (base := base)  (D := D_is_uppercase) (n_ord := n_ord)
    have o_is_digit := ok_is_digit (P := P) (w := w) (mg := mg) (base := base)  (D := D_is_digit) (n_ord := n_ord)
    have o_is_continuation := ok_is_continuation (P := P) (w := w) (mg := mg) (base := base)  (D := D_is_continuation)
    have o_is_letter_or_digit := ok_is_letter_or_digit (P := P) (w := w) (mg := mg) (base := base)  (D := D_is_letter_or_digit) (o_is_lowercase := o_is_lowercase) (o_is_uppercase := o_is_uppercase) (o_is_digit := o_is_digit)
    have o_announced_length := ok_announced_length (P := P) (w := w) (mg := mg) (base := base)  (D := D_announced_length)
    have o_second_byte_fits := ok_second_byte_fits (P := P) (w := w) (mg := mg) (base := base)  (D := D_second_byte_fits)
    have o_sequence_length := ok_sequence_length (P := P) (w := w) (mg := mg) (base := base)  (D := D_sequence_length) (n_len := n_len) (o_announced_length := o_announced_length) (o_is_continuation := o_is_continuation) (o_second_byte_fits := o_second_byte_fits)
    have o_is_utf8 := ok_is_utf8 (P := P) (w := w) (mg := mg) (base := base)  (D := D_is_utf8) (n_len := n_len) (o_sequence_length := o_sequence_length)
    have o_pieces := ok_pieces (P := P) (w := w) (mg := mg) (base := base)  (D := D_pieces) (o_is_space := o_is_space)
    have o_joined := ok_joined (P := P) (w := w) (mg := mg) (base := base)  (D := D_joined) (n_enumerate := n_enumerate)
    have o_ascii_bytes := ok_ascii_bytes (P := P) (w := w) (mg := mg) (base := base)  (D := D_ascii_bytes) (n_ord := n_ord)
    have o_words := ok_words (P := P) (w := w) (mg := mg) (base := base)  (D := D_words) (o_is_space := o_is_space) (o_pieces := o_pieces)
    have o_lower_byte := ok_lower_byte (P := P) (w := w) (mg := mg) (base := base)  (D := D_lower_byte) (n_ord := n_ord) (o_is_uppercase := o_is_uppercase)
    have o_slug_word := ok_slug_word (P := P) (w := w) (mg := mg) (base := base)  (D := D_slug_word) (o_is_letter_or_digit := o_is_letter_or_digit) (o_lower_byte := o_lower_byte)
    have o_with_length := ok_with_length (P := P) (w := w) (mg := mg) (base := base)  (D := D_with_length) (n_len := n_len)
    have b_Refusal := ok_Refusal_init (P := P) (w := w) (mg := mg) (base := base)  (D := B_Refusal_init)
    have o_answer := ok_answer (P := P) (w := w) (mg := mg) (base := base)  (T := [(pp_answer_text, ("answer_text.<locals>.<lambda>" : Str)), (pp_slug, ("slug.<locals>.<lambda>" : Str))]) (CF := C_Refusal) (D := D_answer) (at_Refusal := at_Refusal)
    have o_answer_text := ok_answer_text (P := P) (w := w) (mg := mg) (base := base)  (T := [(pp_answer_text, ("answer_text.<locals>.<lambda>" : Str)), (pp_slug, ("slug.<locals>.<lambda>" : Str))]) (CF := C_Refusal) (D := DC_answer_text) (tb_answer_text := tb_answer_text) (mem := mem_answer_text) (one := one_answer_text) (o_answer := o_answer) (o_with_length := o_with_length)
    have x_EncodingError := ok_EncodingError_init (P := P) (w := w) (mg := mg) (base := base)  (D := X_EncodingError_init) (b_Refusal := b_Refusal) (nc := nf_EncodingError_code)
    have o_read_text := ok_read_text (P := P) (w := w) (mg := mg) (base := base)  (D := D_read_text) (n_tuple := n_tuple) (o_is_utf8 := o_is_utf8) (x_EncodingError := x_EncodingError)
    have o_slug_of := ok_slug_of (P := P) (w := w) (mg := mg) (base := base)  (D := D_slug_of) (n_ord := n_ord) (c_SPACE := c_SPACE) (c_LONGEST_SLUG := c_LONGEST_SLUG) (o_words := o_words) (o_slug_word := o_slug_word) (o_joined := o_joined) (o_ascii_bytes := o_ascii_bytes)
    exact fn_slug (CF := C_Refusal) (CE := C_EncodingError) (cs := cc_slug) (Ps := pp_slug) l_slug c_slug tb_slug mem_slug one_slug o_answer_text o_read_text o_slug_of te_EncodingError_Refusal tx_EncodingError nf_EncodingError_code
  cases hfa.symm.trans (PySem.W.mg_of X G a_slug)
  refine fin _ [(cc_answer_text, pp_answer_text), (cc_slug, pp_slug)] [(pp_answer_text, ("answer_text.<locals>.<lambda>" : Str)), (pp_slug, ("slug.<locals>.<lambda>" : Str))] (fun p hp => ?_) (fun p hp => ?_) (fun s us hu => match us, hu with | [_], _ => .of_eq rfl) (fun base _ _ => go base) (fun H hH p hp => ?_)
  · simp only [List.mem_cons, List.not_mem_nil, or_false] at hp
    rcases hp with rfl | rfl
    · exact ta_answer_text
    · exact ta_slug
  · simp only [List.mem_cons, List.not_mem_nil, or_false] at hp
    rcases hp with rfl | rfl
    · exact nk_answer_text
    · exact nk_slug
  · simp only [List.mem_cons, List.not_mem_nil, or_false] at hp
    rcases hp with rfl | rfl
    · exact TabS.nil (hH (cc_answer_text, pp_answer_text) (by simp))
    · exact TabS.nil (hH (cc_slug, pp_slug) (by simp))
end Bt

namespace Bt
open PySem PySem.Spec PyProof.Rows L2 LamX
open PySem.W (Codec OpenSpec)

theorem said (K : PySem.W.Frag) (T : List (Addr × Str)) : ∀ (H : Hp) (xs : List V) (a : Codec.denoteAll PySem.Challenge.rw_blocktrees_s08_slug.args), Tabs T H → Codec.withinAll PySem.Challenge.rw_blocktrees_s08_slug.args a = true → Codec.app PySem.Challenge.rw_blocktrees_s08_slug.args PySem.Challenge.rw_blocktrees_s08_slug.asked a = true → DwAll K H xs (Codec.encAll PySem.Challenge.rw_blocktrees_s08_slug.args a) →
    ((fun K T => spSlug K T) K T) xs H (fun v H' => Dw K H' v (PySem.Challenge.rw_blocktrees_s08_slug.ret.enc (Codec.app PySem.Challenge.rw_blocktrees_s08_slug.args PySem.Challenge.rw_blocktrees_s08_slug.f a))) fun _ _ _ => False := by
    intro H xs a hT hwi hask hx
    cases hx with
    | cons h1 h2 =>
      cases h2
      cases h1 with
      | lst hs ha =>
        have e := L2.ints_dw a.1 _ ha
        subst e
        have q : ((Codec.inLen 0 600 a.1 && a.1.all (Codec.inInt 0 255)) && true) = true := hwi
        rw [Bool.and_eq_true, Bool.and_eq_true] at q
        have hle := (Codec.inNat_iff.mp q.1.1).2
        have hb : ∀ x ∈ a.1, 0 ≤ x ∧ x ≤ 255 := fun x hx => by
          have := List.all_eq_true.mp q.1.2 x hx
          simpa [Codec.inInt] using this
        refine ⟨_, a.1.map Int.toNat, rfl, ⟨_, rfl, ?_⟩, hT, by rw [List.length_map]; omega, fun p H' hp => ?_⟩
        · rw [Bt.nV_toNat hb]; exact hs
        · rw [Bt.slug_is a.1 hb] at hp
          exact .lst (L2.SqL.of hp) (L2.dw_ints _)
end Bt

open PySem PySem.W PyProof.Rows
set_option maxRecDepth 100000 in
set_option maxHeartbeats 16000000 in
theorem PySem.Challenge.cw_blocktrees_s08_slug_holds : PySem.Challenge.rw_blocktrees_s08_slug.Holds := by
  w_on; k_headS; (case hw => exact ⟨[.list []], by decide +kernel, by decide +kernel⟩)
  k_fillS
  refine Bt.walk_tabs (r := PySem.Challenge.rw_blocktrees_s08_slug) (k := 11) (ps := ["text"]) (by decide +kernel) rfl rfl ⟨rfl, by decide, by decide⟩ (fun w h Y => PySem.W.kIn_of Y) ?F
  case F =>
    intro w mean mg mb fa h Y KX top hmg
    refine' Bt.all_mk KX top hmg (by decide +kernel) (by decide +kernel) (fun fd cs T h1 h2 h3 h4 h5 => ⟨fd, cs, _, h1, h2, h3, h4, fun H xs a hT hw ha hd => Bt.said _ T H xs a (h5 H hT) hw ha hd⟩) ?a_ascii_bytes ?l_ascii_bytes ?c_ascii_bytes ?k_ascii_bytes ?a_is_space ?l_is_space ?c_is_space ?k_is_space ?a_is_lowercase ?l_is_lowercase ?c_is_lowercase ?k_is_lowercase ?a_is_uppercase ?l_is_uppercase ?c_is_uppercase ?k_is_uppercase ?a_is_digit ?l_is_digit ?c_is_digit ?k_is_digit ?a_is_letter_or_digit ?l_is_letter_or_digit ?c_is_letter_or_digit ?k_is_letter_or_digit ?a_is_continuation ?l_is_continuation ?c_is_continuation ?k_is_continuation ?a_announced_length ?l_announced_length ?c_announced_length ?k_announced_length ?a_second_byte_fits ?l_second_byte_fits ?c_second_byte_fits ?k_second_byte_fits ?a_sequence_length ?l_sequence_length ?c_sequence_length ?k_sequence_length ?a_is_utf8 ?l_is_utf8 ?c_is_utf8 ?k_is_utf8 ?a_pieces ?l_pieces ?c_pieces ?k_pieces ?a_words ?l_words ?c_words ?k_words ?a_joined ?l_joined ?c_joined ?k_joined ?a_read_text ?l_read_text ?c_read_text ?k_read_text ?a_slug_of ?l_slug_of ?c_slug_of ?k_slug_of ?a_slug_word ?l_slug_word ?c_slug_word ?k_slug_word ?a_lower_byte ?l_lower_byte ?c_lower_byte ?k_lower_byte ?a_answer ?l_answer ?c_answer ?k_answer ?a_answer_text ?l_answer_text ?c_answer_text ?k_answer_text ?lc_answer_text ?vv_answer_text ?nk_answer_text ?a_with_length ?l_with_length ?c_with_length ?k_with_length ?a_slug ?l_slug ?c_slug ?k_slug ?lc_slug ?vv_slug ?nk_slug ?g_SPACE ?g_TAB ?g_LINE_FEED ?g_CARRIAGE_RETURN ?g_LONGEST_SLUG ?z_enumerate ?z_len ?z_ord ?z_tuple ?g_Refusal ?lx_Refusal ?bm_Refusal ?sa_Refusal ?be_Refusal ?ty_Refusal ?kp_Refusal ?ga_Refusal ?gg_Refusal ?hd_Refusal ?ic_Refusal ?nf_Refusal_code ?nf_Refusal_kind ?nf_Refusal_position ?su_Refusal_Refusal ?fi_Refusal_init ?l_Refusal_init ?c_Refusal_init ?k_Refusal_init ?ti_Refusal_init ?sp_Refusal ?rd_Refusal ?fc_Refusal ?g_EncodingError ?lx_EncodingError ?bm_EncodingError ?sa_EncodingError ?be_EncodingError ?ty_EncodingError ?kp_EncodingError ?ga_EncodingError ?gg_EncodingError ?hd_EncodingError ?ic_EncodingError ?nf_EncodingError_code ?nf_EncodingError_kind ?nf_EncodingError_position ?su_EncodingError_EncodingError ?su_EncodingError_Refusal ?fi_EncodingError_init ?l_EncodingError_init ?c_EncodingError_init ?k_EncodingError_init ?ti_EncodingError_init ?ne_answer_text_slug ?ne_slug_answer_text
    (case a_ascii_bytes => k_is)
    (case l_ascii_bytes => k_is)
    (case c_ascii_bytes => k_is)
    (case k_ascii_bytes => k_is)
    (case a_is_space => k_is)
    (case l_is_space => k_is)
    (case c_is_space => k_is)
    (case k_is_space => k_is)
    (case a_is_lowercase => k_is)
    (case l_is_lowercase => k_is)
    (case c_is_lowercase => k_is)
    (case k_is_lowercase => k_is)
    (case a_is_uppercase => k_is)
    (case l_is_uppercase => k_is)
    (case c_is_uppercase => k_is)
    (case k_is_uppercase => k_is)
    (case a_is_digit => k_is)
    (case l_is_digit => k_is)
    (case c_is_digit => k_is)
    (case k_is_digit => k_is)
    (case a_is_letter_or_digit => k_is)
    (case l_is_letter_or_digit => k_is)
    (case c_is_letter_or_digit => k_is)
    (case k_is_letter_or_digit => k_is)
    (case a_is_continuation => k_is)
    (case l_is_continuation => k_is)
    (case c_is_continuation => k_is)
    (case k_is_continuation => k_is)
    (case a_announced_length => k_is)
    (case l_announced_length => k_is)
    (case c_announced_length => k_is)
    (case k_announced_length => k_is)
    (case a_second_byte_fits => k_is)
    (case l_second_byte_fits => k_is)
    (case c_second_byte_fits => k_is)
    (case k_second_byte_fits => k_is)
    (case a_sequence_length => k_is)
    (case l_sequence_length => k_is)
    (case c_sequence_length => k_is)
    (case k_sequence_length => k_is)
    (case a_is_utf8 => k_is)
    (case l_is_utf8 => k_is)
    (case c_is_utf8 => k_is)
    (case k_is_utf8 => k_is)
    (case a_pieces => k_is)
    (case l_pieces => k_is)
    (case c_pieces => k_is)
    (case k_pieces => k_is)
    (case a_words => k_is)
    (case l_words => k_is)
    (case c_words => k_is)
    (case k_words => k_is)
    (case a_joined => k_is)
    (case l_joined => k_is)
    (case c_joined => k_is)
    (case k_joined => k_is)
    (case a_read_text => k_is)
    (case l_read_text => k_is)
    (case c_read_text => k_is)
    (case k_read_text => k_is)
    (case a_slug_of => k_is)
    (case l_slug_of => k_is)
    (case c_slug_of => k_is)
    (case k_slug_of => k_is)
    (case a_slug_word => k_is)
    (case l_slug_word => k_is)
    (case c_slug_word => k_is)
    (case k_slug_word => k_is)
    (case a_lower_byte => k_is)
    (case l_lower_byte => k_is)
    (case c_lower_byte => k_is)
    (case k_lower_byte => k_is)
    (case a_answer => k_is)
    (case l_answer => k_is)
    (case c_answer => k_is)
    (case k_answer => k_is)
    (case a_answer_text => k_is)
    (case l_answer_text => k_is)
    (case c_answer_text => k_is)
    (case k_answer_text => k_is)
    (case lc_answer_text => k_is)
    (case vv_answer_text => rfl)
    (case nk_answer_text => rfl)
    (case a_with_length => k_is)
    (case l_with_length => k_is)
    (case c_with_length => k_is)
    (case k_with_length => k_is)
    (case a_slug => k_is)
    (case l_slug => k_is)
    (case c_slug => k_is)
    (case k_slug => k_is)
    (case lc_slug => k_is)
    (case vv_slug => rfl)
    (case nk_slug => rfl)
    (case g_SPACE => k_is)
    (case g_TAB => k_is)
    (case g_LINE_FEED => k_is)
    (case g_CARRIAGE_RETURN => k_is)
    (case g_LONGEST_SLUG => k_is)
    (case z_enumerate => k_is)
    (case z_len => k_is)
    (case z_ord => k_is)
    (case z_tuple => k_is)
    (case g_Refusal => k_is)
    (case lx_Refusal => k_is)
    (case bm_Refusal => rfl)
    (case sa_Refusal => k_is)
    (case be_Refusal => k_is)
    (case ty_Refusal => k_is)
    (case kp_Refusal => k_is)
    (case ga_Refusal => k_is)
    (case gg_Refusal => k_is)
    (case hd_Refusal => k_is)
    (case ic_Refusal => k_is)
    (case nf_Refusal_code => k_is)
    (case nf_Refusal_kind => k_is)
    (case nf_Refusal_position => k_is)
    (case su_Refusal_Refusal => k_is)
    (case fi_Refusal_init => k_is)
    (case l_Refusal_init => k_is)
    (case c_Refusal_init => k_is)
    (case k_Refusal_init => k_is)
    (case ti_Refusal_init => k_is)
    (case sp_Refusal => k_is)
    (case rd_Refusal => k_is)
    (case fc_Refusal => k_is)
    (case g_EncodingError => k_is)
    (case lx_EncodingError => k_is)
    (case bm_EncodingError => rfl)
    (case sa_EncodingError => k_is)
    (case be_EncodingError => k_is)
    (case ty_EncodingError => k_is)
    (case kp_EncodingError => k_is)
    (case ga_EncodingError => k_is)
    (case gg_EncodingError => k_is)
    (case hd_EncodingError => k_is)
    (case ic_EncodingError => k_is)
    (case nf_EncodingError_code => k_is)
    (case nf_EncodingError_kind => k_is)
    (case nf_EncodingError_position => k_is)
    (case su_EncodingError_EncodingError => k_is)
    (case su_EncodingError_Refusal => k_is)
    (case fi_EncodingError_init => k_is)
    (case l_EncodingError_init => k_is)
    (case c_EncodingError_init => k_is)
    (case k_EncodingError_init => k_is)
    (case ti_EncodingError_init => k_is)
    (case ne_answer_text_slug => decide)
    (case ne_slug_answer_text => decide)
#print axioms PySem.Challenge.cw_blocktrees_s08_slug_holds

