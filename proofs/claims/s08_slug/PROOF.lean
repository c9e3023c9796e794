import PyProof.Rows.All
import Wide.All
import OpenK.AllK
import Wide.FinOn
import Open.SpecLaws
import KE.OsGo
import HandS.ForSpec
import HandS.ForMost
import PyProof.AutoSeq1
import PySem.Challenge.RW_blocktrees_s08_slug
set_option Elab.async false
set_option maxRecDepth 100000
set_option maxHeartbeats 2000000
set_option linter.all false
namespace Bt
open PySem PySem.Spec PyProof.Rows L2
/-! own words over the layer -/
structure OwnOk (P : Program) (w : World) (K : PySem.W.Frag) (mg : Str → Option Value) (base : Heap) (CX : CXT) (k : Nat) (x : Str) (ps : List Str) (sp : Sp) : Prop where
  ex : ∃ f fd, mg x = some (.ref f) ∧ PySem.W.keepIn K (.ref f) = true ∧ Binds K fd ps [] ∧ FnOk P w K mg base CX k f fd ps sp
theorem pe_own {X : Cx} {CX : CXT} {k : Nat} {x : Str} {ps : List Str} {sp : Sp} {E : XK} {p pos : Pos} {e : Expr} {es : List Expr} {t : TA} (O : OwnOk X.prog X.w X.K X.mg X.base CX k x ps sp) (hr : Room k X.A) (hg : Gl X x) (hx : Passes CX X E) (ha : PA X (e :: es) t)
    (hdb : (x == ("__debug__" : Str)) = false := by decide) (he : starEach (e :: es) X.env = (false, eval e X.env) :: starEach es X.env := by rfl) (hpl : (backTo pos (starEach es X.env)).any (·.1) = false := by rfl) : PE X (.Call (.Name x p) (e :: es) [] pos) (tCall sp [] E t) := by
  obtain ⟨f, fd, hm, hk, hb, F⟩ := O.ex
  exact pe_call F hr hg hm hk hb .nil hx ha hdb he hpl
/-- a def of the text at its place -/
structure Dn (K : PySem.W.Frag) (mg : Str → Option Value) (x : Str) (st : Stmt) (ps : List Str) : Prop where
  ex : ∃ f fd, mg x = some (.ref f) ∧ Fun K x x st f fd ∧ Binds K fd ps []
section
variable {P : Program} {w : World} {K : PySem.W.Frag} {mg : Str → Option Value} {base : Heap}
theorem own_ok {x : Str} {st : Stmt} {N ps : List Str} {k : Nat} {sp : Sp} (D : Dn K mg x st ps) (S : FnScope N ps (defScope st)) (len : ∀ vs H Q E, sp vs H Q E → vs.length = ps.length)
    (hbody : ∀ (f : Addr) (cdv : Value) (A : Around) (outer : List Env) (s : Shared) (H : Hp) (vs : List V) (Q : VK) (E : XK), Room k (A.deeper (envOfC x (defScope st) s.heap.objs.size f cdv)) → sp vs H Q E →
      ∃ t, PSs (cxOf CX0 P w K mg base N x (defScope st) f cdv A outer s H E).nox (defBody st) t ∧ t { nx := fun _ H' => Q .non H', rt := Q } (start N vs) H) : OwnOk P w K mg base CX0 (k + 1) x ps sp := by
  obtain ⟨f, fd, hm, F, hb⟩ := D.ex
  exact ⟨f, fd, hm, F.kp, hb, F.ok S len (hbody f)⟩
theorem own_fn {x : Str} {st : Stmt} {N ps : List Str} {k : Nat} {sp : Sp} {f : Addr} {fd : FuncData} (F : Fun K x x st f fd) (S : FnScope N ps (defScope st)) (len : ∀ vs H Q E, sp vs H Q E → vs.length = ps.length)
    (hbody : ∀ (f : Addr) (cdv : Value) (A : Around) (outer : List Env) (s : Shared) (H : Hp) (vs : List V) (Q : VK) (E : XK), Room k (A.deeper (envOfC x (defScope st) s.heap.objs.size f cdv)) → sp vs H Q E →
      ∃ t, PSs (cxOf CX0 P w K mg base N x (defScope st) f cdv A outer s H E).nox (defBody st) t ∧ t { nx := fun _ H' => Q .non H', rt := Q } (start N vs) H) : FnOk P w K mg base CX0 (k + 1) f fd ps sp := F.ok S len (hbody f)
theorem dn_mk {h : Heap} (X : K.In h) (G : h.Ns mainGlobals mg) {x : Str} {st : Stmt} {ps : List Str} {f : Addr} {oc : Value} {od an : Option Addr} {osl : Array (Option Value)} {kV doc pm cdv ct : Value}
    (a : PySem.W.nsIn K mainGlobals x = some (some (.ref f))) (l : K.lookup f = some ⟨oc, od, .func (PySem.W.fnOf x x (defArgs st) (defBody st) (defScope st) .none kV doc pm an cdv ct), osl⟩)
    (c : PySem.W.codeIn K cdv x = true) (k : PySem.W.keepIn K (.ref f) = true)
    (b : ∀ (kV doc pm : Value) (an : Option Addr) (cdv ct : Value) (us : List Value), us.length = ps.length → bindArgs (PySem.W.fnOf x x (defArgs st) (defBody st) (defScope st) .none kV doc pm an cdv ct) ⟨us, []⟩ = pure (ps.zip us)) : Dn K mg x st ps :=
  ⟨f, _, PySem.W.mg_of X G a, fun_mk l c k, (fun_mk l c k).binds b⟩
end
/-- a constant of the module -/
def IsC (mg : Str → Option Value) (x : Str) (v : V) : Prop := ∃ u, mg x = some u ∧ RelV v u
theorem pe_cst {X : Cx} {x : Str} {v : V} {pos : Pos} (hg : Gl X x) (c : IsC X.mg x v) (hd : (x == ("__debug__" : Str)) = false := by decide) : PE X (.Name x pos) (tC v) := by
  obtain ⟨u, hm, r⟩ := c
  exact pe_glob hg hm r hd
theorem same_new {H : Hp} {p : Addr} {o : HO} (h : H p = none) : Same H (upd H p o) := fun b x e => by
  rw [upd_ne (ne_of_none e h)]
  exact e
/-- lists of small numbers -/
abbrev iV (l : List Int) : List V := l.map V.int
/-! ### promises -/
def sp1B (f : Int → Bool) : Sp := fun vs H Q _ => ∃ i : Int, vs = [.int i] ∧ ∀ H', Same H H' → Q (.bl (f i)) H'
def sp1I (f : Int → Int) : Sp := fun vs H Q _ => ∃ i : Int, vs = [.int i] ∧ ∀ H', Same H H' → Q (.int (f i)) H'
theorem len1B {f : Int → Bool} {vs H Q E} (h : sp1B f vs H Q E) : vs.length = 1 := by
  obtain ⟨i, rfl, _⟩ := h
  rfl
theorem len1I {f : Int → Int} {vs H Q E} (h : sp1I f vs H Q E) : vs.length = 1 := by
  obtain ⟨i, rfl, _⟩ := h
  rfl

theorem pe_imp {X : Cx} {e : Expr} {t t' : TE} (h : PE X e t) (i : ∀ σ H Q, t' σ H Q → t σ H Q) : PE X e t' := ⟨fun pins s σ H Q I q => h.run pins s σ H Q I (i σ H Q q)⟩
theorem pt_imp {X : Cx} {e : Expr} {t t' : TT} (h : PT X e t) (i : ∀ σ H Q, t' σ H Q → t σ H Q) : PT X e t' := ⟨fun pins s σ H Q I q => h.run pins s σ H Q I (i σ H Q q)⟩
/-- ord of a written sign -/
theorem pe_ordL {X : Cx} {x : Str} {j : Nat} {p p' pos : Pos} (n : Nat) (hm : X.mg "ord" = none) (hg : Gl X "ord" := by rfl) (hx : x.length = 1 := by decide +kernel) (hn : x.cps.getD 0 0 = n := by decide +kernel) : PE X (.Call (.Name "ord" p) [.Constant (.str x) j p'] [] pos) (tC (.int (n : Int))) :=
  pe_imp (pe_callB call_ord hg hm (by decide +kernel) (pa_cons pe_str pa_nil)) fun _ _ _ q => ⟨x, rfl, hx, by rw [hn]; exact q⟩
/-- a ≤ x ≤ b, a and b written -/
def tRng (a b : Int) (t : TE) : TE := fun σ H Q => t σ H fun x H1 => ∃ i, x = .int i ∧ Q (.bl (decide (a ≤ i) && decide (i ≤ b))) H1
theorem pe_rng {X : Cx} {a b : Int} {ea e eb : Expr} {t : TE} {pos : Pos} (ha : PE X ea (tC (.int a))) (he : PE X e t) (hb : PE X eb (tC (.int b))) (hm : lastMarks [.LtE, .LtE] [e, eb] = false := by with_unfolding_all rfl) (mono : ∀ σ H Q Q', (∀ x H', Q x H' → Q' x H') → t σ H Q → t σ H Q') : PE X (.Compare ea [.LtE, .LtE] [e, eb] pos) (tRng a b t) :=
  pe_imp (pe_chain op_le op_le ha he hb hm) fun σ H Q q => mono _ _ _ _ (fun x H' ⟨i, e, q⟩ => by
    subst e
    refine ⟨a, i, rfl, rfl, _, rfl, ?_⟩
    by_cases c : a ≤ i
    · rw [decide_eq_true c] at q ⊢
      rw [if_pos rfl]
      exact ⟨i, b, rfl, rfl, q⟩
    · rw [decide_eq_false c] at q ⊢
      rw [if_neg (by decide)]
      exact q) q
theorem mono_var {i : Nat} : ∀ σ H (Q Q' : VK), (∀ x H', Q x H' → Q' x H') → tVar i σ H Q → tVar i σ H Q' := fun _ _ _ _ k ⟨v, e, q⟩ => ⟨v, e, k _ _ q⟩
theorem pt_rng {X : Cx} {a b : Int} {ea e eb : Expr} {t : TE} {pos : Pos} (ha : PE X ea (tC (.int a))) (he : PE X e t) (hb : PE X eb (tC (.int b))) (hm : lastMarks [.LtE, .LtE] [e, eb] = false := by with_unfolding_all rfl) (mono : ∀ σ H Q Q', (∀ x H', Q x H' → Q' x H') → t σ H Q → t σ H Q') : PT X (.Compare ea [.LtE, .LtE] [e, eb] pos) (tTest (tRng a b t)) :=
  pt_imp (pt_chain op_le op_le ha he hb hm) fun σ H Q q => mono _ _ _ _ (fun x H' ⟨i, e, q⟩ => by
    subst e
    obtain ⟨k, e, q⟩ := q
    cases e
    refine ⟨a, i, rfl, rfl, _, rfl, ?_⟩
    by_cases c : a ≤ i
    · rw [decide_eq_true c] at q ⊢
      rw [if_pos rfl]
      exact ⟨i, b, rfl, rfl, _, rfl, q⟩
    · rw [decide_eq_false c] at q ⊢
      rw [if_neg (by decide)]
      exact ⟨_, rfl, q⟩) q
/-! promises as rewriting -/
theorem sp1B_run {f : Int → Bool} {i : Int} {H : Hp} {Q : VK} {E : XK} : sp1B f [.int i] H Q E ↔ ∀ H', Same H H' → Q (.bl (f i)) H' :=
  ⟨fun ⟨_, e, q⟩ => by cases e; exact q, fun q => ⟨i, rfl, q⟩⟩
theorem sp1I_run {f : Int → Int} {i : Int} {H : Hp} {Q : VK} {E : XK} : sp1I f [.int i] H Q E ↔ ∀ H', Same H H' → Q (.int (f i)) H' :=
  ⟨fun ⟨_, e, q⟩ => by cases e; exact q, fun q => ⟨i, rfl, q⟩⟩

/-- a def of one small number -/
def spN1 (f : Nat → V) : Sp := fun vs H Q _ => ∃ n : Nat, vs = [.int n] ∧ ∀ H', Same H H' → Q (f n) H'
theorem spN1_run {f : Nat → V} {n : Nat} {H : Hp} {Q : VK} {E : XK} : spN1 f [.int n] H Q E ↔ ∀ H', Same H H' → Q (f n) H' :=
  ⟨fun ⟨m, e, q⟩ => by
    have : n = m := by injection e with e _; injection e with e; omega
    subst this; exact q, fun q => ⟨n, rfl, q⟩⟩
theorem spN1_len {f : Nat → V} {vs H Q E} (h : spN1 f vs H Q E) : vs.length = 1 := by
  obtain ⟨i, rfl, _⟩ := h
  rfl
theorem fin_v {Q : VK} {H : Hp} {a b : V} (q : Q b H) (e : b = a) : Q a H := e ▸ q
theorem fin_bl {Q : VK} {H : Hp} {a b : Bool} (e : b = a) (q : Q (.bl b) H) : Q (.bl a) H := e ▸ q
theorem fin_int {Q : VK} {H : Hp} {a b : Int} (e : b = a) (q : Q (.int b) H) : Q (.int a) H := e ▸ q

/-! ### the rules that speak of the written part, K by name -/
section
variable {X : Cx} {K : PySem.W.Frag}
theorem kpi_list (h : X.K = K) {tg l : Expr} {tl : TE} (hl : PE X l tl) : PI X tg l (iList K tl) := h ▸ pi_list hl
theorem kpi_tup (h : X.K = K) {tg l : Expr} {tl : TE} (hl : PE X l tl) : PI X tg l (iTup K tl) := h ▸ pi_tup hl
theorem kix_list (h : X.K = K) : IxR X (rIxL K) := h ▸ ix_list
theorem kix_tup (h : X.K = K) : IxR X (rIxT K) := h ▸ ix_tup
theorem ksl_list (h : X.K = K) : SlR X (rSlL K) := h ▸ sl_list
theorem ksl_tup (h : X.K = K) : SlR X (rSlT K) := h ▸ sl_tup
theorem kop_in (h : X.K = K) : OpR X (compareOp .In) (rIn K false) := h ▸ op_in_seq
theorem kop_notIn (h : X.K = K) : OpR X (compareOp .NotIn) (rIn K true) := h ▸ op_notIn_seq
/-- len of a list or a tuple -/
def rLen (K : PySem.W.Frag) : List V → Hp → VK → Prop := fun xs H Q => ∃ p ys, xs = [.ref p] ∧ (SqL K H p ys ∨ SqT K H p ys) ∧ Q (.int ys.length) H
theorem kcall_len (h : X.K = K) : CallR X (.builtin "len") (rLen K) := h ▸ call_len_seq
def rListOf (K : PySem.W.Frag) : List V → Hp → VK → Prop := fun xs H Q => ∃ p ys, xs = [.ref p] ∧ (SqL K H p ys ∨ SqT K H p ys) ∧ ∀ l, H l = none → Q (.ref l) (upd H l (.lst ys))
theorem kcall_list (h : X.K = K) : CallR X (.type "list") (rListOf K) := h ▸ call_list_of
def rTupOf (K : PySem.W.Frag) : List V → Hp → VK → Prop := fun xs H Q => ∃ p ys, xs = [.ref p] ∧ ((SqL K H p ys ∧ ∀ l, H l = none → Q (.ref l) (upd H l (.tup ys))) ∨ (SqT K H p ys ∧ Q (.ref p) H))
theorem kcall_tuple (h : X.K = K) : CallR X (.type "tuple") (rTupOf K) := h ▸ call_tuple_of
/-- an expression's truth -/
def tTru (K : PySem.W.Frag) (ta : TE) : TT := fun σ H Q => ta σ H fun x H' => ∃ k, TruV K x H' k ∧ Q k H'
theorem kpt_truth (h : X.K = K) {a : Expr} {ta : TE} (ha : PE X a ta) (he : ∀ whole, isTrue a X.env whole = (do let v ← whole; standAt a.pos; holding [v] (truthy v)) := by intro _; rfl) : PT X a (tTru K ta) := h ▸ pt_truth ha he
theorem kpe_fld (h : X.K = K) {e : Expr} {f : Str} {pos : Pos} {ta : TE} (he : PE X e ta) (hb : attributeBase e f X.env (eval e X.env) = eval e X.env := by rfl) : PE X (.Attribute e f pos) (tFld K ta f) := h ▸ pe_fld he hb
theorem kps_fld (h : X.K = K) {o value : Expr} {f : Str} {pos pos' : Pos} {ta tv : TE} (ha : PE X o ta) (hv : PE X value tv) (hs : swapsWith value (some (.Attribute o f pos')) pos.line X.env = pure false := by rfl) : PS X (.Assign [.Attribute o f pos'] value pos) (sFld K ta tv f) := h ▸ ps_fld ha hv hs
theorem kps_fldaug (h : X.K = K) {o value : Expr} {f : Str} {pos tpos : Pos} {ta tv : TE} {op : Operator} {rd : V → V → Hp → VK → Prop} (ha : PE X o ta) (hv : PE X value tv) (hop : InOp X op rd) : PS X (.AugAssign (.Attribute o f tpos) op value pos) (sFldAug K ta tv rd f) := h ▸ ps_fldaug ha hv hop
theorem kpg_tup (h : X.K = K) {es : List Expr} {k : Nat} {t : TGs} {n : Nat} {pos : Pos} (hc : X.calm = true) (hh : PGs X es t)
    (hn : (assignEach es X.env).length = n := by rfl) (hst : (assignEach es X.env).findIdx? (·.1) = none := by rfl) : PG X (.Tuple es k pos) (gTup K n t) := h ▸ pg_tup hc hh hn hst
theorem kpi_enum (h : X.K = K) {e : Expr} {ta : TA} {p pos tpos : Pos} {elts : List Expr} {kk : Nat} (hg : Gl X "enumerate") (hm : X.mg "enumerate" = none) (ha : PA X [e] ta) (hs : starEach [e] X.env = [(false, eval e X.env)] := by rfl) :
    PI X (.Tuple elts kk tpos) (.Call (.Name "enumerate" p) [e] [] pos) (iEnum K ta) := h ▸ pi_enum hg hm ha hs
theorem kpi_zip (h : X.K = K) {e e2 : Expr} {ta : TA} {p pos tpos : Pos} {elts : List Expr} {kk : Nat} (hg : Gl X "zip") (hm : X.mg "zip" = none) (ha : PA X [e, e2] ta)
    (hs : starEach [e, e2] X.env = (false, eval e X.env) :: starEach [e2] X.env := by rfl) (hpl : (backTo pos (starEach [e2] X.env)).any (·.1) = false := by rfl) :
    PI X (.Tuple elts kk tpos) (.Call (.Name "zip" p) [e, e2] [] pos) (iZip K ta) := h ▸ pi_zip hg hm ha hs hpl
theorem kpi_reversed (h : X.K = K) {tg e : Expr} {ta : TA} {p pos : Pos} (hg : Gl X "reversed") (hm : X.mg "reversed" = none) (ha : PA X [e] ta) (hs : starEach [e] X.env = [(false, eval e X.env)] := by rfl) : PI X tg (.Call (.Name "reversed" p) [e] [] pos) (iRev K ta) := h ▸ pi_reversed hg hm ha hs
theorem kcr_any (h : X.K = K) (hc : X.calm = true) : CallR X (.builtin "any") (rAny K) := h ▸ cr_any hc
theorem kcr_all (h : X.K = K) (hc : X.calm = true) : CallR X (.builtin "all") (rAll K) := h ▸ cr_all hc
theorem kop_catT (h : X.K = K) : OpR X (binaryOp .Add) (rCatT K) := h ▸ op_catT
theorem kop_eqD (h : X.K = K) (hu : X.A.units + 64 < cLine) : OpR X (compareOp .Eq) (rEqD K) := h ▸ op_eqD hu
theorem kop_neD (h : X.K = K) (hu : X.A.units + 64 < cLine) : OpR X (compareOp .NotEq) (rNeD K) := h ▸ op_neD hu
theorem kpe_bm0 (h : X.K = K) {o : Expr} {to : TE} {name : Str} {apos cpos : Pos} {T id : String} {r : V → List V → Hp → VK → Prop} (pa : PlainAttrs T) (slot : Slot T name id) (hty : typeOf (.builtin id) = pure (.type "method_descriptor")) (hm : MtR X id r) (ho : PE X o to)
    (hbase : attributeBase o name X.env (eval o X.env) = eval o X.env := by rfl) (hline : (apos.endLine == cpos.line) = true := by rfl) : PE X (.Call (.Attribute o name apos) [] [] cpos) (tBM0 K T r to) := h ▸ pe_bm0 pa slot hty hm ho hbase hline
theorem kpe_bm (h : X.K = K) {o e : Expr} {es : List Expr} {to : TE} {t : TA} {name : Str} {apos cpos : Pos} {T id : String} {r : V → List V → Hp → VK → Prop} (pa : PlainAttrs T) (slot : Slot T name id) (hty : typeOf (.builtin id) = pure (.type "method_descriptor")) (hm : MtR X id r) (ho : PE X o to) (ha : PA X (e :: es) t)
    (hbase : attributeBase o name X.env (eval o X.env) = eval o X.env := by rfl)
    (hfew : ((backTo cpos (starEach (e :: es) X.env)).all (fun x => !x.1) && (backToKw cpos (keywordEach [] X.env)).all (fun x => x.1.isSome)
      && decide ((e :: es).length + ([] : List Keyword).length + (if ([] : List Keyword).isEmpty then 0 else 1) < 30)) = true := by rfl)
    (hline : (apos.endLine == cpos.line) = true := by rfl) (hs : starEach (e :: es) X.env = (false, eval e X.env) :: starEach es X.env := by rfl) (hplain : (backTo cpos (starEach es X.env)).any (·.1) = false := by rfl) :
    PE X (.Call (.Attribute o name apos) (e :: es) [] cpos) (tBM K T r to t) := h ▸ pe_bm pa slot hty hm ho ha hbase hfew hline hs hplain
end
/-! ### what is published (G, never changed again) within the heap (H) -/
structure Ext (G H G' H' : Hp) : Prop where
  same : Same H H'
  sub : Same G' H'
  up : Same G G'
  fr : ∀ b o, G' b = some o → G b = some o ∨ H b = none
section
variable {G H G' H' G1 H1 G2 H2 : Hp} {p D : Addr} {o u : HO}
theorem Ext.refl (s : Same G H) : Ext G H G H := ⟨Same.refl _, s, Same.refl _, fun _ _ h => .inl h⟩
theorem Ext.trans (a : Ext G H G1 H1) (b : Ext G1 H1 G2 H2) : Ext G H G2 H2 := ⟨a.same.trans b.same, b.sub, a.up.trans b.up, fun c q h => by
  rcases b.fr c q h with h | h
  · exact a.fr c q h
  · exact .inr (a.same.free h)⟩
/-- the heap grew, nothing was published -/
theorem Ext.heap (a : Ext G H G1 H1) (s : Same H1 H2) : Ext G H G1 H2 := ⟨a.same.trans s, a.sub.trans s, a.up, a.fr⟩
theorem Ext.priv (a : Ext G H G1 H1) (h : H1 p = none) : Ext G H G1 (upd H1 p o) := a.heap (same_new h)
theorem Ext.gnone (a : Ext G H G1 H1) (h : H1 p = none) : G1 p = none := a.sub.free h
/-- a new object that stays as it is -/
theorem Ext.made (a : Ext G H G1 H1) (h : H1 p = none) : Ext G H (upd G1 p o) (upd H1 p o) := by
  have hg := a.gnone h
  refine ⟨a.same.trans (same_new h), fun b q e => ?_, a.up.trans (same_new hg), fun b q e => ?_⟩
  · by_cases hb : b = p
    · subst hb; rw [upd_same] at e ⊢; exact e
    · rw [upd_ne hb] at e ⊢; exact a.sub _ _ e
  · by_cases hb : b = p
    · subst hb; exact .inr (a.same.free h)
    · rw [upd_ne hb] at e; exact a.fr _ _ e
/-- an object of one's own, not published, is changed -/
theorem Ext.mut (a : Ext G H G1 H1) (h : H p = none) (g : G1 p = none) : Ext G H G1 (upd H1 p o) := by
  refine ⟨fun b q e => ?_, fun b q e => ?_, a.up, a.fr⟩
  · rw [upd_ne (ne_of_none e h)]; exact a.same _ _ e
  · rw [upd_ne (ne_of_none e g)]; exact a.sub _ _ e
/-- .. is published -/
theorem Ext.pub (a : Ext G H G1 H1) (h : H p = none) (e : H1 p = some o) : Ext G H (upd G1 p o) H1 := by
  have hup : Same G1 (upd G1 p o) := fun b q g => by
    by_cases hb : b = p
    · subst hb; rw [a.sub _ _ g] at e; cases e; exact upd_same
    · rw [upd_ne hb]; exact g
  refine ⟨a.same, fun b q g => ?_, a.up.trans hup, fun b q g => ?_⟩
  · by_cases hb : b = p
    · subst hb; rw [upd_same] at g; cases g; exact e
    · rw [upd_ne hb] at g; exact a.sub _ _ g
  · by_cases hb : b = p
    · subst hb; exact .inr h
    · rw [upd_ne hb] at g; exact a.fr _ _ g
theorem Ext.stay (a : Ext G H G1 H1) (g : G p = Option.none) (h : H p = some o) : G1 p = Option.none := by
  cases q : G1 p with
  | none => rfl
  | some u =>
    rcases a.fr p u q with z | z
    · rw [g] at z; cases z
    · rw [h] at z; cases z
end
/-! ### promises -/
/-- arguments that stand for x; an answer that stands for x's, published; all that was there stays -/
def spG {α : Type} (Pre : α → List V → Hp → Prop) (Post : α → V → Hp → Prop) : Sp := fun vs H Q _ => ∃ G x, Same G H ∧ Pre x vs G ∧ ∀ v G' H', Ext G H G' H' → Post x v G' → Q v H'
/-! lists of numbers and of lists -/
abbrev nV (l : List Nat) : List V := l.map fun n : Nat => V.int (n : Int)
theorem nV_get {l : List Nat} {i : Nat} {x : V} (h : (nV l)[i]? = some x) : ∃ n : Nat, l[i]? = some n ∧ x = .int (n : Int) := by
  rw [List.getElem?_map] at h
  cases e : l[i]? with
  | none => rw [e] at h; cases h
  | some n => rw [e] at h; cases h; exact ⟨n, rfl, rfl⟩
theorem nV_at {l : List Nat} {i : Nat} {n : Nat} (h : l[i]? = some n) : (nV l)[i]? = some (.int (n : Int)) := by rw [List.getElem?_map, h]; rfl
/-- a list that the program made -/
def Ls (l : List Nat) (v : V) (H : Hp) : Prop := ∃ a, v = .ref a ∧ H a = some (.lst (nV l))
/-- one that may be read -/
def Lr (K : PySem.W.Frag) (l : List Nat) (v : V) (H : Hp) : Prop := ∃ a, v = .ref a ∧ SqL K H a (nV l)
theorem Ls.same {l v H H'} (s : Same H H') (h : Ls l v H) : Ls l v H' := let ⟨a, e, q⟩ := h; ⟨a, e, s _ _ q⟩
theorem Lr.same {K l v H H'} (s : Same H H') (h : Lr K l v H) : Lr K l v H' := let ⟨a, e, q⟩ := h; ⟨a, e, s.seq q⟩
theorem Ls.r {K l v H} (h : Ls l v H) : Lr K l v H := let ⟨a, e, q⟩ := h; ⟨a, e, SqL.of q⟩
def Lss (ls : List (List Nat)) (v : V) (H : Hp) : Prop := ∃ a vs, v = .ref a ∧ H a = some (.lst vs) ∧ Paired (fun l v => Ls l v H) ls vs
theorem paired_same {α : Type} {R : α → V → Hp → Prop} (st : ∀ a v H H', Same H H' → R a v H → R a v H') {H H' : Hp} (s : Same H H') {ls : List α} {vs : List V} (h : Paired (fun l v => R l v H) ls vs) : Paired (fun l v => R l v H') ls vs :=
  Paired.mapP h fun a v q => st a v H H' s q
theorem Lss.same {ls v H H'} (s : Same H H') (h : Lss ls v H) : Lss ls v H' := let ⟨a, vs, e, q, r⟩ := h; ⟨a, vs, e, s _ _ q, paired_same (fun _ _ _ _ s q => q.same s) s r⟩
theorem Paired.at {α β : Type} {F : α → β → Prop} : ∀ {l : List α} {m : List β} {i : Nat} {y : β}, Paired F l m → m[i]? = some y → ∃ x, l[i]? = some x ∧ F x y
  | _, _, _, _, .nil, e => by simp at e
  | _, _, 0, _, .cons r _, e => by simp at e; subst e; exact ⟨_, rfl, r⟩
  | _, _, i + 1, y, .cons _ t, e => by
    obtain ⟨u, h1, h2⟩ := Paired.at (i := i) (y := y) t (by simpa using e)
    exact ⟨u, by simpa using h1, h2⟩
theorem Paired.atl {α β : Type} {F : α → β → Prop} : ∀ {l : List α} {m : List β} {i : Nat} {x : α}, Paired F l m → l[i]? = some x → ∃ y, m[i]? = some y ∧ F x y
  | _, _, _, _, .nil, e => by simp at e
  | _, _, 0, _, .cons r _, e => by simp at e; subst e; exact ⟨_, rfl, r⟩
  | _, _, i + 1, y, .cons _ t, e => by
    obtain ⟨u, h1, h2⟩ := Paired.atl (i := i) (x := y) t (by simpa using e)
    exact ⟨u, by simpa using h1, h2⟩
/-- a number, as an item -/
def Nm (n : Nat) (v : V) (_H : Hp) : Prop := v = .int (n : Int)
theorem Nm.same (n : Nat) (v : V) (H H' : Hp) (_ : Same H H') (h : Nm n v H) : Nm n v H' := h
theorem paired_nV {H : Hp} : ∀ l : List Nat, Paired (fun n v => Nm n v H) l (nV l)
  | [] => .nil
  | n :: r => .cons rfl (paired_nV r)
theorem paired_of_nV {H : Hp} : ∀ {l : List Nat} {vs : List V}, Paired (fun n v => Nm n v H) l vs → vs = nV l
  | _, _, .nil => rfl
  | _, _, .cons e t => by rw [show _ = _ from e, paired_of_nV t]; rfl
theorem take_at {α : Type} : ∀ {l : List α} {i : Nat} {x : α}, l[i]? = some x → l.take (i + 1) = l.take i ++ [x]
  | [], i, x, h => by simp at h
  | a :: l, 0, x, h => by
    have e : a = x := Option.some.inj h
    subst e
    rfl
  | a :: l, i + 1, x, h => by
    have ih := take_at (l := l) (i := i) (x := x) h
    show a :: l.take (i + 1) = a :: l.take i ++ [x]
    rw [ih]
    rfl
/-- [elt for x in xs if t] over what hands out the items xs, which stand for the as -/
theorem lc_gen {α β : Type} {J : It} {as : List α} {xs : List V} {R : α → V → Hp → Prop} {j : Nat} {tt : TT} {te : TE} {ws : List Nat} {σ : L2.St} {G1 H1 : Hp} {D : Addr} {Qd : Hp → Prop} (S : β → V → Hp → Prop) (p : α → Bool) (f : α → β)
    (hgo : ∀ i H, Same H1 H → i < xs.length → J.go i H) (hstop : ∀ H, Same H1 H → J.stop xs.length H) (hyld : ∀ i H x H', Same H1 H → J.yld i H x H' → H' = H ∧ xs[i]? = some x)
    (hG : Same G1 H1) (hR : Paired (fun a v => R a v G1) as xs) (hlen : xs.length < sizeLine) (hD : H1 D = none) (st : ∀ a v H H', Same H H' → R a v H → R a v H') (st2 : ∀ b v H H', Same H H' → S b v H → S b v H')
    (hw : ∀ x, wipe ((wipe σ ws).set j (some x)) ws = wipe σ ws)
    (ht : ∀ a x G H, a ∈ as → Ext G1 H1 G H → R a x G → ∀ Q : Bool → Hp → Prop, (∀ H', Same H H' → Q (p a) H') → tt ((wipe σ ws).set j (some x)) H Q)
    (he : ∀ a x G H, a ∈ as → Ext G1 H1 G H → R a x G → p a = true → ∀ Q : VK, (∀ y G' H', Ext G H G' H' → S (f a) y G' → Q y H') → te ((wipe σ ws).set j (some x)) H Q)
    (hd : ∀ G H ys, Ext G1 H1 G H → H D = some (.lst ys) → G D = none → Paired (fun b v => S b v G) ((as.filter p).map f) ys → Qd H) :
    ∃ W : Nat → Nat → Hp → Prop, (∃ m, W 0 m (upd H1 D (.lst []))) ∧ ∀ i m H, W i m H →
      (J.stop i H ∧ Qd H) ∨ (J.go i H ∧ ∃ Nx : Hp → Prop, (∀ H', Nx H' → ∃ m', m' < m ∧ W (i + 1) m' H') ∧ ∀ x H', J.yld i H x H' → gName j x (wipe σ ws) H' fun σ2 H2 => wipe σ2 ws = wipe σ ws ∧ tt σ2 H2 fun b H3 =>
        if b = true then te σ2 H3 fun y H4 => ∃ acc, H4 D = some (.lst acc) ∧ acc.length < sizeLine ∧ Nx (upd H4 D (.lst (acc ++ [y]))) else Nx H3) := by
  refine ⟨fun i m H => m = xs.length - i ∧ i ≤ xs.length ∧ ∃ G ys, Ext G1 H1 G H ∧ G D = none ∧ H D = some (.lst ys) ∧ ys.length ≤ i ∧ Paired (fun b v => S b v G) (((as.take i).filter p).map f) ys,
    ⟨_, rfl, Nat.zero_le _, G1, [], (Ext.refl hG).priv hD, hG.free hD, upd_same, Nat.le_refl _, .nil⟩, ?_⟩
  rintro i m H ⟨rfl, hi, G, ys, e, gD, hys, hl, hp⟩
  by_cases hlt : i < xs.length
  · refine .inr ⟨hgo i H e.same hlt, fun H => i + 1 ≤ xs.length ∧ ∃ G ys, Ext G1 H1 G H ∧ G D = none ∧ H D = some (.lst ys) ∧ ys.length ≤ i + 1 ∧ Paired (fun b v => S b v G) (((as.take (i + 1)).filter p).map f) ys, fun H' q => ⟨_, by omega, rfl, q⟩, fun x H' y => ?_⟩
    obtain ⟨rfl, hx⟩ := hyld i H x H' e.same y
    obtain ⟨c, hc, hRc⟩ := Paired.at hR hx
    have hcm : c ∈ as := List.mem_of_getElem? hc
    have hRx : R c x G := st _ _ _ _ e.up hRc
    refine ⟨hw x, ht c x G _ hcm e hRx _ fun H3 s3 => ?_⟩
    cases hpc : p c with
    | false =>
      refine iteF ⟨hlt, G, ys, e.heap s3, gD, s3 _ _ hys, by omega, ?_⟩
      rw [take_at hc, List.filter_append, List.filter_cons, hpc]
      simpa using hp
    | true =>
      refine iteT (he c x G H3 hcm (e.heap s3) hRx hpc _ fun y G4 H4 e4 hy => ?_)
      have hy4 : H4 D = some (.lst ys) := e4.same _ _ (s3 _ _ hys)
      have g4 : G4 D = none := e4.stay gD (s3 _ _ hys)
      refine ⟨ys, hy4, by omega, hlt, G4, ys ++ [y], ((e.heap s3).trans e4).mut hD g4, g4, upd_same, by simp; omega, ?_⟩
      rw [take_at hc, List.filter_append, List.filter_cons, hpc]
      have q4 := (paired_same st2 e4.up hp).snoc hy
      simpa using q4
  · have e0 : i = xs.length := by omega
    subst e0
    have e' : as.take xs.length = as := by rw [List.take_of_length_le]; rw [Paired.length hR]; exact Nat.le_refl _
    rw [e'] at hp
    exact .inl ⟨hstop H e.same, hd G H ys e hys gD hp⟩
/-- .. over a list -/
theorem lc_of {α β : Type} {K : PySem.W.Frag} {a : Addr} {as : List α} {xs : List V} {R : α → V → Hp → Prop} {j : Nat} {tt : TT} {te : TE} {ws : List Nat} {σ : L2.St} {G1 H1 : Hp} {D : Addr} {Qd : Hp → Prop} (S : β → V → Hp → Prop) (p : α → Bool) (f : α → β)
    (hS : SqL K H1 a xs) (hG : Same G1 H1) (hR : Paired (fun a v => R a v G1) as xs) (hlen : xs.length < sizeLine) (hD : H1 D = none) (st : ∀ a v H H', Same H H' → R a v H → R a v H') (st2 : ∀ b v H H', Same H H' → S b v H → S b v H')
    (hw : ∀ x, wipe ((wipe σ ws).set j (some x)) ws = wipe σ ws)
    (ht : ∀ a x G H, a ∈ as → Ext G1 H1 G H → R a x G → ∀ Q : Bool → Hp → Prop, (∀ H', Same H H' → Q (p a) H') → tt ((wipe σ ws).set j (some x)) H Q)
    (he : ∀ a x G H, a ∈ as → Ext G1 H1 G H → R a x G → p a = true → ∀ Q : VK, (∀ y G' H', Ext G H G' H' → S (f a) y G' → Q y H') → te ((wipe σ ws).set j (some x)) H Q)
    (hd : ∀ G H ys, Ext G1 H1 G H → H D = some (.lst ys) → G D = none → Paired (fun b v => S b v G) ((as.filter p).map f) ys → Qd H) :
    ∃ W : Nat → Nat → Hp → Prop, (∃ m, W 0 m (upd H1 D (.lst []))) ∧ ∀ i m H, W i m H →
      ((Itl K a).stop i H ∧ Qd H) ∨ ((Itl K a).go i H ∧ ∃ Nx : Hp → Prop, (∀ H', Nx H' → ∃ m', m' < m ∧ W (i + 1) m' H') ∧ ∀ x H', (Itl K a).yld i H x H' → gName j x (wipe σ ws) H' fun σ2 H2 => wipe σ2 ws = wipe σ ws ∧ tt σ2 H2 fun b H3 =>
        if b = true then te σ2 H3 fun y H4 => ∃ acc, H4 D = some (.lst acc) ∧ acc.length < sizeLine ∧ Nx (upd H4 D (.lst (acc ++ [y]))) else Nx H3) :=
  lc_gen S p f (fun i H s hi => ⟨xs, xs[i], s.seq hS, by simp [hi]⟩) (fun H s => ⟨xs, s.seq hS, Nat.le_refl _⟩) (fun i H x H' s y => by obtain ⟨rfl, y⟩ := y; exact ⟨rfl, y _ (s.seq hS)⟩) hG hR hlen hD st st2 hw ht he hd
/-- .. over a tuple -/
theorem lc_ofT {α β : Type} {K : PySem.W.Frag} {a : Addr} {as : List α} {xs : List V} {R : α → V → Hp → Prop} {j : Nat} {tt : TT} {te : TE} {ws : List Nat} {σ : L2.St} {G1 H1 : Hp} {D : Addr} {Qd : Hp → Prop} (S : β → V → Hp → Prop) (p : α → Bool) (f : α → β)
    (hS : ∀ H, Same H1 H → SqT K H a xs) (hG : Same G1 H1) (hR : Paired (fun a v => R a v G1) as xs) (hlen : xs.length < sizeLine) (hD : H1 D = none) (st : ∀ a v H H', Same H H' → R a v H → R a v H') (st2 : ∀ b v H H', Same H H' → S b v H → S b v H')
    (hw : ∀ x, wipe ((wipe σ ws).set j (some x)) ws = wipe σ ws)
    (ht : ∀ a x G H, a ∈ as → Ext G1 H1 G H → R a x G → ∀ Q : Bool → Hp → Prop, (∀ H', Same H H' → Q (p a) H') → tt ((wipe σ ws).set j (some x)) H Q)
    (he : ∀ a x G H, a ∈ as → Ext G1 H1 G H → R a x G → p a = true → ∀ Q : VK, (∀ y G' H', Ext G H G' H' → S (f a) y G' → Q y H') → te ((wipe σ ws).set j (some x)) H Q)
    (hd : ∀ G H ys, Ext G1 H1 G H → H D = some (.lst ys) → G D = none → Paired (fun b v => S b v G) ((as.filter p).map f) ys → Qd H) :
    ∃ W : Nat → Nat → Hp → Prop, (∃ m, W 0 m (upd H1 D (.lst []))) ∧ ∀ i m H, W i m H →
      ((Itt K a).stop i H ∧ Qd H) ∨ ((Itt K a).go i H ∧ ∃ Nx : Hp → Prop, (∀ H', Nx H' → ∃ m', m' < m ∧ W (i + 1) m' H') ∧ ∀ x H', (Itt K a).yld i H x H' → gName j x (wipe σ ws) H' fun σ2 H2 => wipe σ2 ws = wipe σ ws ∧ tt σ2 H2 fun b H3 =>
        if b = true then te σ2 H3 fun y H4 => ∃ acc, H4 D = some (.lst acc) ∧ acc.length < sizeLine ∧ Nx (upd H4 D (.lst (acc ++ [y]))) else Nx H3) :=
  lc_gen S p f (fun i H s hi => ⟨xs, xs[i], hS H s, by simp [hi]⟩) (fun H s => ⟨xs, hS H s, Nat.le_refl _⟩) (fun i H x H' s y => by obtain ⟨rfl, y⟩ := y; exact ⟨rfl, y _ (hS _ s)⟩) hG hR hlen hD st st2 hw ht he hd
/-- .. over the signs of a text -/
abbrev sgV (z : Str) : List V := z.cps.toList.map fun c => V.str ⟨#[c]⟩
theorem lc_ofS {α β : Type} {z : Str} {as : List α} {R : α → V → Hp → Prop} {j : Nat} {tt : TT} {te : TE} {ws : List Nat} {σ : L2.St} {G1 H1 : Hp} {D : Addr} {Qd : Hp → Prop} (S : β → V → Hp → Prop) (p : α → Bool) (f : α → β)
    (hG : Same G1 H1) (hR : Paired (fun a v => R a v G1) as (sgV z)) (hlen : (sgV z).length < sizeLine) (hD : H1 D = none) (st : ∀ a v H H', Same H H' → R a v H → R a v H') (st2 : ∀ b v H H', Same H H' → S b v H → S b v H')
    (hw : ∀ x, wipe ((wipe σ ws).set j (some x)) ws = wipe σ ws)
    (ht : ∀ a x G H, a ∈ as → Ext G1 H1 G H → R a x G → ∀ Q : Bool → Hp → Prop, (∀ H', Same H H' → Q (p a) H') → tt ((wipe σ ws).set j (some x)) H Q)
    (he : ∀ a x G H, a ∈ as → Ext G1 H1 G H → R a x G → p a = true → ∀ Q : VK, (∀ y G' H', Ext G H G' H' → S (f a) y G' → Q y H') → te ((wipe σ ws).set j (some x)) H Q)
    (hd : ∀ G H ys, Ext G1 H1 G H → H D = some (.lst ys) → G D = none → Paired (fun b v => S b v G) ((as.filter p).map f) ys → Qd H) :
    ∃ W : Nat → Nat → Hp → Prop, (∃ m, W 0 m (upd H1 D (.lst []))) ∧ ∀ i m H, W i m H →
      ((Its z).stop i H ∧ Qd H) ∨ ((Its z).go i H ∧ ∃ Nx : Hp → Prop, (∀ H', Nx H' → ∃ m', m' < m ∧ W (i + 1) m' H') ∧ ∀ x H', (Its z).yld i H x H' → gName j x (wipe σ ws) H' fun σ2 H2 => wipe σ2 ws = wipe σ ws ∧ tt σ2 H2 fun b H3 =>
        if b = true then te σ2 H3 fun y H4 => ∃ acc, H4 D = some (.lst acc) ∧ acc.length < sizeLine ∧ Nx (upd H4 D (.lst (acc ++ [y]))) else Nx H3) :=
  lc_gen (J := Its z) S p f (fun i H s hi => by show i < z.cps.size; simpa using hi) (fun H s => by show z.cps.size ≤ _; simp) (fun i H x H' s y => by
    obtain ⟨rfl, c, hc, rfl⟩ := y
    refine ⟨rfl, ?_⟩
    rw [List.getElem?_map, Array.getElem?_toList, hc]; rfl) hG hR hlen hD st st2 hw ht he hd
section
open PySem.SeqAt
open PySem.AutoSeq1
open PySem.MeetsSeq PySem.MeetsSeq2 PySem.MeetsSeq3
set_option maxRecDepth 8000 in
theorem extend_list_tuple (l : Addr) (items : Array Value) (n : Nat) (b : Addr) (items2 : Array Value) (n2 : Nat) (dd2 : Option Addr) (sl2 : Array (Option Value)) (hs0 : ¬(!items.isEmpty && Builtin.List.listTooLong (items.size + items2.size)) = true) (hs1 : items.size ≤ sizeLine) (hs2 : items.size + items2.size ≤ sizeLine + 1) :
    Meets (Builtin.«list.extend» ⟨[.ref l, .ref b], []⟩) (fun _ R s => s.heap.get? l = some { cls := .type "list", dict := none, data := .seq items n, slots := #[] } ∧ s.heap.get? b = some { cls := .type "tuple", dict := dd2, data := .seq items2 n2, slots := sl2 } ∧ R (.ok (.ret Value.none)) { s with heap := s.heap.update l (Obj.mapSeq fun x => x ++ items2), toks := s.toks }) :=
  .of_wp fun prog w A R s h => by
    obtain ⟨hp, g, d, tk, os⟩ := s; obtain ⟨hl, hb, h⟩ := h; have f1 := idx_int; have f2 := PySem.AutoSeq1.sub_tuple_tuple; have f3 := PySem.AutoSeq1.sub_list_list; have f4 := PySem.AutoSeq1.sub_tuple_list; have f5 := PySem.AutoSeq1.sub_list_tuple;
    have hz' : (items ++ items2).size ≤ sizeLine + 1 := by rw [Array.size_append]; exact hs2
    wp_walk using (wpAny_updateSeq hl rfl (hz := hs1) (_hz' := hz')), wpAny_loadPart' hl, wpAny_loadPart' hb; exact ⟨_, rfl, h⟩
def rExtendS : V → List V → Hp → VK → Prop := fun x vs H Q => ∃ l b xs zs, x = .ref l ∧ vs = [.ref b] ∧ H l = some (.lst xs) ∧ (H b = some (.lst zs) ∨ H b = some (.tup zs)) ∧ xs.length + zs.length ≤ sizeLine ∧ Q .non (upd H l (.lst (xs ++ zs)))
theorem mt_extendS {X : Cx} : MtM X "list.extend" rExtendS := by
  intro pins s σ H x vs v us Q I rx rv h
  obtain ⟨l, b, xs, zs, rfl, rfl, hH, hB, hz, q⟩ := h
  rcases hB with hB | hB
  · exact mt_extend pins s σ H _ _ v us Q I rx rv ⟨l, b, xs, zs, rfl, rfl, hH, hB, hz, q⟩
  cases rx
  obtain ⟨u, rfl, ru⟩ := rv.one
  cases ru
  obtain ⟨z, its, n, r, hl, e⟩ := I.lstM hH
  obtain ⟨its2, r2, ht, z2⟩ := I.tuple (SqT.of hB)
  obtain ⟨ob, e2, hc, n2, hd⟩ := ht
  have hl2 := r2.length
  have hsz : its.toArray.size + its2.toArray.size ≤ sizeLine := by rw [List.size_toArray, List.size_toArray]; omega
  have hlong : ¬ (!its.toArray.isEmpty && Builtin.List.listTooLong (its.toArray.size + its2.toArray.size)) = true := by
    rw [notLongL hsz, Bool.and_false]
    exact Bool.false_ne_true
  obtain ⟨cl, dd, dat, sl⟩ := ob
  simp only at hc hd
  subst hc hd
  refine call_meets F.slot_list_extend ⟨_, e, rfl⟩ F.entry_list_extend (F.args_list_extend_2 _ _)
    (extend_list_tuple l its.toArray n b its2.toArray n2 dd sl hlong (by rw [List.size_toArray]; omega) (by omega)) ⟨e, e2, ?_⟩
  refine ⟨.non, _, I.lset (its' := its ++ its2) hH e (by simp) (r.append r2) ?_, rfl, q⟩
  rw [List.length_append]
  omega
end

theorem lt_line {n : Nat} (h : n ≤ 1000000) : n < sizeLine := Nat.lt_of_le_of_lt h (by decide)
theorem le_line {n : Nat} (h : n ≤ 1000000) : n ≤ sizeLine := Nat.le_of_lt (lt_line h)
theorem truL {H : Hp} {K : PySem.W.Frag} {p : Addr} {xs : List V} (h : SqL K H p xs) : TruV K (.ref p) H (!xs.isEmpty) := .inl ⟨xs, h, rfl⟩
theorem tyL {H : Hp} {K : PySem.W.Frag} {p : Addr} {xs : List V} (h : SqL K H p xs) : tyV K "list" (.ref p) H := .inl ⟨rfl, _, h⟩
theorem nV_app (a b : List Nat) : nV (a ++ b) = nV a ++ nV b := List.map_append
/-- a list or a tuple of numbers -/
def Sq (l : List Nat) (v : V) (H : Hp) : Prop := ∃ a, v = .ref a ∧ (H a = some (.lst (nV l)) ∨ H a = some (.tup (nV l)))
theorem Sq.same {l v H H'} (s : Same H H') (h : Sq l v H) : Sq l v H' := let ⟨a, e, q⟩ := h; ⟨a, e, q.imp (s _ _) (s _ _)⟩
theorem Ls.sq {l v H} (h : Ls l v H) : Sq l v H := let ⟨a, e, q⟩ := h; ⟨a, e, .inl q⟩
def Sqs (ls : List (List Nat)) (v : V) (H : Hp) : Prop := ∃ a vs, v = .ref a ∧ H a = some (.lst vs) ∧ Paired (fun l v => Sq l v H) ls vs
theorem Lss.sqs {ls v H} (h : Lss ls v H) : Sqs ls v H := let ⟨a, vs, e, q, r⟩ := h; ⟨a, vs, e, q, Paired.mapP r fun _ _ z => z.sq⟩
theorem dec_eq {p q : Prop} [Decidable p] [Decidable q] (h : p ↔ q) : decide p = decide q := by
  by_cases hp : p
  · rw [decide_eq_true hp, decide_eq_true (h.mp hp)]
  · rw [decide_eq_false hp, decide_eq_false (fun z => hp (h.mpr z))]
theorem cxK {CX : CXT} {P : Program} {w : World} {K : PySem.W.Frag} {mg : Str → Option Value} {base : Heap} {N : List Str} {qual : Str} {scope : Scope} {f : Addr} {cd : Value} {A : Around} {outer : List Env} {s : Shared} {H : Hp} {E : XK} : (cxOf CX P w K mg base N qual scope f cd A outer s H E).K = K := rfl

theorem for_enum {K : PySem.W.Frag} {a : Addr} {xs : List V} {g : TG} {tb : TS} {D : Ends} {σ : L2.St} {H : Hp} (Pv : Nat → L2.St → Hp → Prop) (h0 : Pv 0 σ H) (hl : ∀ i σ H, i ≤ xs.length → Pv i σ H → SqL K H a xs)
    (hs : ∀ (i : Nat) x σ H T, xs[i]? = some x → Pv i σ H → H T = none → g (.ref T) σ (upd H T (.tup [.int (i : Int), x])) fun σ2 H2 => tb { D with nx := Pv (i + 1), ct := Pv (i + 1), bk := D.nx } σ2 H2) (hd : ∀ σ H, Pv xs.length σ H → D.nx σ H) :
    ∃ W : Nat → Nat → L2.St → Hp → Prop, (∃ m, W 0 m σ H) ∧ ∀ i m σ H, W i m σ H →
      ((Ite K a).stop i H ∧ D.nx σ H) ∨ ((Ite K a).go i H ∧ ∃ N : L2.St → Hp → Prop, (∀ σ' H', N σ' H' → ∃ m', m' < m ∧ W (i + 1) m' σ' H') ∧ ∀ x H', (Ite K a).yld i H x H' → g x σ H' fun σ2 H2 => tb { D with nx := N, ct := N, bk := D.nx } σ2 H2) := by
  refine ⟨fun i m σ H => m = xs.length - i ∧ i ≤ xs.length ∧ Pv i σ H, ⟨xs.length, by simp, Nat.zero_le _, h0⟩, ?_⟩
  rintro i m σ H ⟨rfl, hi, p⟩
  have q := hl i σ H hi p
  by_cases hlt : i < xs.length
  · refine .inr ⟨⟨xs, xs[i], q, by simp [hlt]⟩, Pv (i + 1), fun σ' H' p' => ⟨xs.length - (i + 1), by omega, rfl, hlt, p'⟩, fun x H' y => ?_⟩
    obtain ⟨T, y0, rfl, hT, rfl, hy⟩ := y
    exact hs i y0 σ H T (hy xs q) p hT
  · have e : i = xs.length := by omega
    subst e
    exact .inl ⟨⟨xs, q, Nat.le_refl _⟩, hd σ H p⟩
end Bt

namespace Bt
open PySem PySem.Spec PyProof.Rows L2
def top (i : Nat) : Stmt := PySem.Challenge.pw_blocktrees_s08_slug.main.body.getD i (.Pass ⟨0, 0, 0, 0⟩)
local macro_rules | `(tactic| walk_at "sx") => `(tactic| simp only [cxK, tTru, rLen, rListOf, rTupOf, tRet, tRetN, tChain, tRng, tCB, tCons, tNil, tC, tVar, tOp, tUn, tTest, tB, tAnd, tOr, tNot, tIfS, tSeq, tIf, tOrV, tAndV, tNotV, tCall, tSl, tPart, tNoPart, tLst, tTup, tBM, tBM0, rExtendS, iList, iTup, rIxL, rIxT, rSlL, rAppend, rExtend, rCat, rI0, rEq, rNe, rU, tAsg, gName, tDrop, tNext, scal, L2.start, List.map_cons, List.map_nil, List.length_cons, List.length_nil, Nat.reduceAdd, Nat.reduceSub, List.replicate_succ, List.replicate_zero, List.append_nil, List.cons_append, List.nil_append, List.getElem?_cons_zero, List.getElem?_cons_succ, Option.some.injEq, exists_eq_left', exists_eq_left, V.int.injEq, V.bl.injEq, V.str.injEq, V.ref.injEq, List.cons.injEq, and_true, true_and, exists_and_left, List.set_cons_zero, List.set_cons_succ, spN1_run])
local macro_rules | `(tactic| walk_at "sm") => `(tactic| (repeat (first | exact Same.refl _ | assumption | (refine Same.trans ?_ (same_new (by assumption))) | (refine Same.trans ?_ (by assumption)))))
section
variable {P : Program} {w : World} {K : PySem.W.Frag} {mg : Str → Option Value} {base : Heap}
abbrev s_is_space : Stmt := top 6
theorem sc_is_space : FnScope ["byte"] ["byte"] (defScope s_is_space) := ⟨rfl, rfl, rfl, by decide +kernel, rfl, by decide +kernel, by decide +kernel⟩

theorem ok_is_space (D : Dn K mg "is_space" s_is_space ["byte"]) (c_SPACE : IsC mg "SPACE" (.int 32)) (c_TAB : IsC mg "TAB" (.int 9)) (c_LINE_FEED : IsC mg "LINE_FEED" (.int 10)) (c_CARRIAGE_RETURN : IsC mg "CARRIAGE_RETURN" (.int 13)) :
    OwnOk P w K mg base CX0 1 "is_space" ["byte"] (spN1 fun n => .bl (Kh450.isWhite n)) := by
  refine own_ok D sc_is_space (fun _ _ _ _ h => spN1_len h) (fun f cdv A outer s H vs Q E hr h => ⟨_, (pss_one (ps_ret (pe_cmpR (kop_in (K := K) rfl) (pv 0) (pe_tup (pa_cons (pe_cst (by rfl) c_SPACE) (pa_cons (pe_cst (by rfl) c_TAB) (pa_cons (pe_cst (by rfl) c_LINE_FEED) (pa_cons (pe_cst (by rfl) c_CARRIAGE_RETURN) pa_nil))))) (by rfl)))), ?_⟩)
  obtain ⟨n, rfl, q⟩ := h
  refine ⟨_, rfl, by decide, fun p hp => ⟨p, _, rfl, .inr (SqT.of upd_same), rfl, rfl, fin_bl ?_ (q _ (same_new hp))⟩⟩
  simp only [Kh450.isWhite, inV, List.any_cons, List.any_nil, eqV, Bool.or_false]
  rw [Bool.eq_iff_iff]; simp; omega
abbrev s_is_lowercase : Stmt := top 7
theorem sc_is_lowercase : FnScope ["byte"] ["byte"] (defScope s_is_lowercase) := ⟨rfl, rfl, rfl, by decide +kernel, rfl, by decide +kernel, by decide +kernel⟩

theorem ok_is_lowercase (D : Dn K mg "is_lowercase" s_is_lowercase ["byte"]) (n_ord : mg "ord" = none) : OwnOk P w K mg base CX0 1 "is_lowercase" ["byte"] (spN1 fun n => .bl (Kh450.isLower n)) := by
  refine own_ok D sc_is_lowercase (fun _ _ _ _ h => spN1_len h) (fun f cdv A outer s H vs Q E hr h => ⟨_, (pss_one (ps_ret (pe_rng (pe_ordL 97 n_ord) (pv 0) (pe_ordL 122 n_ord) (mono := mono_var)))), ?_⟩)
  obtain ⟨n, rfl, q⟩ := h
  refine ⟨_, rfl, _, rfl, fin_bl ?_ (q _ (Same.refl _))⟩
  rw [Bool.eq_iff_iff]; simp [Kh450.isLower]; omega
abbrev s_is_uppercase : Stmt := top 8
theorem sc_is_uppercase : FnScope ["byte"] ["byte"] (defScope s_is_uppercase) := ⟨rfl, rfl, rfl, by decide +kernel, rfl, by decide +kernel, by decide +kernel⟩

theorem ok_is_uppercase (D : Dn K mg "is_uppercase" s_is_uppercase ["byte"]) (n_ord : mg "ord" = none) : OwnOk P w K mg base CX0 1 "is_uppercase" ["byte"] (spN1 fun n => .bl (Kh450.isUpper n)) := by
  refine own_ok D sc_is_uppercase (fun _ _ _ _ h => spN1_len h) (fun f cdv A outer s H vs Q E hr h => ⟨_, (pss_one (ps_ret (pe_rng (pe_ordL 65 n_ord) (pv 0) (pe_ordL 90 n_ord) (mono := mono_var)))), ?_⟩)
  obtain ⟨n, rfl, q⟩ := h
  refine ⟨_, rfl, _, rfl, fin_bl ?_ (q _ (Same.refl _))⟩
  rw [Bool.eq_iff_iff]; simp [Kh450.isUpper]; omega
abbrev s_is_digit : Stmt := top 9
theorem sc_is_digit : FnScope ["byte"] ["byte"] (defScope s_is_digit) := ⟨rfl, rfl, rfl, by decide +kernel, rfl, by decide +kernel, by decide +kernel⟩

theorem ok_is_digit (D : Dn K mg "is_digit" s_is_digit ["byte"]) (n_ord : mg "ord" = none) : OwnOk P w K mg base CX0 1 "is_digit" ["byte"] (spN1 fun n => .bl (Kh450.isDigit n)) := by
  refine own_ok D sc_is_digit (fun _ _ _ _ h => spN1_len h) (fun f cdv A outer s H vs Q E hr h => ⟨_, (pss_one (ps_ret (pe_rng (pe_ordL 48 n_ord) (pv 0) (pe_ordL 57 n_ord) (mono := mono_var)))), ?_⟩)
  obtain ⟨n, rfl, q⟩ := h
  refine ⟨_, rfl, _, rfl, fin_bl ?_ (q _ (Same.refl _))⟩
  rw [Bool.eq_iff_iff]; simp [Kh450.isDigit]; omega
abbrev s_is_continuation : Stmt := top 11
theorem sc_is_continuation : FnScope ["byte"] ["byte"] (defScope s_is_continuation) := ⟨rfl, rfl, rfl, by decide +kernel, rfl, by decide +kernel, by decide +kernel⟩

theorem ok_is_continuation (D : Dn K mg "is_continuation" s_is_continuation ["byte"]) : OwnOk P w K mg base CX0 1 "is_continuation" ["byte"] (spN1 fun n => .bl (Kh450.isContinuation n)) := by
  refine own_ok D sc_is_continuation (fun _ _ _ _ h => spN1_len h) (fun f cdv A outer s H vs Q E hr h => ⟨_, (pss_one (ps_ret (pe_rng pe_int (pv 0) pe_int (mono := mono_var)))), ?_⟩)
  obtain ⟨n, rfl, q⟩ := h
  refine ⟨_, rfl, _, rfl, fin_bl ?_ (q _ (Same.refl _))⟩
  rw [Bool.eq_iff_iff]; simp [Kh450.isContinuation]; omega
def isLD (n : Nat) : Bool := Kh450.isLower n || Kh450.isUpper n || Kh450.isDigit n
abbrev s_is_letter_or_digit : Stmt := top 10
theorem sc_is_letter_or_digit : FnScope ["byte"] ["byte"] (defScope s_is_letter_or_digit) := ⟨rfl, rfl, rfl, by decide +kernel, rfl, by decide +kernel, by decide +kernel⟩

theorem ok_is_letter_or_digit (D : Dn K mg "is_letter_or_digit" s_is_letter_or_digit ["byte"]) (o_is_lowercase : OwnOk P w K mg base CX0 1 "is_lowercase" ["byte"] (spN1 fun n => .bl (Kh450.isLower n))) (o_is_uppercase : OwnOk P w K mg base CX0 1 "is_uppercase" ["byte"] (spN1 fun n => .bl (Kh450.isUpper n))) (o_is_digit : OwnOk P w K mg base CX0 1 "is_digit" ["byte"] (spN1 fun n => .bl (Kh450.isDigit n))) :
    OwnOk P w K mg base CX0 2 "is_letter_or_digit" ["byte"] (spN1 fun n => .bl (isLD n)) := by
  refine own_ok D sc_is_letter_or_digit (fun _ _ _ _ h => spN1_len h) (fun f cdv A outer s H vs Q E hr h => ⟨_, (pss_one (ps_ret (pe_or (pe_own o_is_lowercase (hr.mono (by omega)) rfl pass0 (pa_cons (pv 0) pa_nil)) (pe_or (pe_own o_is_uppercase (hr.mono (by omega)) rfl pass0 (pa_cons (pv 0) pa_nil)) (pe_one (pe_own o_is_digit (hr.mono (by omega)) rfl pass0 (pa_cons (pv 0) pa_nil))))))), ?_⟩)
  obtain ⟨n, rfl, q⟩ := h
  walk_at "sx"
  intro H1 s1
  simp only [isLD] at q
  cases h1 : Kh450.isLower n
  · rw [h1] at q; simp only [Bool.false_or, Bool.false_eq_true, if_false] at q ⊢
    intro H2 s2
    cases h2 : Kh450.isUpper n
    · rw [h2] at q; simp only [Bool.false_or, Bool.false_eq_true, if_false] at q ⊢
      intro H3 s3
      refine q _ ?_
      walk_at "sm"
    · rw [h2] at q
      simp only [if_true]
      refine q _ ?_
      walk_at "sm"
  · rw [h1] at q
    simp only [if_true]
    refine q _ ?_
    walk_at "sm"
def annLen (n : Nat) : Nat := if n < 128 then 1 else if 194 ≤ n ∧ n ≤ 223 then 2 else if 224 ≤ n ∧ n ≤ 239 then 3 else if 240 ≤ n ∧ n ≤ 244 then 4 else 0
abbrev s_announced_length : Stmt := top 12
theorem sc_announced_length : FnScope ["first"] ["first"] (defScope s_announced_length) := ⟨rfl, rfl, rfl, by decide +kernel, rfl, by decide +kernel, by decide +kernel⟩

theorem ok_announced_length (D : Dn K mg "announced_length" s_announced_length ["first"]) : OwnOk P w K mg base CX0 1 "announced_length" ["first"] (spN1 fun n => .int (annLen n : Nat)) := by
  refine own_ok D sc_announced_length (fun _ _ _ _ h => spN1_len h) (fun f cdv A outer s H vs Q E hr h => ⟨_, (pss_cons (ps_if (pt_cmpR op_lt (pv 0) pe_int (nomark _)) (pss_one (ps_ret pe_int)) pss_nil)
    (pss_cons (ps_if (pt_rng pe_int (pv 0) pe_int (mono := mono_var)) (pss_one (ps_ret pe_int)) pss_nil)
    (pss_cons (ps_if (pt_rng pe_int (pv 0) pe_int (mono := mono_var)) (pss_one (ps_ret pe_int)) pss_nil)
    (pss_cons (ps_if (pt_rng pe_int (pv 0) pe_int (mono := mono_var)) (pss_one (ps_ret pe_int)) pss_nil)
    (pss_one (ps_ret pe_int)))))), ?_⟩)
  obtain ⟨n, rfl, q⟩ := h
  have q := q _ (Same.refl _)
  simp only [annLen] at q
  walk_at "sx"
  simp only [decide_eq_true_eq, Bool.and_eq_true]
  by_cases h1 : n < 128
  · rw [if_pos (by omega)]; rw [if_pos h1] at q; exact q
  rw [if_neg (by omega)]; rw [if_neg h1] at q
  by_cases h2 : 194 ≤ n ∧ n ≤ 223
  · rw [if_pos (by omega)]; rw [if_pos h2] at q; exact q
  rw [if_neg (by omega)]; rw [if_neg h2] at q
  by_cases h3 : 224 ≤ n ∧ n ≤ 239
  · rw [if_pos (by omega)]; rw [if_pos h3] at q; exact q
  rw [if_neg (by omega)]; rw [if_neg h3] at q
  by_cases h4 : 240 ≤ n ∧ n ≤ 244
  · rw [if_pos (by omega)]; rw [if_pos h4] at q; exact q
  rw [if_neg (by omega)]; rw [if_neg h4] at q
  exact q
/-- a def of two small numbers -/
def spN2 (f : Nat → Nat → V) : Sp := fun vs H Q _ => ∃ n m : Nat, vs = [.int n, .int m] ∧ ∀ H', Same H H' → Q (f n m) H'
theorem spN2_len {f : Nat → Nat → V} {vs H Q E} (h : spN2 f vs H Q E) : vs.length = 2 := by
  obtain ⟨i, j, rfl, _⟩ := h
  rfl
def sbf (a b : Nat) : Bool := if a = 224 then decide (160 ≤ b) else if a = 237 then decide (b ≤ 159) else if a = 240 then decide (144 ≤ b) else if a = 244 then decide (b ≤ 143) else true
abbrev s_second_byte_fits : Stmt := top 13
theorem sc_second_byte_fits : FnScope ["first", "second"] ["first", "second"] (defScope s_second_byte_fits) := ⟨rfl, rfl, rfl, by decide +kernel, rfl, by decide +kernel, by decide +kernel⟩

theorem ok_second_byte_fits (D : Dn K mg "second_byte_fits" s_second_byte_fits ["first", "second"]) : OwnOk P w K mg base CX0 1 "second_byte_fits" ["first", "second"] (spN2 fun a b => .bl (sbf a b)) := by
  refine own_ok D sc_second_byte_fits (fun _ _ _ _ h => spN2_len h) (fun f cdv A outer s H vs Q E hr h => ⟨_, (pss_cons (ps_if (pt_cmpR op_eq (pv 0) pe_int (nomark _)) (pss_one (ps_ret (pe_cmpR op_ge (pv 1) pe_int (nomark _)))) pss_nil)
    (pss_cons (ps_if (pt_cmpR op_eq (pv 0) pe_int (nomark _)) (pss_one (ps_ret (pe_cmpR op_le (pv 1) pe_int (nomark _)))) pss_nil)
    (pss_cons (ps_if (pt_cmpR op_eq (pv 0) pe_int (nomark _)) (pss_one (ps_ret (pe_cmpR op_ge (pv 1) pe_int (nomark _)))) pss_nil)
    (pss_cons (ps_if (pt_cmpR op_eq (pv 0) pe_int (nomark _)) (pss_one (ps_ret (pe_cmpR op_le (pv 1) pe_int (nomark _)))) pss_nil)
    (pss_one (ps_ret pe_bl)))))), ?_⟩)
  obtain ⟨n, m, rfl, q⟩ := h
  have q := q _ (Same.refl _)
  simp only [sbf] at q
  walk_at "sx"
  simp only [decide_eq_true_eq]
  by_cases h1 : n = 224
  · rw [if_pos (by omega)]; rw [if_pos h1] at q; exact fin_bl (dec_eq (by omega)) q
  rw [if_neg (by omega)]; rw [if_neg h1] at q
  by_cases h2 : n = 237
  · rw [if_pos (by omega)]; rw [if_pos h2] at q; exact fin_bl (dec_eq (by omega)) q
  rw [if_neg (by omega)]; rw [if_neg h2] at q
  by_cases h3 : n = 240
  · rw [if_pos (by omega)]; rw [if_pos h3] at q; exact fin_bl (dec_eq (by omega)) q
  rw [if_neg (by omega)]; rw [if_neg h3] at q
  by_cases h4 : n = 244
  · rw [if_pos (by omega)]; rw [if_pos h4] at q; exact fin_bl (dec_eq (by omega)) q
  rw [if_neg (by omega)]; rw [if_neg h4] at q
  exact q
/-! ### sequences -/
def seqLen : List Nat → Nat
  | [] => 0
  | a :: r => if (r.take (annLen a - 1)).length + 1 < annLen a then 0 else if (r.take (annLen a - 1)).all Kh450.isContinuation then (match r.take (annLen a - 1) with
    | [] => annLen a
    | b :: _ => if sbf a b then annLen a else 0) else 0
/-- sequence_length(data, start) -/
def spSeq (K : PySem.W.Frag) : Sp := fun vs H Q _ => ∃ (v : V) (d : List Nat) (i : Nat), vs = [v, .int i] ∧ Lr K d v H ∧ i < d.length ∧ ∀ H', Same H H' → Q (.int (seqLen (d.drop i) : Nat)) H'
theorem cut_seq (d : List Nat) (i n : Nat) (hi : i < d.length) (a : Nat) (r : List Nat) (h : d.drop i = a :: r) : cutV (nV d) (some ((i : Int) + 1)) (some ((i : Int) + (n : Int))) = nV (r.take (n - 1)) := by
  have hr : r = d.drop (i + 1) := by
    have := congrArg List.tail h
    simpa [List.tail_drop] using this.symm
  unfold cutV
  rw [show ((i : Int) + 1) = ((i + 1 : Nat) : Int) by omega, show ((i : Int) + (n : Int)) = ((i + n : Nat) : Int) by omega, HT.sIx_nat, HT.sIx_nat, List.length_map]
  rw [show min (i + 1) d.length = i + 1 by omega]
  rw [hr, ← List.map_drop, ← List.map_take]
  congr 1
  by_cases hn : i + n ≤ d.length
  · rw [show min (i + n) d.length - (i + 1) = n - 1 by omega]
  · rw [List.take_of_length_le (l := d.drop (i + 1)), List.take_of_length_le]
    · simp; omega
    · simp; omega
abbrev s_sequence_length : Stmt := top 14
theorem sc_sequence_length : FnScope ["data", "start", "length", "rest", "byte"] ["data", "start"] (defScope s_sequence_length) := ⟨rfl, rfl, rfl, by decide +kernel, rfl, by decide +kernel, by decide +kernel⟩

theorem ok_sequence_length (D : Dn K mg "sequence_length" s_sequence_length ["data", "start"]) (n_len : mg "len" = none) (o_announced_length : OwnOk P w K mg base CX0 1 "announced_length" ["first"] (spN1 fun n => .int (annLen n : Nat)))
    (o_is_continuation : OwnOk P w K mg base CX0 1 "is_continuation" ["byte"] (spN1 fun n => .bl (Kh450.isContinuation n))) (o_second_byte_fits : OwnOk P w K mg base CX0 1 "second_byte_fits" ["first", "second"] (spN2 fun a b => .bl (sbf a b))) :
    OwnOk P w K mg base CX0 2 "sequence_length" ["data", "start"] (spSeq K) := by
  refine own_ok D sc_sequence_length (fun _ _ _ _ h => by obtain ⟨v, d, i, rfl, _⟩ := h; rfl) (fun f cdv A outer s H vs Q E hr h => ⟨_, (pss_cons (ps_set (i := 2) sc_sequence_length.nd rfl (by first | exact Or.inl rfl | exact Or.inr rfl) (pe_own o_announced_length (hr.mono (by omega)) rfl pass0 (pa_cons (pe_ix (kix_list (K := K) rfl) (pv 0) (pv 1) (fun _ _ => rfl)) pa_nil)))
    (pss_cons (ps_set (i := 3) sc_sequence_length.nd rfl (by first | exact Or.inl rfl | exact Or.inr rfl) (pe_slice (ksl_list (K := K) rfl) (pv 0) (po_some (pe_op op_add (pv 1) pe_int)) (po_some (pe_op op_add (pv 1) (pv 2)))))
    (pss_cons (ps_if (pt_cmpR op_lt (pe_callB (kcall_len (K := K) rfl) (by rfl) n_len PySem.boot_len (pa_cons (pv 3) pa_nil)) (pe_op op_sub (pv 2) pe_int) (nomark _)) (pss_one (ps_ret pe_int)) pss_nil)
    (pss_cons (ps_for PassesOwn.never rfl (kpi_list (K := K) rfl (pv 3)) (pg_name (i := 4) sc_sequence_length.nd rfl (by first | exact Or.inl rfl | exact Or.inr rfl))
    (pss_one (ps_if (pt_not (pt_val (pe_own o_is_continuation (hr.mono (by omega)) rfl pass0 (pa_cons (pv 4) pa_nil)))) (pss_one (ps_ret pe_int)) pss_nil)))
    (pss_cons (ps_if (PW.pt (pw_and (kpt_truth (K := K) rfl (pv 3)) (pw_and1 (pt_not (pt_val (pe_own o_second_byte_fits (hr.mono (by omega)) rfl pass0 (pa_cons (pe_ix (kix_list (K := K) rfl) (pv 0) (pv 1) (fun _ _ => rfl)) (pa_cons (pe_ix (kix_list (K := K) rfl) (pv 3) pe_int (fun _ _ => rfl)) pa_nil)))))))) (pss_one (ps_ret pe_int)) pss_nil)
    (pss_one (ps_ret (pv 2)))))))), ?_⟩)
  obtain ⟨v, d, i, rfl, ⟨a, rfl, hS⟩, hi, q⟩ := h
  obtain ⟨c, r, hd⟩ : ∃ c r, d.drop i = c :: r := by
    cases e : d.drop i with
    | nil => rw [List.drop_eq_nil_iff] at e; omega
    | cons c r => exact ⟨c, r, rfl⟩
  rw [hd] at q
  have hc : (nV d)[i]? = some (.int (c : Int)) := nV_at (by have := congrArg (fun l => l[0]?) hd; simpa using this)
  refine ⟨_, rfl, _, rfl, a, _, i, _, rfl, rfl, hS, atI_nat hc, c, rfl, fun H1 s1 => ?_⟩
  walk_at "sx"
  refine ⟨_, s1.seq hS, fun p hp => ⟨_, .inl (SqL.of upd_same), ?_⟩⟩
  rw [cut_seq d i (annLen c) hi c r hd]
  have s2 : Same H (upd H1 p (.lst (nV (r.take (annLen c - 1))))) := s1.trans (same_new hp)
  simp only [seqLen] at q
  generalize hrest : r.take (annLen c - 1) = rest at q s2 ⊢
  refine ite2 (fun h1 => ?_) (fun h1 => ?_)
  · rw [decide_eq_true_eq, List.length_map] at h1
    rw [if_pos (by omega)] at q
    exact q _ s2
  rw [decide_eq_true_eq, List.length_map] at h1
  rw [if_neg (by omega)] at q
  refine ⟨_, rfl, p, rfl, ⟨_, SqL.of upd_same⟩, for_list (xs := nV rest) (fun j σ' H' => Same (upd H1 p (.lst (nV rest))) H' ∧ (∃ x, σ' = [some (.ref a), some (.int i), some (.int (annLen c : Nat)), some (.ref p), x]) ∧ (rest.take j).all Kh450.isContinuation = true)
    ⟨Same.refl _, ⟨_, rfl⟩, rfl⟩ (fun j σ' H' _ ⟨s3, _⟩ => s3.seq (SqL.of upd_same)) ?_ ?_⟩
  · rintro j x σ' H' hx ⟨s3, ⟨y, rfl⟩, hall⟩
    obtain ⟨b, hb, rfl⟩ := nV_get hx
    walk_at "sx"
    intro H3 s4
    cases hcb : Kh450.isContinuation b with
    | true =>
      simp only [Bool.not_true, Bool.false_eq_true, if_false]
      refine ⟨s3.trans s4, ⟨_, rfl⟩, ?_⟩
      rw [take_at hb, List.all_append, hall]
      simp [hcb]
    | false =>
      simp only [Bool.not_false, if_true]
      have hn : rest.all Kh450.isContinuation = false := List.all_eq_false.mpr ⟨b, List.mem_of_getElem? hb, by rw [hcb]; decide⟩
      rw [hn, if_neg (by decide)] at q
      exact q _ ((s2.trans s3).trans s4)
  · rintro σ' H' ⟨s3, ⟨y, rfl⟩, hall⟩
    rw [List.length_map, List.take_length] at hall
    rw [hall, if_pos rfl] at q
    walk_at "sx"
    have hR : SqL K H' p (nV rest) := s3.seq (SqL.of upd_same)
    cases rest with
    | nil =>
      refine ⟨_, .inl ⟨_, hR, rfl⟩, ?_⟩
      exact q _ (s2.trans s3)
    | cons b t =>
      refine ⟨_, .inl ⟨_, hR, rfl⟩, ?_⟩
      refine iteT ?_
      refine ⟨_, ((s2.trans s3)).seq hS, _, atI_nat hc, _, hR, _, atI_nat (j := 0) rfl, c, b, rfl, fun H4 s4 => ?_⟩
      have q := q _ ((s2.trans s3).trans s4)
      refine ⟨sbf c b, rfl, ?_⟩
      cases hs : sbf c b with
      | true =>
        simp only [hs, if_true] at q
        exact iteF q
      | false =>
        simp only [hs, Bool.false_eq_true, if_false] at q
        exact iteT q
/-- is_utf8(data) -/
def utf8Loop : Nat → List Nat → Bool
  | _, [] => true
  | 0, _ => false
  | k + 1, l => if seqLen l = 0 then false else utf8Loop k (l.drop (seqLen l))
def spUtf8 (K : PySem.W.Frag) : Sp := fun vs H Q _ => ∃ (v : V) (d : List Nat), vs = [v] ∧ Lr K d v H ∧ ∀ H', Same H H' → Q (.bl (utf8Loop d.length d)) H'
theorem utf8_fuel : ∀ (k k' : Nat) (l : List Nat), l.length ≤ k → l.length ≤ k' → utf8Loop k l = utf8Loop k' l
  | 0, 0, _, _, _ => rfl
  | k, k', [], _, _ => by cases k <;> cases k' <;> rfl
  | 0, _, a :: r, h, _ => by simp at h
  | _, 0, a :: r, _, h => by simp at h
  | k + 1, k' + 1, a :: r, h, h' => by
    show (if seqLen (a :: r) = 0 then false else utf8Loop k ((a :: r).drop (seqLen (a :: r)))) = (if seqLen (a :: r) = 0 then false else utf8Loop k' ((a :: r).drop (seqLen (a :: r))))
    by_cases z : seqLen (a :: r) = 0
    · rw [if_pos z, if_pos z]
    · rw [if_neg z, if_neg z]
      exact utf8_fuel k k' _ (by rw [List.length_drop]; simp only [List.length_cons] at h ⊢; omega) (by rw [List.length_drop]; simp only [List.length_cons] at h' ⊢; omega)
abbrev s_is_utf8 : Stmt := top 15
theorem sc_is_utf8 : FnScope ["data", "position", "length"] ["data"] (defScope s_is_utf8) := ⟨rfl, rfl, rfl, by decide +kernel, rfl, by decide +kernel, by decide +kernel⟩

theorem ok_is_utf8 (D : Dn K mg "is_utf8" s_is_utf8 ["data"]) (n_len : mg "len" = none) (o_sequence_length : OwnOk P w K mg base CX0 2 "sequence_length" ["data", "start"] (spSeq K)) : OwnOk P w K mg base CX0 3 "is_utf8" ["data"] (spUtf8 K) := by
  refine own_ok D sc_is_utf8 (fun _ _ _ _ h => by obtain ⟨v, d, rfl, _⟩ := h; rfl) (fun f cdv A outer s H vs Q E hr h => ⟨_, (pss_cons (ps_set (i := 1) sc_is_utf8.nd rfl (by first | exact Or.inl rfl | exact Or.inr rfl) pe_int)
    (pss_cons (ps_while PassesOwn.never (pt_cmpR op_lt (pv 1) (pe_callB (kcall_len (K := K) rfl) (by rfl) n_len PySem.boot_len (pa_cons (pv 0) pa_nil)) (nomark _)) (pss_cons (ps_set (i := 2) sc_is_utf8.nd rfl (by first | exact Or.inl rfl | exact Or.inr rfl) (pe_own o_sequence_length (hr.mono (by omega)) rfl pass0 (pa_cons (pv 0) (pa_cons (pv 1) pa_nil))))
    (pss_cons (ps_if (pt_cmpR op_eq (pv 2) pe_int (nomark _)) (pss_one (ps_ret pe_bl)) pss_nil)
    (pss_one (ps_aug (i := 1) sc_is_utf8.nd rfl (by first | exact Or.inl rfl | exact Or.inr rfl) (pv 2) ip_add)))))
    (pss_one (ps_ret pe_bl)))), ?_⟩)
  obtain ⟨v, d, rfl, ⟨a, rfl, hS⟩, q⟩ := h
  walk_at "sx"
  refine ⟨fun m σ' H' => Same H H' ∧ ∃ (i : Nat) (x : Option V), σ' = [some (.ref a), some (.int (i : Int)), x] ∧ m = d.length - i ∧ utf8Loop d.length d = utf8Loop d.length (d.drop i), ⟨_, Same.refl _, 0, _, rfl, rfl, rfl⟩, ?_⟩
  rintro m σ' H' ⟨s1, i, x, rfl, rfl, hu⟩
  walk_at "sx"
  refine ⟨_, .inl (s1.seq hS), ?_⟩
  rw [List.length_map]
  refine ite2 (fun h => ?_) (fun h => ?_)
  · rw [decide_eq_true_eq] at h
    have hi : i < d.length := by omega
    refine ⟨fun σ2 H2 => Same H H2 ∧ ∃ (i' : Nat) (x : Option V), σ2 = [some (.ref a), some (.int (i' : Int)), x] ∧ i < i' ∧ utf8Loop d.length d = utf8Loop d.length (d.drop i'), ?_, ?_⟩
    · rintro σ2 H2 ⟨s2, i', y, rfl, hi', hu'⟩
      exact ⟨_, by omega, s2, i', y, rfl, rfl, hu'⟩
    · refine ⟨_, d, i, rfl, ⟨a, rfl, s1.seq hS⟩, hi, fun H3 s3 => ?_⟩
      walk_at "sx"
      have hne : d.drop i ≠ [] := by intro z; rw [List.drop_eq_nil_iff] at z; omega
      obtain ⟨k, hk⟩ : ∃ k, d.length = k + 1 := ⟨d.length - 1, by omega⟩
      have step : utf8Loop d.length (d.drop i) = if seqLen (d.drop i) = 0 then false else utf8Loop d.length (d.drop (i + seqLen (d.drop i))) := by
        conv => lhs; rw [hk]
        cases e : d.drop i with
        | nil => exact absurd e hne
        | cons c r =>
          show (if seqLen (c :: r) = 0 then false else utf8Loop k ((c :: r).drop (seqLen (c :: r)))) = _
          by_cases z : seqLen (c :: r) = 0
          · rw [if_pos z, if_pos z]
          · rw [if_neg z, if_neg z, ← e, List.drop_drop]
            have hl : ((d.drop (i + seqLen (d.drop i))) : List Nat).length ≤ k := by
              rw [List.length_drop]; rw [← e] at z; omega
            exact utf8_fuel _ _ _ hl (by omega)
      refine ite2 (fun z => ?_) (fun z => ?_)
      · have z' : seqLen (d.drop i) = 0 := by simpa using z
        rw [if_pos z'] at step
        have q := q _ (s1.trans s3)
        rw [hu, step] at q
        exact q
      · have z' : ¬ seqLen (d.drop i) = 0 := by simpa using z
        rw [if_neg z'] at step
        refine ⟨_, rfl, _, rfl, _, _, rfl, rfl, s1.trans s3, i + seqLen (d.drop i), some (.int (seqLen (d.drop i) : Nat)), by simp, by omega, hu.trans step⟩
  · rw [decide_eq_true_eq] at h
    have e : d.drop i = [] := by rw [List.drop_eq_nil_iff]; omega
    rw [e] at hu
    have q := q _ s1
    rw [hu, show utf8Loop d.length [] = true by cases d.length <;> rfl] at q
    exact q
end
end Bt

namespace Bt
open PySem PySem.Spec PyProof.Rows L2
local macro_rules | `(tactic| walk_at "sx") => `(tactic| simp only [cxK, tTru, rLen, rListOf, rTupOf, tRet, tRetN, tChain, tRng, tCB, tCons, tNil, tC, tVar, tOp, tUn, tTest, tB, tAnd, tOr, tNot, tIfS, tSeq, tIf, tOrV, tAndV, tNotV, tCall, tSl, tPart, tNoPart, tLst, tTup, tBM, tBM0, rExtendS, iList, iTup, rIxL, rIxT, rSlL, rAppend, rExtend, rCat, rI0, rEq, rNe, rU, tAsg, gName, tDrop, tNext, scal, L2.start, List.map_cons, List.map_nil, List.length_cons, List.length_nil, Nat.reduceAdd, Nat.reduceSub, List.replicate_succ, List.replicate_zero, List.append_nil, List.cons_append, List.nil_append, List.getElem?_cons_zero, List.getElem?_cons_succ, Option.some.injEq, exists_eq_left', exists_eq_left, V.int.injEq, V.bl.injEq, V.str.injEq, V.ref.injEq, List.cons.injEq, and_true, true_and, exists_and_left, List.set_cons_zero, List.set_cons_succ, spN1_run])
local macro_rules | `(tactic| walk_at "sm") => `(tactic| (repeat (first | exact Same.refl _ | assumption | (refine Same.trans ?_ (same_new (by assumption))) | (refine Same.trans ?_ (by assumption)))))
section
variable {P : Program} {w : World} {K : PySem.W.Frag} {mg : Str → Option Value} {base : Heap}
/-! ### pieces -/
def addPiece (ps : List (List Nat)) (b : Nat) : List (List Nat) := match ps.getLast? with
  | some p => (match p.getLast? with
    | some c => if Kh450.isWhite c = Kh450.isWhite b then ps.dropLast ++ [p ++ [b]] else ps ++ [[b]]
    | none => ps ++ [[b]])
  | none => ps ++ [[b]]
def pieces (l : List Nat) : List (List Nat) := l.foldl addPiece []
theorem pieces_snoc (l : List Nat) (b : Nat) : pieces (l ++ [b]) = addPiece (pieces l) b := by
  unfold pieces
  rw [List.foldl_append]
  rfl
def spPieces (K : PySem.W.Frag) : Sp := spG (fun l vs G => ∃ v, vs = [v] ∧ Lr K l v G ∧ l.length ≤ 1000000) (fun l => Lss (pieces l))
theorem addPiece_nil (b : Nat) : addPiece [] b = [[b]] := rfl
theorem addPiece_snoc (qs : List (List Nat)) (p : List Nat) (c b : Nat) : addPiece (qs ++ [p ++ [c]]) b = if Kh450.isWhite c = Kh450.isWhite b then qs ++ [(p ++ [c]) ++ [b]] else (qs ++ [p ++ [c]]) ++ [[b]] := by
  unfold addPiece
  simp
/-- the pieces as they lie: all but the last one published -/
def PcAt (G H0 H : Hp) (F : Addr) (n : Nat) (ps : List (List Nat)) : Prop := G F = none ∧ H0 F = none ∧ ((ps = [] ∧ H F = some (.lst [])) ∨
  ∃ qs p vs l, ps = qs ++ [p] ∧ p ≠ [] ∧ p.length ≤ n ∧ qs.length < n ∧ H F = some (.lst (vs ++ [.ref l])) ∧ Paired (fun l v => Ls l v G) qs vs ∧ H l = some (.lst (nV p)) ∧ G l = none ∧ H0 l = none ∧ l ≠ F)
abbrev s_pieces : Stmt := top 16
theorem sc_pieces : FnScope ["text", "found", "byte"] ["text"] (defScope s_pieces) := ⟨rfl, rfl, rfl, by decide +kernel, rfl, by decide +kernel, by decide +kernel⟩

theorem ok_pieces (D : Dn K mg "pieces" s_pieces ["text"]) (o_is_space : OwnOk P w K mg base CX0 1 "is_space" ["byte"] (spN1 fun n => .bl (Kh450.isWhite n))) : OwnOk P w K mg base CX0 2 "pieces" ["text"] (spPieces K) := by
  refine own_ok D sc_pieces (fun _ _ _ _ h => by obtain ⟨G, l, _, ⟨v, rfl, _⟩, _⟩ := h; rfl) (fun f cdv A outer s H vs Q E hr h => ⟨_, (pss_cons (ps_set (i := 1) sc_pieces.nd rfl (by first | exact Or.inl rfl | exact Or.inr rfl) (pe_lst pa_nil))
    (pss_cons (ps_for PassesOwn.never rfl (kpi_list (K := K) rfl (pv 0)) (pg_name (i := 2) sc_pieces.nd rfl (by first | exact Or.inl rfl | exact Or.inr rfl))
    (pss_one (ps_if (PW.pt (pw_and (kpt_truth (K := K) rfl (pv 1)) (pw_and1 (pt_cmpR op_eq (pe_own o_is_space (hr.mono (by omega)) rfl pass0 (pa_cons (pe_ix (kix_list (K := K) rfl) (pe_ix (kix_list (K := K) rfl) (pv 1) (pe_un un_neg pe_int) (fun _ _ => rfl)) (pe_un un_neg pe_int) (fun _ _ => rfl)) pa_nil)) (pe_own o_is_space (hr.mono (by omega)) rfl pass0 (pa_cons (pv 2) pa_nil)) (nomark _))))) (pss_one (ps_expr (kpe_bm (K := K) rfl PySem.F.plainAttrs_list PySem.F.slot_list_append PySem.F.type_list_append mt_append (pe_ix (kix_list (K := K) rfl) (pv 1) (pe_un un_neg pe_int) (fun _ _ => rfl)) (pa_cons (pv 2) pa_nil)))) (pss_one (ps_expr (kpe_bm (K := K) rfl PySem.F.plainAttrs_list PySem.F.slot_list_append PySem.F.type_list_append mt_append (pv 1) (pa_cons (pe_lst (pa_cons (pv 2) pa_nil)) pa_nil)))))))
    (pss_one (ps_ret (pv 1))))), ?_⟩)
  obtain ⟨G, l, sG, ⟨v, rfl, ⟨a, rfl, hS⟩, hlen⟩, q⟩ := h
  walk_at "sx"
  refine ⟨Nat.zero_le _, fun F hF => ?_⟩
  have e0 : Ext G H G (upd H F (.lst [])) := (Ext.refl sG).priv hF
  have hSF : SqL K (upd H F (.lst [])) a (nV l) := e0.same.seq (sG.seq hS)
  refine ⟨_, rfl, a, rfl, ⟨_, hSF⟩, for_list (xs := nV l) (fun i σ' H' => i ≤ l.length ∧ ∃ G' x, σ' = [some (.ref a), some (.ref F), x] ∧ Ext G H G' H' ∧ PcAt G' H H' F i (pieces (l.take i)))
    ⟨Nat.zero_le _, G, _, rfl, e0, sG.free hF, hF, .inl ⟨rfl, upd_same⟩⟩ (fun i σ' H' _ ⟨_, G', x, _, e, _⟩ => e.same.seq (sG.seq hS)) ?_ ?_⟩
  · rintro i x σ' H' hx ⟨hi, G', y, rfl, e, gF, hF', pc⟩
    obtain ⟨b, hb, rfl⟩ := nV_get hx
    have hi' : i < l.length := (List.getElem?_eq_some_iff.mp hb).1
    walk_at "sx"
    rw [take_at hb, pieces_snoc]
    rcases pc with ⟨hp, hFl⟩ | ⟨qs, p, vs, m, hp, hpn, hpl, hql, hFl, hpv, hm, gm, hm0, hmF⟩
    · refine ⟨_, truL (SqL.of hFl), iteF (iteF ?_)⟩
      refine ⟨tyL (SqL.of hFl), by decide, fun r hr => ?_⟩
      have hrF : r ≠ F := fun z => by rw [z, hFl] at hr; cases hr
      refine ⟨_, (upd_ne hrF.symm).trans hFl, by decide, hi', G', ((e.priv hr).mut hF' gF), gF, hF', .inr ⟨[], [b], [], r, ?_, by simp, by simp, by simp, ?_, .nil, ?_, e.gnone hr, e.same.free hr, hrF⟩⟩
      · rw [hp]; rfl
      · exact upd_same
      · rw [upd_ne hrF, upd_same]; rfl
    · obtain ⟨p0, c, rfl⟩ : ∃ p0 c, p = p0 ++ [c] := ⟨p.dropLast, p.getLast hpn, (List.dropLast_concat_getLast hpn).symm⟩
      have hFs : SqL K H' F (vs ++ [.ref m]) := SqL.of hFl
      refine ⟨_, truL hFs, ?_⟩
      rw [show (vs ++ [V.ref m]).isEmpty = false by cases vs <;> rfl]
      refine iteT ?_
      have hcl : atI (nV (p0 ++ [c])) (-1) = some (.int (c : Int)) := by
        rw [nV_app]; exact atI_last _ _
      refine ⟨_, hFs, _, atI_last _ _, m, rfl, _, SqL.of hm, _, hcl, ?_⟩
      rw [spN1_run]
      intro H1 s1 H2 s2
      have s12 := s1.trans s2
      refine ⟨rfl, ?_⟩
      rw [hp, addPiece_snoc]
      have hF2 : H2 F = some (.lst (vs ++ [.ref m])) := s12 _ _ hFl
      have hm2 : H2 m = some (.lst (nV (p0 ++ [c]))) := s12 _ _ hm
      have e2 : Ext G H G' H2 := e.heap s12
      by_cases hw : Kh450.isWhite c = Kh450.isWhite b
      · rw [if_pos hw, hw]
        refine ite2 (fun _ => ?_) (fun z => absurd (decide_eq_true rfl) z)
        refine ⟨_, SqL.of hF2, _, atI_last _ _, tyL (SqL.of hm2), m, rfl, _, hm2, ?_, hi', G', e2.mut hm0 gm, gF, hF', .inr ⟨qs, (p0 ++ [c]) ++ [b], vs, m, rfl, by simp, ?_, by omega, ?_, hpv, ?_, gm, hm0, hmF⟩⟩
        · rw [List.length_map]; exact lt_line (by omega)
        · simp at hpl ⊢; omega
        · rw [upd_ne hmF.symm]; exact hF2
        · rw [upd_same]; simp [List.map_append]
      · rw [if_neg hw]
        refine ite2 (fun z => absurd (by simpa using z) hw) (fun _ => ?_)
        refine ⟨tyL (SqL.of hF2), by decide, fun r hr => ?_⟩
        have hrF : r ≠ F := fun z => by rw [z, hF2] at hr; cases hr
        have hrm : r ≠ m := fun z => by rw [z, hm2] at hr; cases hr
        have e3 : Ext G H (upd G' m (.lst (nV (p0 ++ [c])))) H2 := e2.pub hm0 hm2
        have gF3 : upd G' m (.lst (nV (p0 ++ [c]))) F = none := by rw [upd_ne hmF.symm]; exact gF
        refine ⟨_, (upd_ne hrF.symm).trans hF2, ?_, hi', upd G' m (.lst (nV (p0 ++ [c]))), ((e3.priv hr).mut hF' gF3), gF3, hF', .inr ⟨qs ++ [p0 ++ [c]], [b], vs ++ [.ref m], r, rfl, by simp, by simp, by simp; omega, upd_same, ?_, ?_, ?_, e2.same.free hr, hrF⟩⟩
        · have := Paired.length hpv
          exact lt_line (by simp; omega)
        · exact (paired_same (fun _ _ _ _ s q => q.same s) (same_new gm) hpv).snoc ⟨m, rfl, upd_same⟩
        · rw [upd_ne hrF, upd_same]; rfl
        · rw [upd_ne hrm]; exact e2.gnone hr
  · rintro σ' H' ⟨_, G', x, rfl, e, gF, hF', pc⟩
    rw [List.length_map, List.take_length] at pc
    refine ⟨_, rfl, ?_⟩
    rcases pc with ⟨hp, hFl⟩ | ⟨qs, p, vs, m, hp, hpn, hpl, hql, hFl, hpv, hm, gm, hm0, hmF⟩
    · refine q _ _ _ (e.pub hF' hFl) ⟨F, [], rfl, upd_same, ?_⟩
      rw [hp]
      exact .nil
    · have e3 := (e.pub hm0 hm).pub hF' hFl
      refine q _ _ _ e3 ⟨F, _, rfl, upd_same, ?_⟩
      rw [hp]
      have gF3 : upd G' m (.lst (nV p)) F = none := by rw [upd_ne hmF.symm]; exact gF
      refine Paired.snoc (paired_same (fun _ _ _ _ s q => q.same s) ((same_new gm).trans (same_new gF3)) hpv) ⟨m, rfl, ?_⟩
      rw [upd_ne hmF, upd_same]

/-! ### joined -/
theorem joinTexts_snoc (sep : List Nat) : ∀ (ls : List (List Nat)) (t : List Nat), ls ≠ [] → Kh450.joinTexts sep (ls ++ [t]) = Kh450.joinTexts sep ls ++ (sep ++ t)
  | [], _, h => absurd rfl h
  | [a], t, _ => by simp [Kh450.joinTexts]
  | a :: b :: r, t, _ => by
    have ih := joinTexts_snoc sep (b :: r) t (by simp)
    show a ++ sep ++ Kh450.joinTexts sep (b :: r ++ [t]) = a ++ sep ++ Kh450.joinTexts sep (b :: r) ++ (sep ++ t)
    rw [ih]
    simp [List.append_assoc]
theorem joinTexts_take_le (sep : List Nat) : ∀ (ls : List (List Nat)) (i : Nat), (Kh450.joinTexts sep (ls.take i)).length ≤ (Kh450.joinTexts sep ls).length
  | [], i => by simp
  | [a], i => by cases i <;> simp [Kh450.joinTexts]
  | a :: b :: r, 0 => by simp [Kh450.joinTexts]
  | a :: b :: r, 1 => by simp [Kh450.joinTexts]
  | a :: b :: r, i + 2 => by
    have ih := joinTexts_take_le sep (b :: r) (i + 1)
    show (a ++ sep ++ Kh450.joinTexts sep ((b :: r).take (i + 1))).length ≤ (a ++ sep ++ Kh450.joinTexts sep (b :: r)).length
    simp only [List.length_append]
    omega
def spJoined : Sp := spG (fun (x : List (List Nat) × List Nat) vs G => ∃ v u, vs = [v, u] ∧ Sqs x.1 v G ∧ Ls x.2 u G ∧ (Kh450.joinTexts x.2 x.1).length ≤ 1000000) (fun x => Ls (Kh450.joinTexts x.2 x.1))
abbrev s_joined : Stmt := top 18
theorem sc_joined : FnScope ["texts", "separator", "whole", "place", "text"] ["texts", "separator"] (defScope s_joined) := ⟨rfl, rfl, rfl, by decide +kernel, rfl, by decide +kernel, by decide +kernel⟩

theorem ok_joined (D : Dn K mg "joined" s_joined ["texts", "separator"]) (n_enumerate : mg "enumerate" = none) : OwnOk P w K mg base CX0 1 "joined" ["texts", "separator"] spJoined := by
  refine own_ok D sc_joined (fun _ _ _ _ h => by obtain ⟨G, l, _, ⟨v, u, rfl, _⟩, _⟩ := h; rfl) (fun f cdv A outer s H vs Q E hr h => ⟨_, (pss_cons (ps_set (i := 2) sc_joined.nd rfl (by first | exact Or.inl rfl | exact Or.inr rfl) (pe_lst pa_nil))
    (pss_cons (ps_for PassesOwn.never rfl (kpi_enum (K := K) rfl (by rfl) n_enumerate (pa_cons (pv 0) pa_nil)) (kpg_tup (K := K) rfl rfl (pgs_cons (pg_name (i := 3) sc_joined.nd rfl (by first | exact Or.inl rfl | exact Or.inr rfl)) (pgs_cons (pg_name (i := 4) sc_joined.nd rfl (by first | exact Or.inl rfl | exact Or.inr rfl)) pgs_nil)))
    (pss_cons (ps_if (pt_cmpR op_gt (pv 3) pe_int (nomark _)) (pss_one (ps_expr (kpe_bm (K := K) rfl PySem.F.plainAttrs_list PySem.F.slot_list_extend PySem.F.type_list_extend mt_extendS (pv 2) (pa_cons (pv 1) pa_nil)))) pss_nil)
    (pss_one (ps_expr (kpe_bm (K := K) rfl PySem.F.plainAttrs_list PySem.F.slot_list_extend PySem.F.type_list_extend mt_extendS (pv 2) (pa_cons (pv 4) pa_nil))))))
    (pss_one (ps_ret (pv 2))))), ?_⟩)
  obtain ⟨G, ⟨ls, sep⟩, sG, ⟨v, u, rfl, ⟨a, vs, rfl, ha, hp⟩, ⟨b, rfl, hb⟩, hlen⟩, q⟩ := h
  simp only at hlen q hp hb
  walk_at "sx"
  refine ⟨Nat.zero_le _, fun F hF => ?_⟩
  have e0 : Ext G H G (upd H F (.lst [])) := (Ext.refl sG).priv hF
  have hab : a ≠ F := fun z => by rw [← z, sG _ _ ha] at hF; cases hF
  have hbF : b ≠ F := fun z => by rw [← z, sG _ _ hb] at hF; cases hF
  refine ⟨_, rfl, a, vs, rfl, SqL.of (e0.sub _ _ ha), for_enum (xs := vs) (fun i σ' H' => i ≤ vs.length ∧ ∃ x y, σ' = [some (.ref a), some (.ref b), some (.ref F), x, y] ∧ Ext G H G H' ∧ H' F = some (.lst (nV (Kh450.joinTexts sep (ls.take i)))))
    ⟨Nat.zero_le _, _, _, rfl, e0, upd_same⟩ (fun i σ' H' _ ⟨_, x, y, _, e, _⟩ => SqL.of (e.sub _ _ ha)) ?_ ?_⟩
  · rintro i x σ' H' T hx ⟨hi, y, z, rfl, e, hFl⟩ hT
    obtain ⟨t, ht, ⟨c, rfl, hc⟩⟩ := Paired.at hp hx
    have hi' : i < vs.length := (List.getElem?_eq_some_iff.mp hx).1
    have hTF : T ≠ F := fun z => by rw [z, hFl] at hT; cases hT
    have hcF : c ≠ F := fun z => by
      subst z
      rcases hc with hc | hc <;> (rw [sG _ _ hc] at hF; cases hF)
    have hbT : b ≠ T := fun z => by rw [← z, e.sub _ _ hb] at hT; cases hT
    have hcT : c ≠ T := fun z => by
      subst z
      rcases hc with hc | hc <;> (rw [e.sub _ _ hc] at hT; cases hT)
    have eT : Ext G H G (upd H' T (.tup [.int (i : Int), .ref c])) := e.priv hT
    have hlt := joinTexts_take_le sep ls (i + 1)
    rw [take_at ht] at hlt ⊢
    refine ⟨T, _, rfl, SqT.of upd_same, rfl, _, _, rfl, _, _, rfl, rfl, ?_⟩
    walk_at "sx"
    have hFT : (upd H' T (.tup [.int (i : Int), .ref c])) F = some (.lst (nV (Kh450.joinTexts sep (ls.take i)))) := (upd_ne hTF.symm).trans hFl
    have hcH : ∀ {H2 : Hp}, Same G H2 → (H2 c = some (.lst (nV t)) ∨ H2 c = some (.tup (nV t))) := fun s2 => hc.imp (s2 _ _) (s2 _ _)
    by_cases h0 : i = 0
    · subst h0
      refine ite2 (fun z => by simp at z) (fun _ => ?_)
      refine ⟨tyL (SqL.of hFT), _, hFT, nV t, hcH eT.sub, ?_, hi', _, _, ⟨rfl, rfl⟩, eT.mut hF (sG.free hF), ?_⟩
      · rw [List.length_map, List.length_map]
        exact le_line (by simp [Kh450.joinTexts] at hlt ⊢; omega)
      · rw [upd_same]
        simp [Kh450.joinTexts]
    · refine ite2 (fun _ => ?_) (fun z => by simp at z; omega)
      have hne : ls.take i ≠ [] := fun z => by
        rcases List.take_eq_nil_iff.mp z with z | z
        · exact h0 z
        · rw [z] at ht; cases ht
      rw [joinTexts_snoc _ _ _ hne] at hlt ⊢
      simp only [List.length_append] at hlt
      refine ⟨tyL (SqL.of hFT), _, hFT, nV sep, .inl (eT.sub _ _ hb), ?_, ?_⟩
      · rw [List.length_map, List.length_map]
        exact le_line (by omega)
      have eM := eT.mut (o := .lst (nV (Kh450.joinTexts sep (ls.take i)) ++ nV sep)) hF (sG.free hF)
      refine ⟨tyL (SqL.of upd_same), _, upd_same, nV t, hcH eM.sub, ?_, hi', _, _, ⟨rfl, rfl⟩, eM.mut hF (sG.free hF), ?_⟩
      · rw [List.length_append, List.length_map, List.length_map, List.length_map]
        exact le_line (by omega)
      · rw [upd_same]
        simp [List.append_assoc]
  · rintro σ' H' ⟨_, x, y, rfl, e, hFl⟩
    have e' : ls.take vs.length = ls := by rw [← Paired.length hp]; exact List.take_length
    rw [e'] at hFl
    exact ⟨_, rfl, q _ _ _ (e.pub hF hFl) ⟨F, rfl, upd_same⟩⟩
end
end Bt

namespace Bt
open PySem PySem.Spec PyProof.Rows L2
local macro_rules | `(tactic| walk_at "sx") => `(tactic| simp only [cxK, tTru, rLen, rListOf, rTupOf, tRet, tRetN, tChain, tRng, tCB, tCons, tNil, tC, tVar, tOp, tUn, tTest, tB, tAnd, tOr, tNot, tIfS, tSeq, tIf, tOrV, tAndV, tNotV, tCall, tSl, tPart, tNoPart, tLst, tTup, tBM, tBM0, rExtendS, iList, iTup, rIxL, rIxT, rSlL, rAppend, rExtend, rCat, rI0, rEq, rNe, rU, tAsg, gName, tDrop, tNext, scal, L2.start, List.map_cons, List.map_nil, List.length_cons, List.length_nil, Nat.reduceAdd, Nat.reduceSub, List.replicate_succ, List.replicate_zero, List.append_nil, List.cons_append, List.nil_append, List.getElem?_cons_zero, List.getElem?_cons_succ, Option.some.injEq, exists_eq_left', exists_eq_left, V.int.injEq, V.bl.injEq, V.str.injEq, V.ref.injEq, List.cons.injEq, and_true, true_and, exists_and_left, List.set_cons_zero, List.set_cons_succ, spN1_run])
local macro_rules | `(tactic| walk_at "sm") => `(tactic| (repeat (first | exact Same.refl _ | assumption | (refine Same.trans ?_ (same_new (by assumption))) | (refine Same.trans ?_ (by assumption)))))
section
variable {P : Program} {w : World} {K : PySem.W.Frag} {mg : Str → Option Value} {base : Heap}
theorem all_paired_any {α : Type} {R : α → V → Hp → Prop} (h : ∀ a v H, R a v H) : True := trivial
/-! ### ascii_bytes -/
def spAscii : Sp := spG (fun (z : Str) vs _ => vs = [.str z] ∧ z.length ≤ 1000000) (fun z => Ls z.cps.toList)
def Sg (c : Nat) (v : V) (_H : Hp) : Prop := v = .str ⟨#[c]⟩
theorem paired_sg {H : Hp} : ∀ l : List Nat, Paired (fun c v => Sg c v H) l (l.map fun c => V.str ⟨#[c]⟩)
  | [] => .nil
  | c :: r => .cons rfl (paired_sg r)
theorem filter_yes {α : Type} (l : List α) : l.filter (fun _ => true) = l := List.filter_eq_self.mpr fun _ _ => rfl
abbrev s_ascii_bytes : Stmt := top 5
theorem sc_ascii_bytes : FnScope ["text", "sign"] ["text"] (defScope s_ascii_bytes) := ⟨rfl, rfl, rfl, by decide +kernel, rfl, by decide +kernel, by decide +kernel⟩

theorem ok_ascii_bytes (D : Dn K mg "ascii_bytes" s_ascii_bytes ["text"]) (n_ord : mg "ord" = none) : OwnOk P w K mg base CX0 1 "ascii_bytes" ["text"] spAscii := by
  refine own_ok D sc_ascii_bytes (fun _ _ _ _ h => by obtain ⟨G, l, _, ⟨rfl, _⟩, _⟩ := h; rfl) (fun f cdv A outer s H vs Q E hr h => ⟨_, (pss_one (ps_ret (pe_lc (own := [("sign", 1)]) (g := gName 1) (tt := tYes) rfl sc_ascii_bytes.nd (pi_str (pv 0)) (blkOk_by (N := ["text", "sign"]) (sc := defScope s_ascii_bytes) (by decide +kernel)) (fun _ _ _ _ _ => pg_name (i := 1) sc_ascii_bytes.nd rfl (Or.inl rfl)) (fun _ _ _ _ _ => pts_nil) (fun _ _ _ _ _ => (pe_callB call_ord (by rfl) n_ord (by decide +kernel) (pa_cons (pv 1) pa_nil)))))), ?_⟩)
  obtain ⟨G, z, sG, ⟨rfl, hlen⟩, q⟩ := h
  refine ⟨_, rfl, z, rfl, fun F hF => lc_ofS (z := z) (R := Sg) Nm (fun _ => true) id sG (paired_sg _) (by rw [List.length_map]; exact lt_line (by rw [Array.length_toList]; exact hlen)) hF (fun _ _ _ _ _ h => h) Nm.same (fun _ => rfl) (fun c x G' H' _ e hx Q' k => k _ (Same.refl _)) (fun c x G' H' _ e hx _ Q' k => ?_) (fun G' H' ys e hF' gF hy => ?_)⟩
  · obtain rfl : x = _ := hx
    refine ⟨_, rfl, _, rfl, rfl, k _ _ _ (Ext.refl e.sub) rfl⟩
  · rw [filter_yes, List.map_id] at hy
    rw [paired_of_nV hy] at hF'
    exact q _ _ _ (e.pub hF hF') ⟨F, rfl, upd_same⟩
/-! ### words -/
def words (l : List Nat) : List (List Nat) := (pieces l).filter fun p => !Kh450.isWhite (p.headD 0)
def PcOk (ps : List (List Nat)) : Prop := ∀ p ∈ ps, p ≠ []
theorem addPiece_ok {ps : List (List Nat)} (b : Nat) (h : PcOk ps) : PcOk (addPiece ps b) := by
  unfold addPiece
  intro p hp
  split at hp
  · split at hp
    · split at hp
      · rcases List.mem_append.mp hp with hp | hp
        · exact h p (List.dropLast_subset _ hp)
        · simp at hp; subst hp; simp
      · rcases List.mem_append.mp hp with hp | hp
        · exact h p hp
        · simp at hp; subst hp; simp
    · rcases List.mem_append.mp hp with hp | hp
      · exact h p hp
      · simp at hp; subst hp; simp
  · rcases List.mem_append.mp hp with hp | hp
    · exact h p hp
    · simp at hp; subst hp; simp
theorem foldl_ok : ∀ (l : List Nat) (ps : List (List Nat)), PcOk ps → PcOk (l.foldl addPiece ps)
  | [], _, h => h
  | b :: r, ps, h => foldl_ok r _ (addPiece_ok b h)
theorem pieces_ok (l : List Nat) : PcOk (pieces l) := foldl_ok l [] (fun _ h => by cases h)
theorem addPiece_size (ps : List (List Nat)) (b : Nat) : (addPiece ps b).length ≤ ps.length + 1 := by
  unfold addPiece
  split
  · split
    · split
      · simp
      · simp
    · simp
  · simp
theorem pieces_size : ∀ (l : List Nat) (ps : List (List Nat)), (l.foldl addPiece ps).length ≤ ps.length + l.length
  | [], _ => by simp
  | b :: r, ps => by
    have := pieces_size r (addPiece ps b)
    have := addPiece_size ps b
    simp only [List.foldl_cons, List.length_cons]
    omega
def spWords (K : PySem.W.Frag) : Sp := spG (fun l vs G => ∃ v, vs = [v] ∧ Lr K l v G ∧ l.length ≤ 1000000) (fun l => Lss (words l))
abbrev s_words : Stmt := top 17
theorem sc_words : FnScope ["text", "piece"] ["text"] (defScope s_words) := ⟨rfl, rfl, rfl, by decide +kernel, rfl, by decide +kernel, by decide +kernel⟩

theorem ok_words (D : Dn K mg "words" s_words ["text"]) (o_is_space : OwnOk P w K mg base CX0 1 "is_space" ["byte"] (spN1 fun n => .bl (Kh450.isWhite n))) (o_pieces : OwnOk P w K mg base CX0 2 "pieces" ["text"] (spPieces K)) :
    OwnOk P w K mg base CX0 3 "words" ["text"] (spWords K) := by
  refine own_ok D sc_words (fun _ _ _ _ h => by obtain ⟨G, l, _, ⟨v, rfl, _⟩, _⟩ := h; rfl) (fun f cdv A outer s H vs Q E hr h => ⟨_, (pss_one (ps_ret (pe_lc (own := [("piece", 1)]) (g := gName 1) (tt := _) rfl sc_words.nd (kpi_list (K := K) rfl (pe_own o_pieces (hr.mono (by omega)) rfl pass0 (pa_cons (pv 0) pa_nil))) (blkOk_by (N := ["text", "piece"]) (sc := defScope s_words) (by decide +kernel)) (fun _ _ _ _ _ => pg_name (i := 1) sc_words.nd rfl (Or.inl rfl)) (fun _ _ _ _ _ => pts_one (pt_not (pt_val (pe_own o_is_space (hr.mono (by omega)) rfl pass0 (pa_cons (pe_ix (kix_list (K := K) rfl) (pv 1) pe_int (fun _ _ => rfl)) pa_nil))))) (fun _ _ _ _ _ => (pv 1))))), ?_⟩)
  obtain ⟨G, l, sG, ⟨v, rfl, hv, hlen⟩, q⟩ := h
  refine ⟨_, rfl, G, l, sG, ⟨v, rfl, hv, hlen⟩, fun y G1 H1 e1 hy => ?_⟩
  obtain ⟨a, vs, rfl, ha, hp⟩ := hy
  have hsz : vs.length ≤ l.length := by rw [← Paired.length hp]; simpa [pieces] using pieces_size l []
  refine ⟨a, rfl, ⟨_, SqL.of (e1.sub _ _ ha)⟩, fun F hF => lc_of (R := Ls) Ls (fun p => !Kh450.isWhite (p.headD 0)) id (SqL.of (e1.sub _ _ ha)) e1.sub hp (lt_line (by omega)) hF (fun _ _ _ _ s h => h.same s) (fun _ _ _ _ s h => h.same s) (fun _ => rfl) (fun p x G' H' hm e hx Q' k => ?_) (fun p x G' H' hm e hx _ Q' k => ?_) (fun G' H' ys e hF' gF hy => ?_)⟩
  · obtain ⟨m, rfl, hm'⟩ := hx
    cases p with
    | nil => exact absurd rfl (pieces_ok l [] hm)
    | cons c r =>
      refine ⟨_, rfl, m, _, 0, .int (c : Int), rfl, rfl, SqL.of (e.sub _ _ hm'), atI_nat (j := 0) rfl, c, rfl, fun H2 s2 => ?_⟩
      exact ⟨_, rfl, k _ s2⟩
  · exact ⟨_, rfl, k _ _ _ (Ext.refl e.sub) hx⟩
  · rw [List.map_id] at hy
    exact q _ _ _ (e1.trans (e.pub hF hF')) ⟨F, ys, rfl, upd_same, paired_same (fun _ _ _ _ s h => h.same s) (same_new gF) hy⟩
/-! ### slugs -/
def lowerB (b : Nat) : Nat := if Kh450.isUpper b then b + 32 else b
abbrev s_lower_byte : Stmt := top 23
theorem sc_lower_byte : FnScope ["byte"] ["byte"] (defScope s_lower_byte) := ⟨rfl, rfl, rfl, by decide +kernel, rfl, by decide +kernel, by decide +kernel⟩

theorem ok_lower_byte (D : Dn K mg "lower_byte" s_lower_byte ["byte"]) (n_ord : mg "ord" = none) (o_is_uppercase : OwnOk P w K mg base CX0 1 "is_uppercase" ["byte"] (spN1 fun n => .bl (Kh450.isUpper n))) : OwnOk P w K mg base CX0 2 "lower_byte" ["byte"] (spN1 fun n => .int (lowerB n : Nat)) := by
  refine own_ok D sc_lower_byte (fun _ _ _ _ h => spN1_len h) (fun f cdv A outer s H vs Q E hr h => ⟨_, (pss_one (ps_ret (pe_ifExp (pt_val (pe_own o_is_uppercase (hr.mono (by omega)) rfl pass0 (pa_cons (pv 0) pa_nil))) (pe_op op_sub (pe_op op_add (pv 0) (pe_ordL 97 n_ord)) (pe_ordL 65 n_ord)) (pv 0)))), ?_⟩)
  obtain ⟨n, rfl, q⟩ := h
  simp only [lowerB] at q
  walk_at "sx"
  intro H1 s1
  have q := q _ s1
  cases hu : Kh450.isUpper n
  · rw [hu] at q; exact iteF q
  · rw [hu] at q
    exact iteT (fin_int (by simp; omega) q)
def slugWord (l : List Nat) : List Nat := (l.filter isLD).map lowerB
def spSlugWord : Sp := spG (fun l vs G => ∃ v, vs = [v] ∧ Ls l v G ∧ l.length ≤ 1000000) (fun l => Ls (slugWord l))
abbrev s_slug_word : Stmt := top 22
theorem sc_slug_word : FnScope ["word", "byte"] ["word"] (defScope s_slug_word) := ⟨rfl, rfl, rfl, by decide +kernel, rfl, by decide +kernel, by decide +kernel⟩

theorem ok_slug_word (D : Dn K mg "slug_word" s_slug_word ["word"]) (o_is_letter_or_digit : OwnOk P w K mg base CX0 2 "is_letter_or_digit" ["byte"] (spN1 fun n => .bl (isLD n))) (o_lower_byte : OwnOk P w K mg base CX0 2 "lower_byte" ["byte"] (spN1 fun n => .int (lowerB n : Nat))) :
    OwnOk P w K mg base CX0 3 "slug_word" ["word"] spSlugWord := by
  refine own_ok D sc_slug_word (fun _ _ _ _ h => by obtain ⟨G, l, _, ⟨v, rfl, _⟩, _⟩ := h; rfl) (fun f cdv A outer s H vs Q E hr h => ⟨_, (pss_one (ps_ret (pe_lc (own := [("byte", 1)]) (g := gName 1) (tt := _) rfl sc_slug_word.nd (kpi_list (K := K) rfl (pv 0)) (blkOk_by (N := ["word", "byte"]) (sc := defScope s_slug_word) (by decide +kernel)) (fun _ _ _ _ _ => pg_name (i := 1) sc_slug_word.nd rfl (Or.inl rfl)) (fun _ _ _ _ _ => pts_one (pt_val (pe_own o_is_letter_or_digit (hr.mono (by omega)) rfl pass0 (pa_cons (pv 1) pa_nil)))) (fun _ _ _ _ _ => (pe_own o_lower_byte (hr.mono (by omega)) rfl pass0 (pa_cons (pv 1) pa_nil)))))), ?_⟩)
  obtain ⟨G, l, sG, ⟨v, rfl, ⟨a, rfl, ha⟩, hlen⟩, q⟩ := h
  refine ⟨_, rfl, a, rfl, ⟨_, SqL.of (sG _ _ ha)⟩, fun F hF => lc_of (R := Nm) Nm isLD lowerB (SqL.of (sG _ _ ha)) sG (paired_nV l) (by rw [List.length_map]; exact lt_line hlen) hF Nm.same Nm.same (fun _ => rfl) (fun c x G' H' hm e hx Q' k => ?_) (fun c x G' H' hm e hx _ Q' k => ?_) (fun G' H' ys e hF' gF hy => ?_)⟩
  · obtain rfl : x = _ := hx
    exact ⟨_, rfl, c, rfl, fun H2 s2 => ⟨_, rfl, k _ s2⟩⟩
  · obtain rfl : x = _ := hx
    exact ⟨_, rfl, c, rfl, fun H2 s2 => k _ _ _ ((Ext.refl e.sub).heap s2) rfl⟩
  · rw [paired_of_nV hy] at hF'
    exact q _ _ _ (e.pub hF hF') ⟨F, rfl, upd_same⟩
abbrev s_with_length : Stmt := top 25
theorem sc_with_length : FnScope ["data"] ["data"] (defScope s_with_length) := ⟨rfl, rfl, rfl, by decide +kernel, rfl, by decide +kernel, by decide +kernel⟩

def spWithLen : Sp := spG (fun l vs G => ∃ v, vs = [v] ∧ Ls l v G ∧ l.length ≤ 900000) (fun l => Ls (l.length :: l))
theorem ok_with_length (D : Dn K mg "with_length" s_with_length ["data"]) (n_len : mg "len" = none) : OwnOk P w K mg base CX0 1 "with_length" ["data"] spWithLen := by
  refine own_ok D sc_with_length (fun _ _ _ _ h => by obtain ⟨G, l, _, ⟨v, rfl, _⟩, _⟩ := h; rfl) (fun f cdv A outer s H vs Q E hr h => ⟨_, (pss_one (ps_ret (pe_op op_cat (pe_lst (pa_cons (pe_callB (kcall_len (K := K) rfl) (by rfl) n_len PySem.boot_len (pa_cons (pv 0) pa_nil)) pa_nil)) (pv 0)))), ?_⟩)
  obtain ⟨G, l, sG, ⟨v, rfl, ⟨a, rfl, ha⟩, hlen⟩, q⟩ := h
  refine ⟨_, rfl, a, _, rfl, .inl (SqL.of (sG _ _ ha)), Nat.le_of_lt (lt_line (by simp)), fun p hp => ?_⟩
  have e1 : Ext G H G (upd H p (.lst [.int ((nV l).length : Nat)])) := (Ext.refl sG).priv hp
  refine ⟨_, rfl, p, a, _, _, rfl, rfl, upd_same, e1.sub _ _ ha, ?_, fun r hr => ?_⟩
  · show 1 + (nV l).length ≤ _
    rw [List.length_map]; exact le_line (by omega)
  · refine q _ _ _ (e1.made hr) ⟨r, rfl, upd_same.trans ?_⟩
    simp
end
end Bt

namespace Bt
open PySem PySem.Spec PyProof.Rows L2
local macro_rules | `(tactic| walk_at "sx") => `(tactic| simp only [cxK, tTru, rLen, rListOf, rTupOf, tRet, tRetN, tChain, tRng, tCB, tCons, tNil, tC, tVar, tOp, tUn, tTest, tB, tAnd, tOr, tNot, tIfS, tSeq, tIf, tOrV, tAndV, tNotV, tCall, tSl, tPart, tNoPart, tLst, tTup, tBM, tBM0, rExtendS, iList, iTup, rIxL, rIxT, rSlL, rAppend, rExtend, rCat, rI0, rEq, rNe, rU, tAsg, gName, tDrop, tNext, scal, L2.start, List.map_cons, List.map_nil, List.length_cons, List.length_nil, Nat.reduceAdd, Nat.reduceSub, List.replicate_succ, List.replicate_zero, List.append_nil, List.cons_append, List.nil_append, List.getElem?_cons_zero, List.getElem?_cons_succ, Option.some.injEq, exists_eq_left', exists_eq_left, V.int.injEq, V.bl.injEq, V.str.injEq, V.ref.injEq, List.cons.injEq, and_true, true_and, exists_and_left, List.set_cons_zero, List.set_cons_succ, spN1_run])
local macro_rules | `(tactic| walk_at "sm") => `(tactic| (repeat (first | exact Same.refl _ | assumption | (refine Same.trans ?_ (same_new (by assumption))) | (refine Same.trans ?_ (by assumption)))))
section
variable {P : Program} {w : World} {K : PySem.W.Frag} {mg : Str → Option Value} {base : Heap}
theorem addPiece_flat (ps : List (List Nat)) (b : Nat) : (addPiece ps b).flatten = ps.flatten ++ [b] := by
  unfold addPiece
  split
  · rename_i p hp
    obtain ⟨qs, rfl⟩ := List.getLast?_eq_some_iff.mp hp
    split
    · split
      · simp
      · simp
    · simp
  · simp
theorem pieces_flat : ∀ (l : List Nat) (ps : List (List Nat)), (l.foldl addPiece ps).flatten = ps.flatten ++ l
  | [], _ => by simp
  | b :: r, ps => by rw [List.foldl_cons, pieces_flat r, addPiece_flat]; simp
theorem joinTexts_len (sep : List Nat) : ∀ ls : List (List Nat), (Kh450.joinTexts sep ls).length ≤ ls.flatten.length + ls.length * sep.length
  | [] => by simp [Kh450.joinTexts]
  | [a] => by simp [Kh450.joinTexts]
  | a :: b :: r => by
    have ih := joinTexts_len sep (b :: r)
    show (a ++ sep ++ Kh450.joinTexts sep (b :: r)).length ≤ _
    rw [List.flatten_cons, List.length_append, List.length_append, List.length_append, List.length_cons, Nat.succ_mul]
    omega
theorem flat_filter_len {α : Type} (p : List α → Bool) : ∀ ls : List (List α), ((ls.filter p).flatten).length ≤ ls.flatten.length
  | [] => by simp
  | a :: r => by
    have ih := flat_filter_len p r
    rw [List.filter_cons]
    split <;> (simp only [List.flatten_cons, List.length_append]; omega)
theorem flat_map_len {α β : Type} {f : List α → List β} (h : ∀ l, (f l).length ≤ l.length) : ∀ ls : List (List α), ((ls.map f).flatten).length ≤ ls.flatten.length
  | [] => by simp
  | a :: r => by
    have ih := flat_map_len h r
    have := h a
    simp only [List.map_cons, List.flatten_cons, List.length_append]
    omega
theorem flat_mem_len {α : Type} : ∀ {ls : List (List α)} {l : List α}, l ∈ ls → l.length ≤ ls.flatten.length
  | a :: r, l, h => by
    rw [List.flatten_cons, List.length_append]
    rcases List.mem_cons.mp h with rfl | h
    · omega
    · have := flat_mem_len h
      omega
theorem slugWord_len (l : List Nat) : (slugWord l).length ≤ l.length := by
  unfold slugWord
  rw [List.length_map]
  exact List.length_filter_le _ _
theorem words_flat (l : List Nat) : (words l).flatten.length ≤ l.length := by
  have h := flat_filter_len (fun p => !Kh450.isWhite (p.headD 0)) (pieces l)
  have e : (pieces l).flatten = l := by simpa [pieces] using pieces_flat l []
  rw [e] at h
  exact h
theorem words_len (l : List Nat) : (words l).length ≤ l.length := Nat.le_trans (List.length_filter_le _ _) (by simpa [pieces] using pieces_size l [])
def spaced (l : List Nat) : List Nat := l.map fun b => if b = 45 ∨ b = 95 then 32 else b
def slugOf (l : List Nat) : List Nat := let t := (Kh450.joinTexts [45] (((words (spaced l)).map slugWord).filter fun p => !p.isEmpty)).take 30
  if t.isEmpty then [115, 101, 99, 116, 105, 111, 110] else t
def spSlugOf (K : PySem.W.Frag) : Sp := spG (fun l vs G => ∃ v, vs = [v] ∧ Lr K l v G ∧ l.length ≤ 1000) (fun l => Ls (slugOf l))
abbrev s_slug_of : Stmt := top 21
theorem sc_slug_of : FnScope ["text", "spaced", "parts", "slug_text", "byte", "word", "part"] ["text"] (defScope s_slug_of) := ⟨rfl, rfl, rfl, by decide +kernel, rfl, by decide +kernel, by decide +kernel⟩

theorem ok_slug_of (D : Dn K mg "slug_of" s_slug_of ["text"]) (n_ord : mg "ord" = none) (c_SPACE : IsC mg "SPACE" (.int 32)) (c_LONGEST_SLUG : IsC mg "LONGEST_SLUG" (.int 30)) (o_words : OwnOk P w K mg base CX0 3 "words" ["text"] (spWords K)) (o_slug_word : OwnOk P w K mg base CX0 3 "slug_word" ["word"] spSlugWord)
    (o_joined : OwnOk P w K mg base CX0 1 "joined" ["texts", "separator"] spJoined) (o_ascii_bytes : OwnOk P w K mg base CX0 1 "ascii_bytes" ["text"] spAscii) : OwnOk P w K mg base CX0 4 "slug_of" ["text"] (spSlugOf K) := by
  refine own_ok D sc_slug_of (fun _ _ _ _ h => by obtain ⟨G, l, _, ⟨v, rfl, _⟩, _⟩ := h; rfl) (fun f cdv A outer s H vs Q E hr h => ⟨_, (pss_cons (ps_setLc (i := 1) (own := [("byte", 4)]) (g := gName 4) (tt := tYes) rfl sc_slug_of.nd rfl rfl (sw_true rfl rfl rfl (by decide +kernel)) (kpi_list (K := K) rfl (pv 0)) (blkOk_by (N := ["text", "spaced", "parts", "slug_text", "byte", "word", "part"]) (sc := defScope s_slug_of) (by decide +kernel)) (fun _ _ _ _ _ => pg_name (i := 4) sc_slug_of.nd rfl (Or.inl rfl)) (fun _ _ _ _ _ => pts_nil) (fun _ _ _ _ _ => (pe_ifExp (pt_cmpR (kop_in (K := K) rfl) (pv 4) (pe_tup (pa_cons (pe_ordL 45 n_ord) (pa_cons (pe_ordL 95 n_ord) pa_nil))) (by rfl)) (pe_cst (by rfl) c_SPACE) (pv 4))))
    (pss_cons (ps_setLc (i := 2) (own := [("word", 5)]) (g := gName 5) (tt := tYes) rfl sc_slug_of.nd rfl rfl (sw_true rfl rfl rfl (by decide +kernel)) (kpi_list (K := K) rfl (pe_own o_words (hr.mono (by omega)) rfl pass0 (pa_cons (pv 1) pa_nil))) (blkOk_by (N := ["text", "spaced", "parts", "slug_text", "byte", "word", "part"]) (sc := defScope s_slug_of) (by decide +kernel)) (fun _ _ _ _ _ => pg_name (i := 5) sc_slug_of.nd rfl (Or.inl rfl)) (fun _ _ _ _ _ => pts_nil) (fun _ _ _ _ _ => (pe_own o_slug_word (hr.mono (by omega)) rfl pass0 (pa_cons (pv 5) pa_nil))))
    (pss_cons (ps_set (i := 3) sc_slug_of.nd rfl (by first | exact Or.inl rfl | exact Or.inr rfl) (pe_slice (ksl_list (K := K) rfl) (pe_own o_joined (hr.mono (by omega)) rfl pass0 (pa_cons (pe_lc (own := [("part", 6)]) (g := gName 6) (tt := _) rfl sc_slug_of.nd (kpi_list (K := K) rfl (pv 2)) (blkOk_by (N := ["text", "spaced", "parts", "slug_text", "byte", "word", "part"]) (sc := defScope s_slug_of) (by decide +kernel)) (fun _ _ _ _ _ => pg_name (i := 6) sc_slug_of.nd rfl (Or.inl rfl)) (fun _ _ _ _ _ => pts_one (kpt_truth (K := K) rfl (pv 6))) (fun _ _ _ _ _ => (pv 6))) (pa_cons (pe_own o_ascii_bytes (hr.mono (by omega)) rfl pass0 (pa_cons pe_str pa_nil)) pa_nil))) po_none (po_some (pe_cst (by rfl) c_LONGEST_SLUG))))
    (pss_one (ps_ret (pe_ifExp (kpt_truth (K := K) rfl (pv 3)) (pv 3) (pe_own o_ascii_bytes (hr.mono (by omega)) rfl pass0 (pa_cons pe_str pa_nil)))))))), ?_⟩)
  obtain ⟨G, l, sG, ⟨v, rfl, ⟨a, rfl, ha⟩, hlen⟩, q⟩ := h
  -- spaced
  refine ⟨_, rfl, a, rfl, ⟨_, sG.seq ha⟩, fun F hF => lc_of (R := Nm) Nm (fun _ => true) (fun b : Nat => if b = 45 ∨ b = 95 then 32 else b) (sG.seq ha) sG (paired_nV l) (by rw [List.length_map]; exact lt_line (by omega)) hF Nm.same Nm.same (fun _ => rfl) (fun c x G' H' hm e hx Q' k => k _ (Same.refl _)) (fun c x G' H' hm e hx _ Q' k => ?_) (fun G1 H1 ys e hF1 gF hy => ?_)⟩
  · obtain rfl : x = _ := hx
    refine ⟨_, rfl, by decide, fun p hp => ⟨p, _, rfl, .inr (SqT.of upd_same), rfl, rfl, _, rfl, ?_⟩⟩
    have e2 := (Ext.refl e.sub).priv (o := .tup [.int 45, .int 95]) hp
    have hin : inV (V.int (c : Int)) [V.int 45, V.int 95] = decide (c = 45 ∨ c = 95) := by
      simp only [inV, List.any_cons, List.any_nil, eqV, Bool.or_false]
      rw [Bool.eq_iff_iff]; simp; omega
    refine ite2 (fun z => ?_) (fun z => ?_)
    · have z' : c = 45 ∨ c = 95 := of_decide_eq_true (hin ▸ (show inV (V.int (c : Int)) [V.int 45, V.int 95] = true from z))
      refine k _ _ _ e2 ?_
      rw [if_pos z']; exact rfl
    · have z' : ¬ (c = 45 ∨ c = 95) := fun y => z (by show inV (V.int (c : Int)) [V.int 45, V.int 95] = true; rw [hin]; exact decide_eq_true y)
      refine ⟨_, rfl, k _ _ _ e2 ?_⟩
      rw [if_neg z']; exact rfl
  rw [filter_yes] at hy
  rw [paired_of_nV hy] at hF1
  have e1 := e.pub hF hF1
  have hsp : Ls (spaced l) (.ref F) (upd G1 F (.lst (nV (spaced l)))) := ⟨F, rfl, upd_same⟩
  have hspl : (spaced l).length ≤ 1000 := by simpa [spaced] using hlen
  clear hF1 hy e gF
  change Ext G H (upd G1 F (.lst (nV (spaced l)))) H1 at e1
  generalize upd G1 F (.lst (nV (spaced l))) = G2 at e1 hsp
  -- words(spaced), slug_word of each
  refine ⟨_, rfl, G2, spaced l, e1.sub, ⟨_, rfl, hsp.r, by omega⟩, fun y G3 H3 e3 hy => ?_⟩
  obtain ⟨b, ws, rfl, hb, hp⟩ := hy
  have hwl := words_len (spaced l)
  have hwf := words_flat (spaced l)
  have hsz : ws.length ≤ 1000 := by rw [← Paired.length hp]; omega
  refine ⟨b, rfl, ⟨_, SqL.of (e3.sub _ _ hb)⟩, fun F2 hF2 => lc_of (R := Ls) Ls (fun _ => true) slugWord (SqL.of (e3.sub _ _ hb)) e3.sub hp (lt_line (by omega)) hF2 (fun _ _ _ _ s h => h.same s) (fun _ _ _ _ s h => h.same s) (fun _ => rfl) (fun p x G' H' hm e hx Q' k => k _ (Same.refl _)) (fun p x G' H' hm e hx _ Q' k => ?_) (fun G4 H4 ys2 e4 hFl gF hy => ?_)⟩
  · refine ⟨_, rfl, G', p, e.sub, ⟨_, rfl, hx, ?_⟩, fun y G5 H5 e5 hy => k _ _ _ e5 hy⟩
    have := flat_mem_len hm
    omega
  rw [filter_yes] at hy
  have e4' := ((e1.trans e3).trans e4).pub (e1.same.free (e3.same.free hF2)) hFl
  have hpp := paired_same (R := Ls) (fun _ _ _ _ s h => Ls.same s h) (same_new (o := .lst ys2) gF) hy
  have hFF : (upd G4 F2 (.lst ys2)) F2 = some (.lst ys2) := upd_same
  have hsz2 : ys2.length ≤ 1000 := by rw [← Paired.length hy, List.length_map]; omega
  generalize upd G4 F2 (.lst ys2) = G5 at e4' hpp hFF
  -- joined
  refine ⟨_, rfl, F2, rfl, ⟨_, SqL.of (e4'.sub _ _ hFF)⟩, fun F3 hF3 => lc_of (R := Ls) Ls (fun p => !p.isEmpty) id (SqL.of (e4'.sub _ _ hFF)) e4'.sub hpp (lt_line (by omega)) hF3 (fun _ _ _ _ s h => h.same s) (fun _ _ _ _ s h => h.same s) (fun _ => rfl) (fun p x G' H' hm e hx Q' k => ?_) (fun p x G' H' hm e hx _ Q' k => ?_) (fun G6 H6 ys3 e6 hFl3 gF3 hy3 => ?_)⟩
  · obtain ⟨m, rfl, hm'⟩ := hx
    refine ⟨_, rfl, _, truL (SqL.of (e.sub _ _ hm')), ?_⟩
    rw [show (nV p).isEmpty = p.isEmpty by cases p <;> rfl]
    exact k _ (Same.refl _)
  · exact ⟨_, rfl, k _ _ _ (Ext.refl e.sub) hx⟩
  rw [List.map_id] at hy3
  have e6' := (e4'.trans e6).pub (e4'.same.free hF3) hFl3
  have hpp3 := paired_same (R := Ls) (fun _ _ _ _ s h => Ls.same s h) (same_new (o := .lst ys3) gF3) hy3
  have hFF3 : (upd G6 F3 (.lst ys3)) F3 = some (.lst ys3) := upd_same
  generalize upd G6 F3 (.lst ys3) = G7 at e6' hpp3 hFF3
  refine ⟨G7, "-", e6'.sub, ⟨rfl, by decide⟩, fun y8 G8 H8 e8 hy8 => ?_⟩
  have e8' := e6'.trans e8
  refine ⟨G8, (((words (spaced l)).map slugWord).filter (fun p => !p.isEmpty), [45]), e8.sub, ⟨_, _, rfl, Lss.sqs ⟨F3, ys3, rfl, e8.up _ _ hFF3, paired_same (R := Ls) (fun _ _ _ _ s h => Ls.same s h) e8.up hpp3⟩, hy8, ?_⟩, fun y9 G9 H9 e9 hy9 => ?_⟩
  · have h1 := joinTexts_len [45] (((words (spaced l)).map slugWord).filter (fun p => !p.isEmpty))
    have h2 := flat_filter_len (fun p : List Nat => !p.isEmpty) ((words (spaced l)).map slugWord)
    have h3 := flat_map_len slugWord_len (words (spaced l))
    have h4 := List.length_filter_le (fun p : List Nat => !p.isEmpty) ((words (spaced l)).map slugWord)
    rw [List.length_map] at h4
    simp only [List.length_cons, List.length_nil] at h1
    exact Nat.le_trans h1 (by omega)
  obtain ⟨c, rfl, hc⟩ := hy9
  have e9' := e8'.trans e9
  simp only [slugOf] at q
  change G9 c = some (.lst (nV (Kh450.joinTexts [45] (((words (spaced l)).map slugWord).filter fun p => !p.isEmpty)))) at hc
  generalize Kh450.joinTexts [45] (((words (spaced l)).map slugWord).filter fun p => !p.isEmpty) = jt at hc q
  refine ⟨_, rfl, c, _, rfl, SqL.of (e9'.sub _ _ hc), fun r hr => ?_⟩
  have hcut : cutV (nV jt) none (some (30 : Int)) = nV (jt.take 30) := by
    unfold cutV
    rw [HT.sIx_none, show (some (30 : Int)) = some ((30 : Nat) : Int) from rfl, HT.sIx_nat, List.drop_zero, Nat.sub_zero, ← List.map_take, List.length_map]
    congr 1
    by_cases h : 30 ≤ jt.length
    · rw [Nat.min_eq_left h]
    · rw [Nat.min_eq_right (by omega), List.take_of_length_le (Nat.le_refl _), List.take_of_length_le (by omega)]
  rw [hcut]
  have e10 := e9'.made (o := .lst (nV (jt.take 30))) hr
  refine ⟨_, rfl, _, truL (SqL.of upd_same), ?_⟩
  rw [show (nV (jt.take 30)).isEmpty = (jt.take 30).isEmpty by cases jt.take 30 <;> rfl]
  cases hem : (jt.take 30).isEmpty with
  | false =>
    rw [hem] at q
    exact iteT ⟨_, rfl, q _ _ _ e10 ⟨r, rfl, upd_same⟩⟩
  | true =>
    rw [hem] at q
    refine iteF ⟨_, "section", e10.sub, ⟨rfl, by decide⟩, fun y G11 H11 e11 hy => q _ _ _ (e10.trans e11) hy⟩
/-! ### slug -/
def slugAns (l : List Nat) : List Int := if utf8Loop l.length l then ((slugOf l).length :: slugOf l).map Int.ofNat else [-24]
def spSlug (K : PySem.W.Frag) : Sp := fun vs H Q _ => ∃ (v : V) (d : List Nat), vs = [v] ∧ Lr K d v H ∧ d.length ≤ 1000 ∧ ∀ (p : Addr) H', H' p = some (.lst ((slugAns d).map V.int)) → Q (.ref p) H'
theorem nV_int (l : List Nat) : (l.map Int.ofNat).map V.int = nV l := by rw [List.map_map]; rfl
abbrev s_slug : Stmt := top 26
theorem sc_slug : FnScope ["text"] ["text"] (defScope s_slug) := ⟨rfl, rfl, rfl, by decide +kernel, rfl, by decide +kernel, by decide +kernel⟩

theorem fn_slug {f₀ : Addr} {fd : FuncData} (F : Fun K "slug" "slug" s_slug f₀ fd) (o_is_utf8 : OwnOk P w K mg base CX0 3 "is_utf8" ["data"] (spUtf8 K)) (o_with_length : OwnOk P w K mg base CX0 1 "with_length" ["data"] spWithLen) (o_slug_of : OwnOk P w K mg base CX0 4 "slug_of" ["text"] (spSlugOf K)) : FnOk P w K mg base CX0 5 f₀ fd ["text"] (spSlug K) := by
  refine own_fn F sc_slug (fun _ _ _ _ h => by obtain ⟨v, d, rfl, _⟩ := h; rfl) (fun f cdv A outer s H vs Q E hr h => ⟨_, (pss_cons (ps_if (pt_not (pt_val (pe_own o_is_utf8 (hr.mono (by omega)) rfl pass0 (pa_cons (pv 0) pa_nil)))) (pss_one (ps_ret (pe_lst (pa_cons (pe_un un_neg pe_int) pa_nil)))) pss_nil)
    (pss_one (ps_ret (pe_own o_with_length (hr.mono (by omega)) rfl pass0 (pa_cons (pe_own o_slug_of (hr.mono (by omega)) rfl pass0 (pa_cons (pv 0) pa_nil)) pa_nil))))), ?_⟩)
  obtain ⟨v, d, rfl, hv, hlen, q⟩ := h
  refine ⟨_, rfl, v, d, rfl, hv, fun H1 s1 => ⟨_, rfl, ?_⟩⟩
  unfold slugAns at q
  cases hu : utf8Loop d.length d with
  | false =>
    rw [hu] at q
    refine iteT ⟨24, rfl, by decide, fun p hp => q p _ upd_same⟩
  | true =>
    rw [hu] at q
    refine iteF ⟨_, rfl, H1, d, Same.refl _, ⟨_, rfl, hv.same s1, hlen⟩, fun y G2 H2 e2 hy => ?_⟩
    refine ⟨G2, slugOf d, e2.sub, ⟨_, rfl, hy, ?_⟩, fun z G3 H3 e3 hz => ?_⟩
    · unfold slugOf
      dsimp only
      split
      · decide
      · rw [List.length_take]; omega
    · obtain ⟨p, rfl, hp⟩ := hz
      refine q p _ ?_
      rw [if_pos rfl, nV_int]
      exact e3.sub _ _ hp
end
end Bt

namespace Bt
open Kh450 (decodeUtf8 encodeUtf8 isContinuation isScalar)
/-! ### UTF-8 -/
theorem seq_dec : ∀ (l : List Nat), (∀ b ∈ l, b < 256) → (match decodeUtf8 l with
  | none => seqLen l = 0
  | some (c, r) => 0 < seqLen l ∧ l.drop (seqLen l) = r ∧ l.take (seqLen l) = encodeUtf8 c)
  | [], _ => rfl
  | a :: r, hb => by
    have ha : a < 256 := hb a (by simp)
    unfold decodeUtf8
    dsimp only
    by_cases h1 : a < 0x80
    · rw [if_pos h1]
      have e : seqLen (a :: r) = 1 := by simp [seqLen, annLen, h1]
      simp [e, encodeUtf8, h1]
    rw [if_neg h1]
    by_cases h2 : a < 0xC2
    · rw [if_pos h2]
      have e : annLen a = 0 := by unfold annLen; rw [if_neg h1, if_neg (by omega), if_neg (by omega), if_neg (by omega)]
      simp [seqLen, e]
    rw [if_neg h2]
    by_cases h3 : a < 0xE0
    · rw [if_pos h3]
      have e : annLen a = 2 := by unfold annLen; rw [if_neg h1, if_pos (by omega)]
      have hs : ∀ b, sbf a b = true := fun b => by unfold sbf; rw [if_neg (by omega), if_neg (by omega), if_neg (by omega), if_neg (by omega)]
      cases r with
      | nil => simp [seqLen, e]
      | cons b r =>
        have hbb : b < 256 := hb b (by simp)
        by_cases hc : isContinuation b = true
        · have e2 : seqLen (a :: b :: r) = 2 := by simp [seqLen, e, hc, hs]
          simp only [hc, if_true]
          rw [e2]
          refine ⟨by omega, rfl, ?_⟩
          simp only [isContinuation, Bool.and_eq_true, decide_eq_true_eq] at hc
          unfold encodeUtf8
          rw [if_neg (by omega), if_pos (by omega)]
          simp
          omega
        · simp only [hc, if_false]
          simp [seqLen, e, hc]
    rw [if_neg h3]
    by_cases h4 : a < 0xF0
    · rw [if_pos h4]
      have e : annLen a = 3 := by unfold annLen; rw [if_neg h1, if_neg (by omega), if_pos (by omega)]
      match r, hb with
      | [], _ => simp [seqLen, e]
      | [b], _ => simp [seqLen, e]
      | b :: c :: r, hb =>
        have hbb : b < 256 := hb b (by simp)
        have hcc : c < 256 := hb c (by simp)
        dsimp only
        have e1 : seqLen (a :: b :: c :: r) = if isContinuation b && isContinuation c then (if sbf a b then 3 else 0) else 0 := by
          simp [seqLen, e]
        rw [e1]
        cases hb1 : isContinuation b <;> cases hc1 : isContinuation c <;> simp only [Bool.false_and, Bool.and_false, Bool.true_and, Bool.false_eq_true, if_false, if_true, Bool.and_self]
        simp only [isContinuation, Bool.and_eq_true, decide_eq_true_eq] at hb1 hc1
        have hs : sbf a b = (decide (0x800 ≤ a % 16 * 4096 + b % 64 * 64 + c % 64) && isScalar (a % 16 * 4096 + b % 64 * 64 + c % 64)) := by
          rw [Bool.eq_iff_iff]
          unfold sbf isScalar
          simp only [Bool.and_eq_true, decide_eq_true_eq, Bool.not_eq_true', Bool.and_eq_false_iff, decide_eq_false_iff_not]
          repeat' split
          all_goals (simp only [decide_eq_true_eq, true_iff]; omega)
        rw [hs]
        by_cases hq : (decide (0x800 ≤ a % 16 * 4096 + b % 64 * 64 + c % 64) && isScalar (a % 16 * 4096 + b % 64 * 64 + c % 64)) = true
        · simp only [hq, if_true]
          simp only [Bool.and_eq_true, decide_eq_true_eq] at hq
          refine ⟨by omega, rfl, ?_⟩
          unfold encodeUtf8
          rw [if_neg (by omega), if_neg (by omega), if_pos (by omega)]
          simp
          omega
        · simp only [hq, if_false, Bool.false_eq_true]
    rw [if_neg h4]
    by_cases h5 : a < 0xF5
    · rw [if_pos h5]
      have e : annLen a = 4 := by unfold annLen; rw [if_neg h1, if_neg (by omega), if_neg (by omega), if_pos (by omega)]
      match r, hb with
      | [], _ => simp [seqLen, e]
      | [b], _ => simp [seqLen, e]
      | [b, c], _ => simp [seqLen, e]
      | b :: c :: d :: r, hb =>
        have hbb : b < 256 := hb b (by simp)
        have hcc : c < 256 := hb c (by simp)
        have hdd : d < 256 := hb d (by simp)
        dsimp only
        have e1 : seqLen (a :: b :: c :: d :: r) = if isContinuation b && isContinuation c && isContinuation d then (if sbf a b then 4 else 0) else 0 := by
          simp [seqLen, e, Bool.and_assoc]
        rw [e1]
        cases hb1 : isContinuation b <;> cases hc1 : isContinuation c <;> cases hd1 : isContinuation d <;> simp only [Bool.false_and, Bool.and_false, Bool.true_and, Bool.false_eq_true, if_false, if_true, Bool.and_self]
        simp only [isContinuation, Bool.and_eq_true, decide_eq_true_eq] at hb1 hc1 hd1
        have hs : sbf a b = (decide (0x10000 ≤ a % 8 * 262144 + b % 64 * 4096 + c % 64 * 64 + d % 64) && isScalar (a % 8 * 262144 + b % 64 * 4096 + c % 64 * 64 + d % 64)) := by
          rw [Bool.eq_iff_iff]
          unfold sbf isScalar
          simp only [Bool.and_eq_true, decide_eq_true_eq, Bool.not_eq_true', Bool.and_eq_false_iff, decide_eq_false_iff_not]
          repeat' split
          all_goals (simp only [decide_eq_true_eq, true_iff]; omega)
        rw [hs]
        by_cases hq : (decide (0x10000 ≤ a % 8 * 262144 + b % 64 * 4096 + c % 64 * 64 + d % 64) && isScalar (a % 8 * 262144 + b % 64 * 4096 + c % 64 * 64 + d % 64)) = true
        · simp only [hq, if_true]
          simp only [Bool.and_eq_true, decide_eq_true_eq] at hq
          refine ⟨by omega, rfl, ?_⟩
          unfold encodeUtf8
          rw [if_neg (by omega), if_neg (by omega), if_neg (by omega)]
          simp
          omega
        · simp only [hq, if_false, Bool.false_eq_true]
    · rw [if_neg h5]
      have e : annLen a = 0 := by unfold annLen; rw [if_neg h1, if_neg (by omega), if_neg (by omega), if_neg (by omega)]
      simp [seqLen, e]
theorem utf8_dec : ∀ (k : Nat) (l : List Nat), l.length ≤ k → (∀ b ∈ l, b < 256) → (match Kh450.decodeAllLoop k l with
  | none => utf8Loop k l = false
  | some t => utf8Loop k l = true ∧ Kh450.encodeAll t = l)
  | k, [], _, _ => by cases k <;> exact ⟨rfl, rfl⟩
  | 0, a :: r, h, _ => by simp at h
  | k + 1, a :: r, h, hb => by
    have hd := seq_dec (a :: r) hb
    show match (match decodeUtf8 (a :: r) with | none => none | some (c, rest) => (Kh450.decodeAllLoop k rest).map fun codes => c :: codes) with
      | none => utf8Loop (k + 1) (a :: r) = false
      | some t => utf8Loop (k + 1) (a :: r) = true ∧ Kh450.encodeAll t = a :: r
    have eu : utf8Loop (k + 1) (a :: r) = if seqLen (a :: r) = 0 then false else utf8Loop k ((a :: r).drop (seqLen (a :: r))) := rfl
    rw [eu]
    cases e : decodeUtf8 (a :: r) with
    | none =>
      rw [e] at hd
      simp only at hd ⊢
      rw [if_pos hd]
    | some p =>
      obtain ⟨c, rest⟩ := p
      rw [e] at hd
      simp only at hd ⊢
      obtain ⟨hpos, hdrop, htake⟩ := hd
      rw [if_neg (by omega), hdrop]
      have hlen : rest.length ≤ k := by
        rw [← hdrop, List.length_drop]
        simp only [List.length_cons] at h ⊢
        omega
      have ih := utf8_dec k rest hlen (fun b hm => hb b (List.mem_of_mem_drop (hdrop ▸ hm)))
      cases e2 : Kh450.decodeAllLoop k rest with
      | none =>
        rw [e2] at ih
        exact ih
      | some t =>
        rw [e2] at ih
        simp only [Option.map_some] at ih ⊢
        refine ⟨ih.1, ?_⟩
        show encodeUtf8 c ++ Kh450.encodeAll t = a :: r
        rw [ih.2, ← htake, ← hdrop, List.take_append_drop]

theorem decodeAll_eq (l : List Nat) (hb : ∀ b ∈ l, b < 256) : (match Kh450.decodeAll l with
  | none => utf8Loop l.length l = false
  | some t => utf8Loop l.length l = true ∧ Kh450.encodeAll t = l) := utf8_dec l.length l (Nat.le_refl _) hb
/-! ### slugs -/
open Kh450 (slugWords lowerCase isLower isDigit isWhite isUpper)
theorem slugWords_ne : ∀ l, slugWords l ≠ []
  | [] => by simp [slugWords]
  | c :: r => by
    have h := slugWords_ne r
    unfold slugWords
    cases e : slugWords r with
    | nil => exact absurd e h
    | cons w o =>
      dsimp only
      split
      · simp
      · split <;> simp
theorem isLD_eq (c : Nat) : (isLower (lowerCase c) || isDigit c) = isLD c := by
  unfold isLD lowerCase
  cases hu : isUpper c
  · simp
  · simp only [if_true, Bool.or_true, Bool.true_or]
    simp only [isUpper, Bool.and_eq_true, decide_eq_true_eq] at hu
    simp only [isLower, Bool.or_eq_true, Bool.and_eq_true, decide_eq_true_eq]
    left; omega
theorem lowerB_eq (c : Nat) : lowerB c = lowerCase c := rfl
def isSep (c : Nat) : Bool := isWhite c || c == 45 || c == 95
theorem slugWords_cons (c : Nat) (r : List Nat) (w : List Nat) (o : List (List Nat)) (h : slugWords r = w :: o) : slugWords (c :: r) = if isLD c then (lowerB c :: w) :: o else if isSep c then [] :: w :: o else w :: o := by
  show (match slugWords r with | [] => [] | word :: others => _) = _
  rw [h]
  dsimp only
  rw [isLD_eq]
  rfl

def glue : List (List Nat) → List (List Nat) → List (List Nat)
  | [], q => q
  | [w], x :: y => (w ++ x) :: y
  | [w], [] => [w]
  | w :: v :: o, q => w :: glue (v :: o) q
theorem glue_snoc (w x : List Nat) (y : List (List Nat)) : ∀ o : List (List Nat), glue (o ++ [w]) (x :: y) = o ++ (w ++ x) :: y
  | [] => rfl
  | [a] => rfl
  | a :: b :: o => by
    show a :: glue (b :: o ++ [w]) (x :: y) = a :: (b :: o ++ (w ++ x) :: y)
    rw [glue_snoc w x y (b :: o)]
def swF (c : Nat) : List (List Nat) → List (List Nat)
  | [] => []
  | w :: o => if isLD c then (lowerB c :: w) :: o else if isSep c then [] :: w :: o else w :: o
theorem slugWords_F (c : Nat) (r : List Nat) : slugWords (c :: r) = swF c (slugWords r) := by
  cases e : slugWords r with
  | nil => exact absurd e (slugWords_ne r)
  | cons w o => exact slugWords_cons c r w o e
theorem swF_glue (c : Nat) : ∀ (p : List (List Nat)) (x : List Nat) (y : List (List Nat)), p ≠ [] → swF c (glue p (x :: y)) = glue (swF c p) (x :: y)
  | [], _, _, h => absurd rfl h
  | [w], x, y, _ => by
    show (if isLD c then (lowerB c :: (w ++ x)) :: y else if isSep c then [] :: (w ++ x) :: y else (w ++ x) :: y) = glue (if isLD c then [lowerB c :: w] else if isSep c then [[], w] else [w]) (x :: y)
    split
    · rfl
    · split <;> rfl
  | w :: v :: o, x, y, _ => by
    show (if isLD c then (lowerB c :: w) :: glue (v :: o) (x :: y) else if isSep c then [] :: w :: glue (v :: o) (x :: y) else w :: glue (v :: o) (x :: y)) = glue (if isLD c then (lowerB c :: w) :: v :: o else if isSep c then [] :: w :: v :: o else w :: v :: o) (x :: y)
    split
    · rfl
    · split <;> rfl
theorem slugWords_app (m : List Nat) : ∀ l : List Nat, slugWords (l ++ m) = glue (slugWords l) (slugWords m)
  | [] => by
    cases e : slugWords m with
    | nil => exact absurd e (slugWords_ne m)
    | cons x y => show slugWords m = _; rw [e]; rfl
  | c :: l => by
    rw [List.cons_append, slugWords_F, slugWords_F, slugWords_app m l]
    cases e : slugWords m with
    | nil => exact absurd e (slugWords_ne m)
    | cons x y => exact swF_glue c _ x y (slugWords_ne l)
/-- behind one byte more -/
theorem slugWords_snoc (b : Nat) (l : List Nat) (o : List (List Nat)) (w : List Nat) (h : slugWords l = o ++ [w]) : slugWords (l ++ [b]) = if isLD b then o ++ [w ++ [lowerB b]] else if isSep b then o ++ [w, []] else o ++ [w] := by
  rw [slugWords_app, h, slugWords_F]
  show glue (o ++ [w]) (if isLD b then [[lowerB b]] else if isSep b then [[], []] else [[]]) = _
  split
  · rw [glue_snoc]
  · split
    · rw [glue_snoc]; simp
    · rw [glue_snoc]; simp
/-! bytes of what is no sign of ASCII are left out -/
theorem big_bytes {b : Nat} (h : 128 ≤ b) : isLD b = false ∧ isSep b = false := by
  constructor
  · simp [isLD, isLower, isUpper, isDigit]; omega
  · simp [isSep, isWhite]; omega
theorem slugWords_big {b : Nat} (h : 128 ≤ b) (r : List Nat) : slugWords (b :: r) = slugWords r := by
  rw [slugWords_F]
  cases e : slugWords r with
  | nil => exact absurd e (slugWords_ne r)
  | cons w o => simp [swF, (big_bytes h).1, (big_bytes h).2]
theorem slugWords_bigs : ∀ (l r : List Nat), (∀ b ∈ l, 128 ≤ b) → slugWords (l ++ r) = slugWords r
  | [], _, _ => rfl
  | b :: l, r, h => by rw [List.cons_append, slugWords_big (h b (by simp)), slugWords_bigs l r (fun c hc => h c (by simp [hc]))]
theorem encode_big {c : Nat} (h : ¬ c < 128) : ∀ b ∈ encodeUtf8 c, 128 ≤ b := by
  intro b hb
  unfold encodeUtf8 at hb
  rw [if_neg h] at hb
  split at hb
  · simp at hb; omega
  · split at hb
    · simp at hb; omega
    · simp at hb; omega
theorem slugWords_enc : ∀ t : List Nat, slugWords (Kh450.encodeAll t) = slugWords t
  | [] => rfl
  | c :: t => by
    have ih := slugWords_enc t
    show slugWords (encodeUtf8 c ++ Kh450.encodeAll t) = _
    by_cases h : c < 128
    · have e : encodeUtf8 c = [c] := by unfold encodeUtf8; rw [if_pos h]
      rw [e, slugWords_F c t, ← ih, ← slugWords_F]
      rfl
    · rw [slugWords_bigs _ _ (encode_big h), slugWords_big (by omega), ih]
/-! the pieces and the words -/
def sp1 (b : Nat) : Nat := if b = 45 ∨ b = 95 then 32 else b
def runW (ps : List (List Nat)) : List (List Nat) := ((ps.filter fun p => !isWhite (p.headD 0)).map slugWord).filter fun p => !p.isEmpty
/-- all of a piece is of one kind -/
def OneKind (ps : List (List Nat)) : Prop := ∀ p ∈ ps, p ≠ [] ∧ ∀ c ∈ p, isWhite c = isWhite (p.headD 0)
theorem isSep_sp (b : Nat) : isWhite (sp1 b) = isSep b := by
  unfold sp1 isSep
  by_cases h : b = 45 ∨ b = 95
  · rw [if_pos h]
    rcases h with rfl | rfl <;> rfl
  · rw [if_neg h]
    have : (b == 45) = false ∧ (b == 95) = false := by constructor <;> (simp; omega)
    simp [this.1, this.2]
theorem sep_not_LD {b : Nat} (h : isSep b = true) : isLD b = false := by
  simp only [isSep, isWhite, Bool.or_eq_true, beq_iff_eq] at h
  simp only [isLD, isLower, isUpper, isDigit, Bool.or_eq_false_iff, Bool.and_eq_false_iff, decide_eq_false_iff_not]
  omega
theorem sp1_of {b : Nat} (h : isSep b = false) : sp1 b = b := by
  unfold sp1
  simp only [isSep, isWhite, Bool.or_eq_false_iff, beq_eq_false_iff_ne] at h
  rw [if_neg (by omega)]
theorem runW_app (a b : List (List Nat)) : runW (a ++ b) = runW a ++ runW b := by simp [runW]
theorem slugWord_app (a b : List Nat) : slugWord (a ++ b) = slugWord a ++ slugWord b := by simp [slugWord]
def ne (ls : List (List Nat)) : List (List Nat) := ls.filter fun p => !p.isEmpty
theorem ne_app (a b : List (List Nat)) : ne (a ++ b) = ne a ++ ne b := by simp [ne]
theorem runW_word {p : List Nat} (h : isWhite (p.headD 0) = false) : runW [p] = ne [slugWord p] := by simp only [runW, ne, List.filter_cons, List.filter_nil, h, Bool.not_false, if_true, List.map_cons, List.map_nil]
theorem runW_white {p : List Nat} (h : isWhite (p.headD 0) = true) : runW [p] = [] := by simp only [runW, List.filter_cons, List.filter_nil, h, Bool.not_true, Bool.false_eq_true, if_false, List.map_nil]
theorem head_app (p q : List Nat) (h : p ≠ []) : (p ++ q).headD 0 = p.headD 0 := by
  cases p with
  | nil => exact absurd rfl h
  | cons a r => rfl
/-- what the program's pieces say and what the words say, behind the same bytes -/
def Both (ps o : List (List Nat)) (w : List Nat) : Prop := OneKind ps ∧
  ((w = [] ∧ ne o = runW ps ∧ (ps = [] ∨ ∃ qs p, ps = qs ++ [p] ∧ isWhite (p.headD 0) = true)) ∨ ∃ qs p, ps = qs ++ [p] ∧ isWhite (p.headD 0) = false ∧ w = slugWord p ∧ ne o = runW qs)
theorem both_all : ∀ (l : List Nat), ∃ o w, slugWords l = o ++ [w] ∧ Both (pieces (l.map sp1)) o w := by
  intro l
  -- from the left
  have rev : ∀ (n : Nat) (l : List Nat), l.length = n → ∃ o w, slugWords l = o ++ [w] ∧ Both (pieces (l.map sp1)) o w := by
    intro n
    induction n with
    | zero =>
      intro l h
      have : l = [] := List.length_eq_zero_iff.mp h
      subst this
      exact ⟨[], [], rfl, (fun p hp => by cases hp), .inl ⟨rfl, rfl, .inl rfl⟩⟩
    | succ n ih =>
      intro l h
      obtain ⟨l', b, rfl⟩ : ∃ l' b, l = l' ++ [b] := by
        have hne : l ≠ [] := fun z => by subst z; cases h
        exact ⟨l.dropLast, l.getLast hne, (List.dropLast_concat_getLast hne).symm⟩
      obtain ⟨o, w, hs, hok, hB⟩ := ih l' (by simpa using h)
      have hsn := slugWords_snoc b l' o w hs
      rw [List.map_append, List.map_cons, List.map_nil, pieces_snoc]
      generalize pieces (l'.map sp1) = ps at hok hB ⊢
      -- the last piece
      have new : ∀ (qs : List (List Nat)), OneKind qs → OneKind (qs ++ [[sp1 b]]) := fun qs hq p hp => by
        rcases List.mem_append.mp hp with hp | hp
        · exact hq p hp
        · simp at hp; subst hp; simp
      have more : ∀ (qs : List (List Nat)) (p : List Nat), OneKind (qs ++ [p]) → isWhite (sp1 b) = isWhite (p.headD 0) → OneKind (qs ++ [p ++ [sp1 b]]) := fun qs p hq hw r hr => by
        rcases List.mem_append.mp hr with hr | hr
        · exact hq r (List.mem_append_left _ hr)
        · simp at hr; subst hr
          have hp := hq p (by simp)
          refine ⟨by simp, fun c hc => ?_⟩
          rw [head_app _ _ hp.1]
          rcases List.mem_append.mp hc with hc | hc
          · exact hp.2 c hc
          · simp at hc; subst hc; exact hw
      have lastOf : ∀ (qs : List (List Nat)) (p : List Nat), OneKind (qs ++ [p]) → addPiece (qs ++ [p]) (sp1 b) = if isWhite (sp1 b) = isWhite (p.headD 0) then qs ++ [p ++ [sp1 b]] else qs ++ [p] ++ [[sp1 b]] := fun qs p hq => by
        have hp := hq p (by simp)
        obtain ⟨p0, c, rfl⟩ : ∃ p0 c, p = p0 ++ [c] := ⟨p.dropLast, p.getLast hp.1, (List.dropLast_concat_getLast hp.1).symm⟩
        rw [addPiece_snoc]
        have := hp.2 c (by simp)
        rw [this]
        by_cases z : isWhite (sp1 b) = isWhite ((p0 ++ [c]).headD 0)
        · rw [if_pos z, if_pos z.symm]
        · rw [if_neg z, if_neg (fun y => z y.symm)]
      by_cases hb : isSep b = true
      · -- a separator
        rw [sep_not_LD hb, if_neg (by decide), if_pos hb] at hsn
        have hw1 : isWhite (sp1 b) = true := (isSep_sp b).trans hb
        refine ⟨o ++ [w], [], by rw [hsn]; simp, ?_⟩
        rcases hB with ⟨rfl, hne, hps⟩ | ⟨qs, p, rfl, hp, rfl, hne⟩
        · rcases hps with rfl | ⟨qs, p, rfl, hp⟩
          · refine ⟨new [] (fun p hp => by cases hp), .inl ⟨rfl, ?_, .inr ⟨[], _, rfl, hw1⟩⟩⟩
            rw [ne_app, hne]
            show runW [] ++ ne [[]] = runW ([] ++ [[sp1 b]])
            rw [runW_app, runW_white (p := [sp1 b]) hw1]; rfl
          · rw [lastOf qs p hok, if_pos (hw1.trans hp.symm)]
            have hpn := (hok p (by simp)).1
            refine ⟨more qs p hok (hw1.trans hp.symm), .inl ⟨rfl, ?_, .inr ⟨qs, _, rfl, by rw [head_app _ _ hpn]; exact hp⟩⟩⟩
            rw [ne_app, hne, runW_app, runW_app, runW_white hp, runW_white (p := p ++ [sp1 b]) (by rw [head_app _ _ hpn]; exact hp)]
            simp [ne]
        · rw [lastOf qs p hok, if_neg (by rw [hw1, hp]; decide)]
          refine ⟨new _ hok, .inl ⟨rfl, ?_, .inr ⟨_, _, rfl, hw1⟩⟩⟩
          rw [ne_app, hne, runW_app, runW_app, runW_word hp, runW_white (p := [sp1 b]) hw1]
          simp
      · -- no separator
        have hbf : isSep b = false := by simpa using hb
        have hw1 : isWhite (sp1 b) = false := (isSep_sp b).trans hbf
        have hw : slugWords (l' ++ [b]) = o ++ [w ++ slugWord [b]] := by
          rw [hsn]
          by_cases hl : isLD b = true
          · rw [if_pos hl]; simp [slugWord, hl]
          · rw [if_neg hl, if_neg hb]; simp [slugWord, hl]
        refine ⟨o, w ++ slugWord [b], hw, ?_⟩
        have hsp := sp1_of hbf
        rcases hB with ⟨rfl, hne, hps⟩ | ⟨qs, p, rfl, hp, rfl, hne⟩
        · have e : addPiece ps (sp1 b) = ps ++ [[sp1 b]] := by
            rcases hps with rfl | ⟨qs, p, rfl, hp⟩
            · rfl
            · rw [lastOf qs p hok, if_neg (by rw [hw1, hp]; decide)]
          rw [e]
          refine ⟨new _ hok, .inr ⟨ps, _, rfl, hw1, by rw [hsp]; rfl, hne⟩⟩
        · rw [lastOf qs p hok, if_pos (hw1.trans hp.symm)]
          have hpn := (hok p (by simp)).1
          refine ⟨more qs p hok (hw1.trans hp.symm), .inr ⟨qs, _, rfl, by rw [head_app _ _ hpn]; exact hp, by rw [slugWord_app, hsp], hne⟩⟩
  exact rev l.length l rfl
theorem runW_words (l : List Nat) : runW (pieces (l.map sp1)) = ne (slugWords l) := by
  obtain ⟨o, w, hs, _, hB⟩ := both_all l
  rw [hs, ne_app]
  rcases hB with ⟨rfl, hne, _⟩ | ⟨qs, p, e, hp, rfl, hne⟩
  · rw [hne]; simp [ne]
  · rw [e, runW_app, runW_word hp, hne]
theorem slugOf_eq (t : List Nat) : slugOf (Kh450.encodeAll t) = Kh450.slug t := by
  have h : ((words (spaced (Kh450.encodeAll t))).map slugWord).filter (fun p => !p.isEmpty) = (slugWords t).filter fun w => !w.isEmpty := by
    have := runW_words (Kh450.encodeAll t)
    rw [slugWords_enc] at this
    exact this
  unfold slugOf Kh450.slug
  rw [h]
  rfl
theorem slug_is (ns : List Int) (h : ∀ x ∈ ns, 0 ≤ x ∧ x ≤ 255) : slugAns (ns.map Int.toNat) = PyKh450.slug ns := by
  have hb : ∀ b ∈ ns.map Int.toNat, b < 256 := fun b hb => by
    obtain ⟨x, hx, rfl⟩ := List.mem_map.mp hb
    have := h x hx
    omega
  have hd := decodeAll_eq (ns.map Int.toNat) hb
  show slugAns (ns.map Int.toNat) = Kh450Neutral.integers (match Kh450.decodeAll (ns.map Int.toNat) with | none => Kh450.number (-24) | some t => Kh450.bytesResult (Kh450.slug t))
  unfold slugAns
  cases e : Kh450.decodeAll (ns.map Int.toNat) with
  | none =>
    rw [e] at hd
    rw [show utf8Loop (ns.map Int.toNat).length (ns.map Int.toNat) = false from hd]
    rfl
  | some t =>
    rw [e] at hd
    obtain ⟨h1, h2⟩ := hd
    rw [h1, if_pos rfl]
    rw [← h2, slugOf_eq]
    rfl
end Bt

namespace Bt
open PySem PySem.Spec PyProof.Rows L2
theorem nV_toNat : ∀ {l : List Int}, (∀ x ∈ l, 0 ≤ x ∧ x ≤ 255) → nV (l.map Int.toNat) = l.map V.int
  | [], _ => rfl
  | x :: r, h => by
    have hx := h x (by simp)
    have ih := nV_toNat (l := r) fun y hy => h y (by simp [hy])
    show V.int ((x.toNat : Nat) : Int) :: nV (r.map Int.toNat) = V.int x :: r.map V.int
    rw [ih, Int.toNat_of_nonneg hx.1]
section
open PySem PySem.Spec PyProof.Rows L2
theorem all_mk {P : Program} {w : World} {K : PySem.W.Frag} {h : Heap} {mg : Str → Option Value} {fa : Addr} (X : K.In h) (G : h.Ns mainGlobals mg) (hfa : mg "slug" = some (.ref fa))
    {f_is_space : Addr} {oc_is_space kV_is_space dc_is_space pm_is_space cd_is_space ct_is_space : Value} {od_is_space an_is_space : Option Addr} {sl_is_space : Array (Option Value)}
    {f_is_lowercase : Addr} {oc_is_lowercase kV_is_lowercase dc_is_lowercase pm_is_lowercase cd_is_lowercase ct_is_lowercase : Value} {od_is_lowercase an_is_lowercase : Option Addr} {sl_is_lowercase : Array (Option Value)}
    {f_is_uppercase : Addr} {oc_is_uppercase kV_is_uppercase dc_is_uppercase pm_is_uppercase cd_is_uppercase ct_is_uppercase : Value} {od_is_uppercase an_is_uppercase : Option Addr} {sl_is_uppercase : Array (Option Value)}
    {f_is_digit : Addr} {oc_is_digit kV_is_digit dc_is_digit pm_is_digit cd_is_digit ct_is_digit : Value} {od_is_digit an_is_digit : Option Addr} {sl_is_digit : Array (Option Value)}
    {f_is_continuation : Addr} {oc_is_continuation kV_is_continuation dc_is_continuation pm_is_continuation cd_is_continuation ct_is_continuation : Value} {od_is_continuation an_is_continuation : Option Addr} {sl_is_continuation : Array (Option Value)}
    {f_is_letter_or_digit : Addr} {oc_is_letter_or_digit kV_is_letter_or_digit dc_is_letter_or_digit pm_is_letter_or_digit cd_is_letter_or_digit ct_is_letter_or_digit : Value} {od_is_letter_or_digit an_is_letter_or_digit : Option Addr} {sl_is_letter_or_digit : Array (Option Value)}
    {f_announced_length : Addr} {oc_announced_length kV_announced_length dc_announced_length pm_announced_length cd_announced_length ct_announced_length : Value} {od_announced_length an_announced_length : Option Addr} {sl_announced_length : Array (Option Value)}
    {f_second_byte_fits : Addr} {oc_second_byte_fits kV_second_byte_fits dc_second_byte_fits pm_second_byte_fits cd_second_byte_fits ct_second_byte_fits : Value} {od_second_byte_fits an_second_byte_fits : Option Addr} {sl_second_byte_fits : Array (Option Value)}
    {f_sequence_length : Addr} {oc_sequence_length kV_sequence_length dc_sequence_length pm_sequence_length cd_sequence_length ct_sequence_length : Value} {od_sequence_length an_sequence_length : Option Addr} {sl_sequence_length : Array (Option Value)}
    {f_is_utf8 : Addr} {oc_is_utf8 kV_is_utf8 dc_is_utf8 pm_is_utf8 cd_is_utf8 ct_is_utf8 : Value} {od_is_utf8 an_is_utf8 : Option Addr} {sl_is_utf8 : Array (Option Value)}
    {f_pieces : Addr} {oc_pieces kV_pieces dc_pieces pm_pieces cd_pieces ct_pieces : Value} {od_pieces an_pieces : Option Addr} {sl_pieces : Array (Option Value)}
    {f_words : Addr} {oc_words kV_words dc_words pm_words cd_words ct_words : Value} {od_words an_words : Option Addr} {sl_words : Array (Option Value)}
    {f_joined : Addr} {oc_joined kV_joined dc_joined pm_joined cd_joined ct_joined : Value} {od_joined an_joined : Option Addr} {sl_joined : Array (Option Value)}
    {f_ascii_bytes : Addr} {oc_ascii_bytes kV_ascii_bytes dc_ascii_bytes pm_ascii_bytes cd_ascii_bytes ct_ascii_bytes : Value} {od_ascii_bytes an_ascii_bytes : Option Addr} {sl_ascii_bytes : Array (Option Value)}
    {f_lower_byte : Addr} {oc_lower_byte kV_lower_byte dc_lower_byte pm_lower_byte cd_lower_byte ct_lower_byte : Value} {od_lower_byte an_lower_byte : Option Addr} {sl_lower_byte : Array (Option Value)}
    {f_slug_word : Addr} {oc_slug_word kV_slug_word dc_slug_word pm_slug_word cd_slug_word ct_slug_word : Value} {od_slug_word an_slug_word : Option Addr} {sl_slug_word : Array (Option Value)}
    {f_slug_of : Addr} {oc_slug_of kV_slug_of dc_slug_of pm_slug_of cd_slug_of ct_slug_of : Value} {od_slug_of an_slug_of : Option Addr} {sl_slug_of : Array (Option Value)}
    {f_with_length : Addr} {oc_with_length kV_with_length dc_with_length pm_with_length cd_with_length ct_with_length : Value} {od_with_length an_with_length : Option Addr} {sl_with_length : Array (Option Value)}
    {f_slug : Addr} {oc_slug kV_slug dc_slug pm_slug cd_slug ct_slug : Value} {od_slug an_slug : Option Addr} {sl_slug : Array (Option Value)}
    {t_SPACE : Tok}
    {t_TAB : Tok}
    {t_LINE_FEED : Tok}
    {t_CARRIAGE_RETURN : Tok}
    {t_LONGEST_SLUG : Tok}
    (a_is_space : PySem.W.nsIn K mainGlobals "is_space" = some (some (.ref f_is_space)))
    (l_is_space : K.lookup f_is_space = some ⟨oc_is_space, od_is_space, .func (PySem.W.fnOf "is_space" "is_space" (defArgs s_is_space) (defBody s_is_space) (defScope s_is_space) .none kV_is_space dc_is_space pm_is_space an_is_space cd_is_space ct_is_space), sl_is_space⟩)
    (c_is_space : PySem.W.codeIn K cd_is_space "is_space" = true)
    (k_is_space : PySem.W.keepIn K (.ref f_is_space) = true)
    (a_is_lowercase : PySem.W.nsIn K mainGlobals "is_lowercase" = some (some (.ref f_is_lowercase)))
    (l_is_lowercase : K.lookup f_is_lowercase = some ⟨oc_is_lowercase, od_is_lowercase, .func (PySem.W.fnOf "is_lowercase" "is_lowercase" (defArgs s_is_lowercase) (defBody s_is_lowercase) (defScope s_is_lowercase) .none kV_is_lowercase dc_is_lowercase pm_is_lowercase an_is_lowercase cd_is_lowercase ct_is_lowercase), sl_is_lowercase⟩)
    (c_is_lowercase : PySem.W.codeIn K cd_is_lowercase "is_lowercase" = true)
    (k_is_lowercase : PySem.W.keepIn K (.ref f_is_lowercase) = true)
    (a_is_uppercase : PySem.W.nsIn K mainGlobals "is_uppercase" = some (some (.ref f_is_uppercase)))
    (l_is_uppercase : K.lookup f_is_uppercase = some ⟨oc_is_uppercase, od_is_uppercase, .func (PySem.W.fnOf "is_uppercase" "is_uppercase" (defArgs s_is_uppercase) (defBody s_is_uppercase) (defScope s_is_uppercase) .none kV_is_uppercase dc_is_uppercase pm_is_uppercase an_is_uppercase cd_is_uppercase ct_is_uppercase), sl_is_uppercase⟩)
    (c_is_uppercase : PySem.W.codeIn K cd_is_uppercase "is_uppercase" = true)
    (k_is_uppercase : PySem.W.keepIn K (.ref f_is_uppercase) = true)
    (a_is_digit : PySem.W.nsIn K mainGlobals "is_digit" = some (some (.ref f_is_digit)))
    (l_is_digit : K.lookup f_is_digit = some ⟨oc_is_digit, od_is_digit, .func (PySem.W.fnOf "is_digit" "is_digit" (defArgs s_is_digit) (defBody s_is_digit) (defScope s_is_digit) .none kV_is_digit dc_is_digit pm_is_digit an_is_digit cd_is_digit ct_is_digit), sl_is_digit⟩)
    (c_is_digit : PySem.W.codeIn K cd_is_digit "is_digit" = true)
    (k_is_digit : PySem.W.keepIn K (.ref f_is_digit) = true)
    (a_is_continuation : PySem.W.nsIn K mainGlobals "is_continuation" = some (some (.ref f_is_continuation)))
    (l_is_continuation : K.lookup f_is_continuation = some ⟨oc_is_continuation, od_is_continuation, .func (PySem.W.fnOf "is_continuation" "is_continuation" (defArgs s_is_continuation) (defBody s_is_continuation) (defScope s_is_continuation) .none kV_is_continuation dc_is_continuation pm_is_continuation an_is_continuation cd_is_continuation ct_is_continuation), sl_is_continuation⟩)
    (c_is_continuation : PySem.W.codeIn K cd_is_continuation "is_continuation" = true)
    (k_is_continuation : PySem.W.keepIn K (.ref f_is_continuation) = true)
    (a_is_letter_or_digit : PySem.W.nsIn K mainGlobals "is_letter_or_digit" = some (some (.ref f_is_letter_or_digit)))
    (l_is_letter_or_digit : K.lookup f_is_letter_or_digit = some ⟨oc_is_letter_or_digit, od_is_letter_or_digit, .func (PySem.W.fnOf "is_letter_or_digit" "is_letter_or_digit" (defArgs s_is_letter_or_digit) (defBody s_is_letter_or_digit) (defScope s_is_letter_or_digit) .none kV_is_letter_or_digit dc_is_letter_or_digit pm_is_letter_or_digit an_is_letter_or_digit cd_is_letter_or_digit ct_is_letter_or_digit), sl_is_letter_or_digit⟩)
    (c_is_letter_or_digit : PySem.W.codeIn K cd_is_letter_or_digit "is_letter_or_digit" = true)
    (k_is_letter_or_digit : PySem.W.keepIn K (.ref f_is_letter_or_digit) = true)
    (a_announced_length : PySem.W.nsIn K mainGlobals "announced_length" = some (some (.ref f_announced_length)))
    (l_announced_length : K.lookup f_announced_length = some ⟨oc_announced_length, od_announced_length, .func (PySem.W.fnOf "announced_length" "announced_length" (defArgs s_announced_length) (defBody s_announced_length) (defScope s_announced_length) .none kV_announced_length dc_announced_length pm_announced_length an_announced_length cd_announced_length ct_announced_length), sl_announced_length⟩)
    (c_announced_length : PySem.W.codeIn K cd_announced_length "announced_length" = true)
    (k_announced_length : PySem.W.keepIn K (.ref f_announced_length) = true)
    (a_second_byte_fits : PySem.W.nsIn K mainGlobals "second_byte_fits" = some (some (.ref f_second_byte_fits)))
    (l_second_byte_fits : K.lookup f_second_byte_fits = some ⟨oc_second_byte_fits, od_second_byte_fits, .func (PySem.W.fnOf "second_byte_fits" "second_byte_fits" (defArgs s_second_byte_fits) (defBody s_second_byte_fits) (defScope s_second_byte_fits) .none kV_second_byte_fits dc_second_byte_fits pm_second_byte_fits an_second_byte_fits cd_second_byte_fits ct_second_byte_fits), sl_second_byte_fits⟩)
    (c_second_byte_fits : PySem.W.codeIn K cd_second_byte_fits "second_byte_fits" = true)
    (k_second_byte_fits : PySem.W.keepIn K (.ref f_second_byte_fits) = true)
    (a_sequence_length : PySem.W.nsIn K mainGlobals "sequence_length" = some (some (.ref f_sequence_length)))
    (l_sequence_length : K.lookup f_sequence_length = some ⟨oc_sequence_length, od_sequence_length, .func (PySem.W.fnOf "sequence_length" "sequence_length" (defArgs s_sequence_length) (defBody s_sequence_length) (defScope s_sequence_length) .none kV_sequence_length dc_sequence_length pm_sequence_length an_sequence_length cd_sequence_length ct_sequence_length), sl_sequence_length⟩)
    (c_sequence_length : PySem.W.codeIn K cd_sequence_length "sequence_length" = true)
    (k_sequence_length : PySem.W.keepIn K (.ref f_sequence_length) = true)
    (a_is_utf8 : PySem.W.nsIn K mainGlobals "is_utf8" = some (some (.ref f_is_utf8)))
    (l_is_utf8 : K.lookup f_is_utf8 = some ⟨oc_is_utf8, od_is_utf8, .func (PySem.W.fnOf "is_utf8" "is_utf8" (defArgs s_is_utf8) (defBody s_is_utf8) (defScope s_is_utf8) .none kV_is_utf8 dc_is_utf8 pm_is_utf8 an_is_utf8 cd_is_utf8 ct_is_utf8), sl_is_utf8⟩)
    (c_is_utf8 : PySem.W.codeIn K cd_is_utf8 "is_utf8" = true)
    (k_is_utf8 : PySem.W.keepIn K (.ref f_is_utf8) = true)
    (a_pieces : PySem.W.nsIn K mainGlobals "pieces" = some (some (.ref f_pieces)))
    (l_pieces : K.lookup f_pieces = some ⟨oc_pieces, od_pieces, .func (PySem.W.fnOf "pieces" "pieces" (defArgs s_pieces) (defBody s_pieces) (defScope s_pieces) .none kV_pieces dc_pieces pm_pieces an_pieces cd_pieces ct_pieces), sl_pieces⟩)
    (c_pieces : PySem.W.codeIn K cd_pieces "pieces" = true)
    (k_pieces : PySem.W.keepIn K (.ref f_pieces) = true)
    (a_words : PySem.W.nsIn K mainGlobals "words" = some (some (.ref f_words)))
    (l_words : K.lookup f_words = some ⟨oc_words, od_words, .func (PySem.W.fnOf "words" "words" (defArgs s_words) (defBody s_words) (defScope s_words) .none kV_words dc_words pm_words an_words cd_words ct_words), sl_words⟩)
    (c_words : PySem.W.codeIn K cd_words "words" = true)
    (k_words : PySem.W.keepIn K (.ref f_words) = true)
    (a_joined : PySem.W.nsIn K mainGlobals "joined" = some (some (.ref f_joined)))
    (l_joined : K.lookup f_joined = some ⟨oc_joined, od_joined, .func (PySem.W.fnOf "joined" "joined" (defArgs s_joined) (defBody s_joined) (defScope s_joined) .none kV_joined dc_joined pm_joined an_joined cd_joined ct_joined), sl_joined⟩)
    (c_joined : PySem.W.codeIn K cd_joined "joined" = true)
    (k_joined : PySem.W.keepIn K (.ref f_joined) = true)
    (a_ascii_bytes : PySem.W.nsIn K mainGlobals "ascii_bytes" = some (some (.ref f_ascii_bytes)))
    (l_ascii_bytes : K.lookup f_ascii_bytes = some ⟨oc_ascii_bytes, od_ascii_bytes, .func (PySem.W.fnOf "ascii_bytes" "ascii_bytes" (defArgs s_ascii_bytes) (defBody s_ascii_bytes) (defScope s_ascii_bytes) .none kV_ascii_bytes dc_ascii_bytes pm_ascii_bytes an_ascii_bytes cd_ascii_bytes ct_ascii_bytes), sl_ascii_bytes⟩)
    (c_ascii_bytes : PySem.W.codeIn K cd_ascii_bytes "ascii_bytes" = true)
    (k_ascii_bytes : PySem.W.keepIn K (.ref f_ascii_bytes) = true)
    (a_lower_byte : PySem.W.nsIn K mainGlobals "lower_byte" = some (some (.ref f_lower_byte)))
    (l_lower_byte : K.lookup f_lower_byte = some ⟨oc_lower_byte, od_lower_byte, .func (PySem.W.fnOf "lower_byte" "lower_byte" (defArgs s_lower_byte) (defBody s_lower_byte) (defScope s_lower_byte) .none kV_lower_byte dc_lower_byte pm_lower_byte an_lower_byte cd_lower_byte ct_lower_byte), sl_lower_byte⟩)
    (c_lower_byte : PySem.W.codeIn K cd_lower_byte "lower_byte" = true)
    (k_lower_byte : PySem.W.keepIn K (.ref f_lower_byte) = true)
    (a_slug_word : PySem.W.nsIn K mainGlobals "slug_word" = some (some (.ref f_slug_word)))
    (l_slug_word : K.lookup f_slug_word = some ⟨oc_slug_word, od_slug_word, .func (PySem.W.fnOf "slug_word" "slug_word" (defArgs s_slug_word) (defBody s_slug_word) (defScope s_slug_word) .none kV_slug_word dc_slug_word pm_slug_word an_slug_word cd_slug_word ct_slug_word), sl_slug_word⟩)
    (c_slug_word : PySem.W.codeIn K cd_slug_word "slug_word" = true)
    (k_slug_word : PySem.W.keepIn K (.ref f_slug_word) = true)
    (a_slug_of : PySem.W.nsIn K mainGlobals "slug_of" = some (some (.ref f_slug_of)))
    (l_slug_of : K.lookup f_slug_of = some ⟨oc_slug_of, od_slug_of, .func (PySem.W.fnOf "slug_of" "slug_of" (defArgs s_slug_of) (defBody s_slug_of) (defScope s_slug_of) .none kV_slug_of dc_slug_of pm_slug_of an_slug_of cd_slug_of ct_slug_of), sl_slug_of⟩)
    (c_slug_of : PySem.W.codeIn K cd_slug_of "slug_of" = true)
    (k_slug_of : PySem.W.keepIn K (.ref f_slug_of) = true)
    (a_with_length : PySem.W.nsIn K mainGlobals "with_length" = some (some (.ref f_with_length)))
    (l_with_length : K.lookup f_with_length = some ⟨oc_with_length, od_with_length, .func (PySem.W.fnOf "with_length" "with_length" (defArgs s_with_length) (defBody s_with_length) (defScope s_with_length) .none kV_with_length dc_with_length pm_with_length an_with_length cd_with_length ct_with_length), sl_with_length⟩)
    (c_with_length : PySem.W.codeIn K cd_with_length "with_length" = true)
    (k_with_length : PySem.W.keepIn K (.ref f_with_length) = true)
    (a_slug : PySem.W.nsIn K mainGlobals "slug" = some (some (.ref f_slug)))
    (l_slug : K.lookup f_slug = some ⟨oc_slug, od_slug, .func (PySem.W.fnOf "slug" "slug" (defArgs s_slug) (defBody s_slug) (defScope s_slug) .none kV_slug dc_slug pm_slug an_slug cd_slug ct_slug), sl_slug⟩)
    (c_slug : PySem.W.codeIn K cd_slug "slug" = true)
    (k_slug : PySem.W.keepIn K (.ref f_slug) = true)
    (g_SPACE : PySem.W.nsIn K mainGlobals "SPACE" = some (some (.int 32 t_SPACE)))
    (g_TAB : PySem.W.nsIn K mainGlobals "TAB" = some (some (.int 9 t_TAB)))
    (g_LINE_FEED : PySem.W.nsIn K mainGlobals "LINE_FEED" = some (some (.int 10 t_LINE_FEED)))
    (g_CARRIAGE_RETURN : PySem.W.nsIn K mainGlobals "CARRIAGE_RETURN" = some (some (.int 13 t_CARRIAGE_RETURN)))
    (g_LONGEST_SLUG : PySem.W.nsIn K mainGlobals "LONGEST_SLUG" = some (some (.int 30 t_LONGEST_SLUG)))
    (z_ord : PySem.W.nsIn K mainGlobals "ord" = some none)
    (z_len : PySem.W.nsIn K mainGlobals "len" = some none)
    (z_enumerate : PySem.W.nsIn K mainGlobals "enumerate" = some none) :
    ∃ fd : FuncData, (∀ (s : Shared) (us : List Value), us.length = (["text"] : List Str).length → BindsTo s fd ⟨us, []⟩ ((["text"] : List Str).zip us)) ∧ ∀ base : Heap, K.In base → base.Ns mainGlobals mg → FnOk P w K mg base CX0 5 fa fd ["text"] (spSlug K) := by
  have D_is_space : Dn K mg "is_space" s_is_space ["byte"] := dn_mk X G a_is_space l_is_space c_is_space k_is_space fun _ _ _ _ _ _ us hl => match us, hl with | [_], _ => rfl
  have D_is_lowercase : Dn K mg "is_lowercase" s_is_lowercase ["byte"] := dn_mk X G a_is_lowercase l_is_lowercase c_is_lowercase k_is_lowercase fun _ _ _ _ _ _ us hl => match us, hl with | [_], _ => rfl
  have D_is_uppercase : Dn K mg "is_uppercase" s_is_uppercase ["byte"] := dn_mk X G a_is_uppercase l_is_uppercase c_is_uppercase k_is_uppercase fun _ _ _ _ _ _ us hl => match us, hl with | [_], _ => rfl
  have D_is_digit : Dn K mg "is_digit" s_is_digit ["byte"] := dn_mk X G a_is_digit l_is_digit c_is_digit k_is_digit fun _ _ _ _ _ _ us hl => match us, hl with | [_], _ => rfl
  have D_is_continuation : Dn K mg "is_continuation" s_is_continuation ["byte"] := dn_mk X G a_is_continuation l_is_continuation c_is_continuation k_is_continuation fun _ _ _ _ _ _ us hl => match us, hl with | [_], _ => rfl
  have D_is_letter_or_digit : Dn K mg "is_letter_or_digit" s_is_letter_or_digit ["byte"] := dn_mk X G a_is_letter_or_digit l_is_letter_or_digit c_is_letter_or_digit k_is_letter_or_digit fun _ _ _ _ _ _ us hl => match us, hl with | [_], _ => rfl
  have D_announced_length : Dn K mg "announced_length" s_announced_length ["first"] := dn_mk X G a_announced_length l_announced_length c_announced_length k_announced_length fun _ _ _ _ _ _ us hl => match us, hl with | [_], _ => rfl
  have D_second_byte_fits : Dn K mg "second_byte_fits" s_second_byte_fits ["first", "second"] := dn_mk X G a_second_byte_fits l_second_byte_fits c_second_byte_fits k_second_byte_fits fun _ _ _ _ _ _ us hl => match us, hl with | [_, _], _ => rfl
  have D_sequence_length : Dn K mg "sequence_length" s_sequence_length ["data", "start"] := dn_mk X G a_sequence_length l_sequence_length c_sequence_length k_sequence_length fun _ _ _ _ _ _ us hl => match us, hl with | [_, _], _ => rfl
  have D_is_utf8 : Dn K mg "is_utf8" s_is_utf8 ["data"] := dn_mk X G a_is_utf8 l_is_utf8 c_is_utf8 k_is_utf8 fun _ _ _ _ _ _ us hl => match us, hl with | [_], _ => rfl
  have D_pieces : Dn K mg "pieces" s_pieces ["text"] := dn_mk X G a_pieces l_pieces c_pieces k_pieces fun _ _ _ _ _ _ us hl => match us, hl with | [_], _ => rfl
  have D_words : Dn K mg "words" s_words ["text"] := dn_mk X G a_words l_words c_words k_words fun _ _ _ _ _ _ us hl => match us, hl with | [_], _ => rfl
  have D_joined : Dn K mg "joined" s_joined ["texts", "separator"] := dn_mk X G a_joined l_joined c_joined k_joined fun _ _ _ _ _ _ us hl => match us, hl with | [_, _], _ => rfl
  have D_ascii_bytes : Dn K mg "ascii_bytes" s_ascii_bytes ["text"] := dn_mk X G a_ascii_bytes l_ascii_bytes c_ascii_bytes k_ascii_bytes fun _ _ _ _ _ _ us hl => match us, hl with | [_], _ => rfl
  have D_lower_byte : Dn K mg "lower_byte" s_lower_byte ["byte"] := dn_mk X G a_lower_byte l_lower_byte c_lower_byte k_lower_byte fun _ _ _ _ _ _ us hl => match us, hl with | [_], _ => rfl
  have D_slug_word : Dn K mg "slug_word" s_slug_word ["word"] := dn_mk X G a_slug_word l_slug_word c_slug_word k_slug_word fun _ _ _ _ _ _ us hl => match us, hl with | [_], _ => rfl
  have D_slug_of : Dn K mg "slug_of" s_slug_of ["text"] := dn_mk X G a_slug_of l_slug_of c_slug_of k_slug_of fun _ _ _ _ _ _ us hl => match us, hl with | [_], _ => rfl
  have D_with_length : Dn K mg "with_length" s_with_length ["data"] := dn_mk X G a_with_length l_with_length c_with_length k_with_length fun _ _ _ _ _ _ us hl => match us, hl with | [_], _ => rfl
  have D_slug : Dn K mg "slug" s_slug ["text"] := dn_mk X G a_slug l_slug c_slug k_slug fun _ _ _ _ _ _ us hl => match us, hl with | [_], _ => rfl
  have C_SPACE : IsC mg "SPACE" (.int 32) := ⟨_, PySem.W.mg_of X G g_SPACE, _, rfl⟩
  have C_TAB : IsC mg "TAB" (.int 9) := ⟨_, PySem.W.mg_of X G g_TAB, _, rfl⟩
  have C_LINE_FEED : IsC mg "LINE_FEED" (.int 10) := ⟨_, PySem.W.mg_of X G g_LINE_FEED, _, rfl⟩
  have C_CARRIAGE_RETURN : IsC mg "CARRIAGE_RETURN" (.int 13) := ⟨_, PySem.W.mg_of X G g_CARRIAGE_RETURN, _, rfl⟩
  have C_LONGEST_SLUG : IsC mg "LONGEST_SLUG" (.int 30) := ⟨_, PySem.W.mg_of X G g_LONGEST_SLUG, _, rfl⟩
  have n_ord : mg "ord" = none := PySem.W.mg_none_of X G z_ord
  have n_len : mg "len" = none := PySem.W.mg_none_of X G z_len
  have n_enumerate : mg "enumerate" = none := PySem.W.mg_none_of X G z_enumerate
  have go : ∀ base : Heap, FnOk P w K mg base CX0 5 f_slug _ ["text"] (spSlug K) := fun base => by
    have o_is_space := ok_is_space (P := P) (w := w) (base := base) D_is_space C_SPACE C_TAB C_LINE_FEED C_CARRIAGE_RETURN
    have o_is_lowercase := ok_is_lowercase (P := P) (w := w) (base := base) D_is_lowercase n_ord
    have o_is_uppercase := ok_is_uppercase (P := P) (w := w) (base := base) D_is_uppercase n_ord
    have o_is_digit := ok_is_digit (P := P) (w := w) (base := base) D_is_digit n_ord
    have o_is_continuation := ok_is_continuation (P := P) (w := w) (base := base) D_is_continuation
    have o_ld := ok_is_letter_or_digit D_is_letter_or_digit o_is_lowercase o_is_uppercase o_is_digit
    have o_ann := ok_announced_length (P := P) (w := w) (base := base) D_announced_length
    have o_sbf := ok_second_byte_fits (P := P) (w := w) (base := base) D_second_byte_fits
    have o_seq := ok_sequence_length D_sequence_length n_len o_ann o_is_continuation o_sbf
    have o_utf := ok_is_utf8 D_is_utf8 n_len o_seq
    have o_pieces := ok_pieces D_pieces o_is_space
    have o_words := ok_words D_words o_is_space o_pieces
    have o_joined := ok_joined (P := P) (w := w) (base := base) D_joined n_enumerate
    have o_ascii := ok_ascii_bytes (P := P) (w := w) (base := base) D_ascii_bytes n_ord
    have o_lower := ok_lower_byte D_lower_byte n_ord o_is_uppercase
    have o_sw := ok_slug_word D_slug_word o_ld o_lower
    have o_so := ok_slug_of D_slug_of n_ord C_SPACE C_LONGEST_SLUG o_words o_sw o_joined o_ascii
    have o_wl := ok_with_length (P := P) (w := w) (base := base) D_with_length n_len
    exact fn_slug (fun_mk l_slug c_slug k_slug) o_utf o_wl o_so
  cases hfa.symm.trans (PySem.W.mg_of X G a_slug)
  exact ⟨_, fun s us hu => match us, hu with | [_], _ => .of_eq rfl, fun base _ _ => go base⟩
end
end Bt
open PySem PySem.W PyProof.Rows
set_option maxRecDepth 100000 in
set_option maxHeartbeats 8000000 in
theorem PySem.Challenge.cw_blocktrees_s08_slug_holds : PySem.Challenge.rw_blocktrees_s08_slug.Holds := by
  w_on; k_headS; (case hw => exact ⟨[.list []], by decide +kernel, by decide +kernel⟩)
  k_fillS
  refine L2.walk_specK (r := PySem.Challenge.rw_blocktrees_s08_slug) (k := 5) (CX := L2.CX0) (ps := ["text"]) (sp := fun K => Bt.spSlug K) (by decide +kernel) rfl rfl ⟨rfl, by decide, by decide⟩ (fun w h Y => PySem.W.kIn_of Y) ?F ?S (fun _ _ _ _ z => z)
  case F =>
    intro w mg fa h Y KX G hmg
    refine' Bt.all_mk KX G hmg ?a_is_space ?l_is_space ?c_is_space ?k_is_space ?a_is_lowercase ?l_is_lowercase ?c_is_lowercase ?k_is_lowercase ?a_is_uppercase ?l_is_uppercase ?c_is_uppercase ?k_is_uppercase ?a_is_digit ?l_is_digit ?c_is_digit ?k_is_digit ?a_is_continuation ?l_is_continuation ?c_is_continuation ?k_is_continuation ?a_is_letter_or_digit ?l_is_letter_or_digit ?c_is_letter_or_digit ?k_is_letter_or_digit ?a_announced_length ?l_announced_length ?c_announced_length ?k_announced_length ?a_second_byte_fits ?l_second_byte_fits ?c_second_byte_fits ?k_second_byte_fits ?a_sequence_length ?l_sequence_length ?c_sequence_length ?k_sequence_length ?a_is_utf8 ?l_is_utf8 ?c_is_utf8 ?k_is_utf8 ?a_pieces ?l_pieces ?c_pieces ?k_pieces ?a_words ?l_words ?c_words ?k_words ?a_joined ?l_joined ?c_joined ?k_joined ?a_ascii_bytes ?l_ascii_bytes ?c_ascii_bytes ?k_ascii_bytes ?a_lower_byte ?l_lower_byte ?c_lower_byte ?k_lower_byte ?a_slug_word ?l_slug_word ?c_slug_word ?k_slug_word ?a_slug_of ?l_slug_of ?c_slug_of ?k_slug_of ?a_with_length ?l_with_length ?c_with_length ?k_with_length ?a_slug ?l_slug ?c_slug ?k_slug ?g_SPACE ?g_TAB ?g_LINE_FEED ?g_CARRIAGE_RETURN ?g_LONGEST_SLUG ?z_ord ?z_len ?z_enumerate
    (case a_is_space => k_is)
    (case l_is_space => k_is)
    (case c_is_space => k_is)
    (case k_is_space => k_is)
    (case a_is_lowercase => k_is)
    (case l_is_lowercase => k_is)
    (case c_is_lowercase => k_is)
    (case k_is_lowercase => k_is)
    (case a_is_uppercase => k_is)
    (case l_is_uppercase => k_is)
    (case c_is_uppercase => k_is)
    (case k_is_uppercase => k_is)
    (case a_is_digit => k_is)
    (case l_is_digit => k_is)
    (case c_is_digit => k_is)
    (case k_is_digit => k_is)
    (case a_is_continuation => k_is)
    (case l_is_continuation => k_is)
    (case c_is_continuation => k_is)
    (case k_is_continuation => k_is)
    (case a_is_letter_or_digit => k_is)
    (case l_is_letter_or_digit => k_is)
    (case c_is_letter_or_digit => k_is)
    (case k_is_letter_or_digit => k_is)
    (case a_announced_length => k_is)
    (case l_announced_length => k_is)
    (case c_announced_length => k_is)
    (case k_announced_length => k_is)
    (case a_second_byte_fits => k_is)
    (case l_second_byte_fits => k_is)
    (case c_second_byte_fits => k_is)
    (case k_second_byte_fits => k_is)
    (case a_sequence_length => k_is)
    (case l_sequence_length => k_is)
    (case c_sequence_length => k_is)
    (case k_sequence_length => k_is)
    (case a_is_utf8 => k_is)
    (case l_is_utf8 => k_is)
    (case c_is_utf8 => k_is)
    (case k_is_utf8 => k_is)
    (case a_pieces => k_is)
    (case l_pieces => k_is)
    (case c_pieces => k_is)
    (case k_pieces => k_is)
    (case a_words => k_is)
    (case l_words => k_is)
    (case c_words => k_is)
    (case k_words => k_is)
    (case a_joined => k_is)
    (case l_joined => k_is)
    (case c_joined => k_is)
    (case k_joined => k_is)
    (case a_ascii_bytes => k_is)
    (case l_ascii_bytes => k_is)
    (case c_ascii_bytes => k_is)
    (case k_ascii_bytes => k_is)
    (case a_lower_byte => k_is)
    (case l_lower_byte => k_is)
    (case c_lower_byte => k_is)
    (case k_lower_byte => k_is)
    (case a_slug_word => k_is)
    (case l_slug_word => k_is)
    (case c_slug_word => k_is)
    (case k_slug_word => k_is)
    (case a_slug_of => k_is)
    (case l_slug_of => k_is)
    (case c_slug_of => k_is)
    (case k_slug_of => k_is)
    (case a_with_length => k_is)
    (case l_with_length => k_is)
    (case c_with_length => k_is)
    (case k_with_length => k_is)
    (case a_slug => k_is)
    (case l_slug => k_is)
    (case c_slug => k_is)
    (case k_slug => k_is)
    (case g_SPACE => k_is)
    (case g_TAB => k_is)
    (case g_LINE_FEED => k_is)
    (case g_CARRIAGE_RETURN => k_is)
    (case g_LONGEST_SLUG => k_is)
    (case z_ord => k_is)
    (case z_len => k_is)
    (case z_enumerate => k_is)
  case S =>
    intro K H xs a hO hwi hask hx
    cases hx with
    | cons h1 h2 =>
      cases h2
      cases h1 with
      | lst hs ha =>
        have e := L2.ints_dw a.1 _ ha
        subst e
        have q : ((Codec.inLen 0 600 a.1 && a.1.all (Codec.inInt 0 255)) && true) = true := hwi
        rw [Bool.and_eq_true, Bool.and_eq_true] at q
        have hle := (Codec.inNat_iff.mp q.1.1).2
        have hb : ∀ x ∈ a.1, 0 ≤ x ∧ x ≤ 255 := fun x hx => by
          have := List.all_eq_true.mp q.1.2 x hx
          simpa [Codec.inInt] using this
        refine ⟨_, a.1.map Int.toNat, rfl, ⟨_, rfl, ?_⟩, by rw [List.length_map]; omega, fun p H' hp => ?_⟩
        · rw [Bt.nV_toNat hb]; exact hs
        · rw [Bt.slug_is a.1 hb] at hp
          exact .lst (L2.SqL.of hp) (L2.dw_ints _)
#print axioms PySem.Challenge.cw_blocktrees_s08_slug_holds

