import PyProof.Rows.All
import Wide.All
import OpenK.AllK
import Wide.FinOn
import HandS.ForMost
import HandS.Exc
import HandS.TryOnly
import HandS.ExcOwn
import HandS.WordsExc
import HandS.TryMany
import HandS.IsInst
import HandS.Property
import HandS.Wide
import HandS.SortInts
import HandS.Conv
import HandS.Evl
import HandS.NoneIn
import HandS.ExcIs
import HandS.ExcSuper
import KE.KExcSuper
import KE.KExcInit
import KE.GoesMore
import HandS.Rev
import HandS.FStr
import HandS.Walk
import HandS.WideMore
import HandS.TupAny
import HandS.TupMul
import HandS.Style
import HandS.SetFor
import HandS.Strs
import HandS.Defaults
import HandS.RaiseMore
import HandS.Zip
import KE.KDictZip
import KE.KDictDisplayH
import KE.KDictKeyed
import KE.KeyNested
import HandS.TupLen
import HandS.Deep
import PySem.Challenge.RW_resttricks_k24_whole_back_machines
set_option Elab.async false
set_option linter.all false
set_option maxRecDepth 100000
set_option maxHeartbeats 2000000
namespace Rt
open PySem L2 PySem.Spec PyProof.Rows
/-! ### the text by places -/
def topS (i : Nat) : Stmt := PySem.Challenge.pw_resttricks_k24_whole_back_machines.main.body.getD i (.Pass ⟨0, 0, 0, 0⟩)
abbrev s_is_integer : Stmt := topS 8
abbrev s_is_tuple : Stmt := topS 9
abbrev s_first_wrong : Stmt := topS 10
abbrev s_check_base : Stmt := topS 11
abbrev s_check_figures : Stmt := topS 14
abbrev s_back_states : Stmt := topS 18
abbrev s_back_word : Stmt := topS 19
abbrev s_check_labels : Stmt := topS 20
abbrev s_back_machine : Stmt := topS 21
abbrev s_state_behind : Stmt := topS 22
abbrev s_classes : Stmt := topS 23
abbrev s_numbered : Stmt := topS 24
abbrev s_least_word : Stmt := topS 25
abbrev s__law_taken : Stmt := topS 27
abbrev s__law_labels : Stmt := topS 28
abbrev s__law_marks : Stmt := topS 29
abbrev s__law_least_word : Stmt := topS 30
abbrev s__law_back : Stmt := topS 31
abbrev s__law_read : Stmt := topS 32
abbrev s_law : Stmt := topS 33
abbrev s_BadFigures___init__ : Stmt := inClass (topS 3) 0
abbrev s_BadRests___init__ : Stmt := inClass (topS 4) 0
theorem sc_is_integer : FnScope ["told", "low", "high"] ["told", "low", "high"] (defScope s_is_integer) := ⟨rfl, rfl, rfl, by decide +kernel, rfl, by decide +kernel, by decide +kernel⟩
abbrev lv_is_integer : Nat := 1
theorem sc_is_tuple : FnScope ["told", "fewest", "most"] ["told", "fewest", "most"] (defScope s_is_tuple) := ⟨rfl, rfl, rfl, by decide +kernel, rfl, by decide +kernel, by decide +kernel⟩
abbrev lv_is_tuple : Nat := 1
theorem sc_first_wrong : FnScope ["told", "low", "high", "index", "thing"] ["told", "low", "high"] (defScope s_first_wrong) := ⟨rfl, rfl, rfl, by decide +kernel, rfl, by decide +kernel, by decide +kernel⟩
abbrev lv_first_wrong : Nat := 2
theorem sc_check_base : FnScope ["base"] ["base"] (defScope s_check_base) := ⟨rfl, rfl, rfl, by decide +kernel, rfl, by decide +kernel, by decide +kernel⟩
abbrev lv_check_base : Nat := 2
theorem sc_check_figures : FnScope ["told", "base", "fewest", "index"] ["told", "base", "fewest"] (defScope s_check_figures) := ⟨rfl, rfl, rfl, by decide +kernel, rfl, by decide +kernel, by decide +kernel⟩
abbrev lv_check_figures : Nat := 3
theorem sc_back_states : FnScope ["base", "labels"] ["base", "labels"] (defScope s_back_states) := ⟨rfl, rfl, rfl, by decide +kernel, rfl, by decide +kernel, by decide +kernel⟩
abbrev lv_back_states : Nat := 4
theorem sc_back_word : FnScope ["base", "labels", "one", "other", "machine"] ["base", "labels", "one", "other"] (defScope s_back_word) := ⟨rfl, rfl, rfl, by decide +kernel, rfl, by decide +kernel, by decide +kernel⟩
abbrev lv_back_word : Nat := 4
theorem sc_check_labels : FnScope ["labels", "index"] ["labels"] (defScope s_check_labels) := ⟨rfl, rfl, rfl, by decide +kernel, rfl, by decide +kernel, by decide +kernel⟩
abbrev lv_check_labels : Nat := 3
theorem sc_back_machine : FnScope ["base", "labels", "d", "reached", "numbers", "steps", "rest", "power", "row", "figure", "later"] ["base", "labels"] (defScope s_back_machine) := ⟨rfl, rfl, rfl, by decide +kernel, rfl, by decide +kernel, by decide +kernel⟩
abbrev lv_back_machine : Nat := 1
theorem sc_state_behind : FnScope ["machine", "word", "steps", "state", "figure"] ["machine", "word"] (defScope s_state_behind) := ⟨rfl, rfl, rfl, by decide +kernel, rfl, by decide +kernel, by decide +kernel⟩
abbrev lv_state_behind : Nat := 1
theorem sc_classes : FnScope ["machine", "told", "steps", "found", "finer", "state", "row", "later"] ["machine"] (defScope s_classes) := ⟨rfl, rfl, rfl, by decide +kernel, rfl, by decide +kernel, by decide +kernel⟩
abbrev lv_classes : Nat := 2
theorem sc_numbered : FnScope ["things", "numbers", "found", "thing"] ["things"] (defScope s_numbered) := ⟨rfl, rfl, rfl, by decide +kernel, rfl, by decide +kernel, by decide +kernel⟩
abbrev lv_numbered : Nat := 1
theorem sc_least_word : FnScope ["machine", "one", "other", "told", "steps", "words", "pairs", "further", "left", "right", "word", "figure", "pair"] ["machine", "one", "other"] (defScope s_least_word) := ⟨rfl, rfl, rfl, by decide +kernel, rfl, by decide +kernel, by decide +kernel⟩
abbrev lv_least_word : Nat := 1
theorem sc__law_taken : FnScope ["_law_row", "_law_many", "_law_found", "_law_cell"] ["_law_row", "_law_many"] (defScope s__law_taken) := ⟨rfl, rfl, rfl, by decide +kernel, rfl, by decide +kernel, by decide +kernel⟩
abbrev lv__law_taken : Nat := 1
theorem sc__law_labels : FnScope ["_law_row", "_law_most", "_law_d", "_law_kind", "_law_rest"] ["_law_row", "_law_most"] (defScope s__law_labels) := ⟨rfl, rfl, rfl, by decide +kernel, rfl, by decide +kernel, by decide +kernel⟩
abbrev lv__law_labels : Nat := 2
theorem sc__law_marks : FnScope ["_law_labels_here", "_law_nexts", "_law_many", "_law_found", "_law_one", "_law_other", "_law_changed", "_law_size", "_law_figure"] ["_law_labels_here", "_law_nexts"] (defScope s__law_marks) := ⟨rfl, rfl, rfl, by decide +kernel, rfl, by decide +kernel, by decide +kernel⟩
abbrev lv__law_marks : Nat := 1
theorem sc__law_least_word : FnScope ["_law_nexts", "_law_marks_here", "_law_one", "_law_other", "_law_found", "_law_size", "_law_good", "_law_figure"] ["_law_nexts", "_law_marks_here", "_law_one", "_law_other"] (defScope s__law_least_word) := ⟨rfl, rfl, rfl, by decide +kernel, rfl, by decide +kernel, by decide +kernel⟩
abbrev lv__law_least_word : Nat := 1
theorem sc__law_back : FnScope ["_law_base", "_law_d", "_law_states", "_law_nexts", "_law_at", "_law_rest", "_law_unit", "_law_some", "_law_figure", "_law_more", "_law_later"] ["_law_base", "_law_d"] (defScope s__law_back) := ⟨rfl, rfl, rfl, by decide +kernel, rfl, by decide +kernel, by decide +kernel⟩
abbrev lv__law_back : Nat := 1
theorem sc__law_read : FnScope ["_law_nexts", "_law_word", "_law_state", "_law_figure"] ["_law_nexts", "_law_word"] (defScope s__law_read) := ⟨rfl, rfl, rfl, by decide +kernel, rfl, by decide +kernel, by decide +kernel⟩
abbrev lv__law_read : Nat := 1
theorem sc_law : FnScope ["_law_script", "_law_line", "_law_base", "_law_labels_here", "_law_states", "_law_nexts", "_law_told", "_law_marks_here", "_law_heads", "_law_state", "_law_turn", "_law_one", "_law_other", "_law_due", "_law_rest", "_law_unit", "_law_head", "_law_k"] ["_law_script"] (defScope s_law) := ⟨rfl, rfl, rfl, by decide +kernel, rfl, by decide +kernel, by decide +kernel⟩
abbrev lv_law : Nat := 6
/-! ### what is known of the top behind its run -/
/-! ### an own error whose __init__ says super().__init__(text); self.F = F -/
end Rt
namespace ErrX
open PySem PySem.W PySem.Calls PyProof.Rows PySem.HandSPX
/-- what the written part says of such a class at C, its field F, its __init__ at fI -/
structure ErrTxt (P : Program) (K : Frag) (mg : Str → Option Value) (x fld : Str) (C fI : Addr) (ae : PySem.Expr) (st : Stmt) : Prop where
  gC : mg x = some (.ref C)
  cls : ∃ nm q N bs bm sn sub ab col dd k0 k1 k2 k3 k5, K.lookup C = some (excClassObj nm q C N bs bm true sn sub ab col dd k0 k1 k2 k3 k5 "ValueError.__new__") ∧ refsVE bm = true
  sa : findIn K (.ref C) "__setattr__" = some (some (.builtin "object.__setattr__"))
  ga : findIn K (.ref C) "__getattribute__" = some (some (.builtin "BaseException.__getattribute__"))
  gg : findIn K (.ref C) "__getattr__" = some none
  noF : findIn K (.ref C) fld = some none
  iC : findIn K (.ref C) "__init__" = some (some (.ref fI))
  tC : typeIn K (.ref fI) = some (.type "function")
  kC : keepIn K (.ref C) = true
  exC : subIn K (.ref C) (.type "BaseException") = some true
  tyC : typeIn K (.ref C) = some (.type "type")
  hdC : hasDictIn K C = true
  up : ks_superIn K C C "__init__" = some (some (.builtin "ValueError.__init__"))
  any : nsIn K cStatics "thirdparty.any" = some none
  ve : subIn K (.ref C) (.type "ValueError") = some true
  own : mroIn K C (.ref C) = some true
  sup : mg "super" = none
  main : (P.main.scope.names.lookup ("super" : Str)).isSome = false
  fn : ∃ (oc : Value) (od : Option Addr) (doc pm : Value) (an : Option Addr) (cda : Addr) (ct : Value) (osl : Array (Option Value)) (cc : Addr) (vs : Array Value) (file : Str) (tf : Tok) (ccl cl : Value) (cdd cld : Option Addr) (ccs csl : Array (Option Value)) (qual : Str),
    K.lookup fI = some ⟨oc, od, .func (ksFn "__init__" qual (L2.defArgs st) (L2.defBody st) (L2.defScope st) .none .none doc pm an (.ref cda) ct cc), osl⟩ ∧ codeIn K (.ref cda) qual = true ∧
    K.lookup cda = some ⟨ccl, cdd, .fields vs, ccs⟩ ∧ vs[2]? = some (.str file tf) ∧ ((P.main.file : Str) == file) = true ∧ K.lookup cc = some ⟨cl, cld, .cell (some (.ref C)), csl⟩
  text : ∃ (p0 p1 p2 p3 p4 q1 q2 q3 q4 a1 a2 : Pos), L2.defBody st = [.Expr (.Call (.Attribute (.Call (.Name "super" p0) [] [] p1) "__init__" p2) [ae] [] p3) p4, .Assign [.Attribute (.Name "self" q1) fld q2] (.Name fld q3) q4] ∧
    L2.defArgs st = { posonlyargs := [], args := [{ arg := "self", annotation := none, pos := a1 }, { arg := fld, annotation := none, pos := a2 }], vararg := none, kwonlyargs := [], kw_defaults := [], kwarg := none, defaults := [] } ∧
    ∀ env : Env, eval (.Call (.Attribute (.Call (.Name "super" p0) [] [] p1) "__init__" p2) [ae] [] p3) env = (do
      let ov ← attributeBase (.Call (.Name "super" p0) [] [] p1) "__init__" env (eval (.Call (.Name "super" p0) [] [] p1) env)
      standAt p2.atName
      let (f, first) ← holding [ov] (getMethod ov "__init__" (do return (← importBound (.Call (.Name "super" p0) [] [] p1) env).getD true))
      callWith p3 f first (backTo p3 (starEach [ae] env)) [])
  kS : (L2.defScope st).names.lookup ("super" : Str) = some .globalImplicit
  kK : (L2.defScope st).names.lookup ("__class__" : Str) = some .free
  k0 : (L2.defScope st).names.lookup ("self" : Str) = some .local
  kF : (L2.defScope st).names.lookup fld = some .local
  nF : (("self" : Str) == fld) = false
  nD : (fld == ("__debug__" : Str)) = false
  noCell : ∀ y ∈ (L2.defScope st).names, y.2 ≠ .cell
  bind : ∀ (qual : Str) (doc pm : Value) (an : Option Addr) (cda : Addr) (ct : Value) (cc : Addr) (u v : Value), bindArgs (ksFn "__init__" qual (L2.defArgs st) (L2.defBody st) (L2.defScope st) .none .none doc pm an (.ref cda) ct cc) ⟨[u, v], []⟩ = pure [(("self" : Str), u), (fld, v)]
  plain : ∀ env : Env, starEach (ae :: []) env = (false, eval ae env) :: starEach [] env
  knd : (L2.defScope st).kind = .function
  co : (L2.defScope st).isCoroutine = false
  gen : (L2.defScope st).isGenerator = false
/-- what __init__ leaves of a fresh error at x -/
structure EndOf (h h' : Heap) (x C dx t1 : Addr) (fld : Str) (v : Value) : Prop where
  keep : ∀ b o, b ≠ x → h.get? b = some o → h'.get? b = some o
  obj : h'.get? x = some { cls := .ref C, dict := some dx, data := .fields #[.ref t1, .none, .none, .none, .bool false, .none] }
  dbig : h.objs.size ≤ dx
  dne : dx ≠ x
  ns : h'.Ns1 dx (fun y => if y = fld then some v else none)
/-- the argument of super().__init__ is a text, whatever the field is -/
def ArgOk (prog : Program) (w : World) (ae : PySem.Expr) (fld : Str) (v : Value) : Prop := ∀ (env : Env) (m : Str → Option Value) (A : Around) (Q : Value → Shared → Prop) (E : Value → Shared → Prop) (s : Shared), s.heap.Ns env.locals m → m fld = some v → env.scope.kind = .function → env.kindOf fld = some .local →
  (∀ z t tk, Q (.str z t) { s with toks := tk }) → wpAny (model prog w) A (eval ae env) Q E s
theorem argOk_const {prog : Program} {w : World} {ae : PySem.Expr} {fld : Str} {v : Value} {z : Str} {k : Nat} {pos : Pos} (h : ae = .Constant (.str z) k pos) : ArgOk prog w ae fld v := by
  intro env m A Q E s _ _ _ _ hq
  rw [h]
  exact wpAny_Constant_str (hq _ _ _)
/-- None, or an int whose text is short -/
def NoneInt (v : L2.V) : Prop := v = .non ∨ ∃ i : Int, v = .int i ∧ i.natAbs.log2 < 1920
theorem argOk_f {prog : Program} {w : World} {ae : PySem.Expr} {fld : Str} {v : L2.V} {u : Value} {z : Str} {k : Nat} {p1 p2 p3 p4 : Pos} (n : NoneInt v) (r : L2.RelV v u)
    (h : ae = .JoinedStr [.Constant (.str z) k p1, .FormattedValue (.Name fld p2) (-1) none p3] p4 := by rfl) (hz : z.length ≤ 1000 := by decide) (hd : (fld == ("__debug__" : Str)) = false := by decide) : ArgOk prog w ae fld u := by
  intro env m A Q E s hn hv hk hl hq
  rw [h]
  have e0 : evalEach [.Constant (.str z) k p1, .FormattedValue (.Name fld p2) (-1) none p3] env = [eval (.Constant (.str z) k p1) env, eval (.FormattedValue (.Name fld p2) (-1) none p3) env] := by first | rfl | simp [evalEach]
  refine wpAny_JoinedStr ?_
  rw [e0]
  refine wpAny_Constant_str ?_
  have l0 : (Str.empty ++ z).length ≤ 1000 := by
    rw [Str.length_append]
    exact Nat.le_trans (Nat.le_of_eq (Nat.zero_add _)) hz
  refine ⟨z, _, rfl, Nat.le_trans l0 (by rw [sizeLine_eq]; decide), ?_⟩
  refine wpAny_FormattedValue_plain (wpAny_Name (wpAny_loadName_local hk hl hn hv ?_) hd)
  rcases n with rfl | ⟨i, rfl, hi⟩
  · cases r
    refine wpAny_formatField_none ⟨"None", _, rfl, ?_, ?_⟩
    · rw [Str.length_append, sizeLine_eq]
      have e : ("None" : Str).length = 4 := by decide
      omega
    · refine ⟨?_, hq _ _ _⟩
      rw [Str.length_append, sizeLine_eq]
      have e : ("None" : Str).length = 4 := by decide
      omega
  · obtain ⟨t, rfl⟩ := r
    refine wpAny_formatField_int hi ⟨_, _, rfl, ?_, ?_⟩
    · rw [Str.length_append, sizeLine_eq]
      have e := int_text_length_le (k := 1920) (by decide) hi
      have e2 : (Str.ofString (toString i)).length = (toString i).length := PySem.ofString_length _
      omega
    · refine ⟨?_, hq _ _ _⟩
      rw [Str.length_append, sizeLine_eq]
      have e := int_text_length_le (k := 1920) (by decide) hi
      have e2 : (Str.ofString (toString i)).length = (toString i).length := PySem.ofString_length _
      omega
/-- the argument of super().__init__ in the text of an __init__ -/
def aeOf (st : Stmt) : PySem.Expr := match L2.defBody st with
  | .Expr (.Call _ (a :: _) _ _) _ :: _ => a
  | _ => .Name "self" ⟨0, 0, 0, 0⟩
section
variable {prog : Program} {w : World} {A : Around} {E : Value → Shared → Prop} {hp : Heap} {g : Array GenState} {d : Drawn} {tk : Nat} {os : OsState}
/-- the bound __init__ of the base, called: the args are laid anew -/
theorem base_init {nm q : Str} {C N u e t0 : Addr} {bs bm : List Value} {sn : List Str} {sub : List Value} {ab : Bool} {col : Option Bool} {dd : Option Addr} {k0 k1 k2 k3 k5 : Option Value} {rest : List Value} {Q : Value → Shared → Prop}
    (hC : hp.get? C = some (excClassObj nm q C N bs bm true sn sub ab col dd k0 k1 k2 k3 k5 "ValueError.__new__")) (he : hp.get? e = some (excO C t0)) (hu : hp.get? u = some (kxs_mw "ValueError.__init__" e)) (hz : rest.length ≤ sizeLine)
    (k : ∀ h' t1, (∀ b o, b ≠ e → hp.get? b = some o → h'.get? b = some o) → h'.get? e = some (excO C t1) → Q .none ⟨h', g, d, tk, os⟩) : wpAny (model prog w) A (call (.ref u) rest) Q E ⟨hp, g, d, tk, os⟩ := by
  refine wpAny_call (codeAny_of_tree ?_)
  show wpAny _ A.in1 (callAny (.ref u) { pos := rest }) _ _ _
  unfold callAny
  refine wpAny_bind (wpAny_load hu ?_)
  have c1 : (Value.type "method-wrapper" == Value.type "method" || Value.type "method-wrapper" == Value.type "builtin_function_or_method" ||
    Value.type "method-wrapper" == Value.type "method-wrapper") = true := by decide
  simp only [kxs_mw, c1, if_true]
  refine KFB.if_so (by decide) (wpAny_bind (ESX.check_bound F.excBase_ValueError hC he rfl (wpAny_bind (wpAny_pure (wpAny_pure ?_)))))
  have FB := F.excBase_ValueError
  refine ⟨plainId_quiet FB.init.plain _, codeAny_builtin FB.initEntry ?_⟩
  rw [Around.under_plainId FB.init.plain _]
  wp_walk
  refine k _ hp.objs.size (fun b o n z => ?_) ?_
  · rw [Heap.get?_update_other _ _ (Ne.symm n)]
    exact Heap.get?_push_of_some _ z
  · rw [Heap.get?_update_self _ (Heap.get?_push_of_some _ he) rfl]
    rfl
theorem call_bound1 {M : Model} {s : Shared} {pos : Pos} {u b : Addr} {env : Env} {ae : PySem.Expr} {i : String} {Q : Value → Shared → Prop} (hpl : starEach (ae :: []) env = (false, eval ae env) :: starEach [] env)
    (h : wpAny M A (eval ae env) (fun v s₁ => KxsAt i u b s₁.heap ∧ wpAny M A (call (.ref u) [v]) Q E s₁) E s) : wpAny M A (callWith pos (.ref u) [] (backTo pos (starEach [ae] env)) []) Q E s := by
  have q : wpAny M A (spliced (backTo pos (starEach (ae :: []) env))) (fun vs s₁ => KxsAt i u b s₁.heap ∧ wpAny M A (call (.ref u) vs) Q E s₁) E s := args_cons (he := hpl) (wpAny_mono h (fun v s₁ z => wpAny_of_eq rfl z) fun _ _ z => z)
  rw [hpl] at q ⊢
  exact kxs_callWith (x := b) rfl (evalArgs_plain q)
theorem err_init {R : Result → Shared → Prop} {K : Frag} {mg mb : Str → Option Value} {x fld : Str} {C fI e t0 : Addr} {ae : PySem.Expr} {st : Stmt} {v : Value} (T : ErrTxt prog K mg x fld C fI ae st) (hA : ArgOk prog w ae fld v)
    (X : K.In hp) (hlim : hp.NoLimit) (hg : hp.Ns mainGlobals mg) (hb : hp.Ns builtinsNs mb) (hbb : ∀ y : Str, y ≠ "__name__" → mb y = bootBuiltins y) (he : hp.get? e = some (excO C t0)) (hne : K.lookup e = none) (hroom : A.depth < recursionLimit)
    (hq : ∀ h' tk dx t1, EndOf hp h' e C dx t1 fld v → R (.ok (.ret .none)) ⟨h', g, d, tk, os⟩) : codeAny (model prog w) A (.call (.ref fI) ⟨[.ref e, v], []⟩) R ⟨hp, g, d, tk, os⟩ := by
  obtain ⟨oc, od, doc, pm, an, cda, ct, osl, cc, vs, file, tf, ccl, cl, cdd, cld, ccs, csl, qual, lf, lc, lda, lvs, lfile, lcc⟩ := T.fn
  obtain ⟨p0, p1, p2, p3, p4, q1, q2, q3, q4, a1, a2, hB, hArgs, hcallE⟩ := T.text
  obtain ⟨nm, qn, N, bs, bm, sn, sub, ab, col, dd, k0, k1, k2, k3, k5, lC, hbm⟩ := T.cls
  have hcl : clsIn K C = some { name := nm, bases := bs, mro := .ref C :: bm, ns := N, qualname := qn, hasDict := true, slotNames := sn, subclasses := sub, abstract := ab, collection := col, hasDel := false } := by
    unfold clsIn
    rw [lC]
    all_goals rfl
  have hbind := T.bind qual doc pm an cda ct cc (.ref e) v
  rw [hB, hArgs] at lf hbind
  have neC : e ≠ C := fun z => by
    rw [z, lC] at hne
    cases hne
  refine ks_codeAny_call_defAt (binds := [("self", .ref e), (fld, v)]) hroom (X _ _ lf) rfl hlim (codeRec_of X lc) rfl (BindsTo.of_eq hbind) T.noCell ?_ (fun h1 hns keep => ?_) T.co T.gen T.knd
  · intro y hy
    rcases List.mem_cons.mp hy with z | hy
    · rw [z]; exact T.k0
    · rcases List.mem_cons.mp hy with z | hy
      · rw [z]; exact T.kF
      · cases hy
  have hint : ∀ env : Env, env.scope = L2.defScope st → interactive env = false := fun env z => by
    unfold interactive
    rw [z, T.knd]
    rfl
  have X1 : K.In h1 := X.keeps keep
  have he1 := keep _ _ he
  have m0 : ([("self", Value.ref e), (fld, v)] : List (Str × Value)).reverse.lookup ("self" : Str) = some (.ref e) := by
    show List.lookup ("self" : Str) [(fld, v), (("self" : Str), Value.ref e)] = some (.ref e)
    rw [List.lookup_cons, T.nF]
    rfl
  have mF : ([("self", Value.ref e), (fld, v)] : List (Str × Value)).reverse.lookup fld = some v := by
    show List.lookup fld [(fld, v), (("self" : Str), Value.ref e)] = some v
    rw [List.lookup_cons, beq_self_eq_true]
  obtain ⟨oD, hD1, hD2⟩ : ∃ oD : Obj, h1.get? C = some oD ∧ oD.data = .cls { name := nm, bases := bs, mro := .ref C :: bm, ns := N, qualname := qn, hasDict := true, slotNames := sn, subclasses := sub, abstract := ab, collection := col, hasDel := false } := ⟨_, X1 _ _ lC, rfl⟩
  refine ks_wpAt_execs_cons (ks_wpAt_Expr_any (hi := hint _ rfl) (ks_wpAt_MethodCall (he := hcallE _) (ks_wpAt_super_base T.kS T.kK (by decide) rfl (X1 _ _ lf) rfl rfl rfl (X1 _ _ lda) rfl lvs lfile T.main ?_)))
  refine ks_loadName_global T.knd T.kS (Calls.loadGlobal_builtin (hg.keeps keep) T.sup (hb.keeps keep) ((hbb _ (by decide +kernel)).trans (show bootBuiltins "super" = some (.type "super") by kernel_rfl)) ⟨rfl, ?_⟩)
  refine wpAny_loadName_free T.knd T.kK rfl ⟨_, X1 _ _ lcc, rfl⟩ ?_
  refine wpAny_loadName_local T.knd T.k0 hns m0 ?_
  refine ks_wpAny_isType_cls hD1 hD2 ⟨rfl, ?_⟩
  refine ks_wpAny_call_super hD1 hD2 he1 rfl (fun c z => by cases z) (looks_mroIn X1 T.own) (fun h2 hso k2 => ?_)
  have X2 : K.In h2 := X1.keeps k2
  have he2 := k2 _ _ he1
  have hup : alongIn K "__init__" (List.drop 1 (List.dropWhile (fun (z : Value) => z != Value.ref C) (.ref C :: bm))) = some (some (.builtin "ValueError.__init__")) := by
    have z := T.up
    unfold ks_superIn at z
    rw [hcl] at z
    exact z
  have I2 : InstAt h2 e (excO C t0) C none := ⟨he2, rfl, rfl, trivial⟩
  refine kxs_getMethod kxs_ValueError hso (looks_opaque X2 T.any) (l₀ := .ref C :: bm) (fun A Q E s k q => wpAny_bind ((looks_clsIn X2 hcl) A _ E s k (wpAny_pure q))) rfl X2 hup (I2.type.andThen (looks_subIn X2 T.ve)) neC (by decide) ?_
  have k3 : ∀ b o, h2.get? b = some o → (h2.push (kxs_mw "ValueError.__init__" e)).get? b = some o := fun b o z => Heap.get?_push_of_some _ z
  have k13 : ∀ b o, h1.get? b = some o → (h2.push (kxs_mw "ValueError.__init__" e)).get? b = some o := fun b o z => k3 _ _ (k2 _ _ z)
  have hn3 := hns.keeps k13
  refine call_bound1 (i := "ValueError.__init__") (b := e) (T.plain _) ?_
  refine hA _ _ _ _ _ _ hn3 mF T.knd T.kF fun z t tk => ⟨Heap.get?_push_at rfl rfl, ?_⟩
  refine base_init (X2.keeps k3 _ _ lC) (k3 _ _ he2) (Heap.get?_push_at rfl rfl) (by rw [sizeLine_eq]; exact Nat.le_of_ble_eq_true rfl) fun h4 t1 k4 he4 => ?_
  have X4 : K.In h4 := fun b o z => k4 _ _ (fun y => by rw [y, hne] at z; cases z) (X2.keeps k3 b o z)
  have hLe : hp.objs.size ≠ e := Nat.ne_of_gt (Heap.lt_size he)
  have hn4 : h4.Ns hp.objs.size (fun y => List.lookup y ([(("self" : Str), Value.ref e), (fld, v)] : List (Str × Value)).reverse) := by
    obtain ⟨oL, es, ep, hL, r⟩ := hn3
    exact ⟨oL, es, ep, k4 _ _ hLe hL, r⟩
  -- self.F = F
  refine wpAt_of_wpAny (wpAny_execs_cons (plainObj_wpAny_Assign_Attribute ?_))
  refine ESX.ldL hn4 mF (ESX.ldL hn4 m0 ?_ T.knd T.k0) T.knd T.kF T.nD
  refine set_plain X4 (ox := excO C t1) (od := none) ⟨he4, rfl, rfl, trivial⟩ T.sa ?_
  refine exc_osa X4 he4 hcl (show refsVE (.ref C :: bm) = true from hbm) rfl T.noF (fun h5 tk5 dx k5' dn dne he5 hn5 => ?_)
  have z : hp.objs.size ≤ dx := Nat.le_trans (Nat.le_of_lt (Nat.lt_of_lt_of_le hn4.lt (Nat.le_refl _))) dn
  exact wpAny_execs_nil (hq h5 tk5 dx t1 ⟨fun b o hbe y => k5' b o hbe (k4 b o hbe (k3 b o (k2 b o (keep b o y)))), he5, z, dne, hn5⟩)
/-- a made error -/
structure Made (h h' : Heap) (e C d : Addr) (fld : Str) (v : Value) : Prop where
  keep : ∀ b o, h.get? b = some o → h'.get? b = some o
  new : h.objs.size ≤ e
  obj : ∃ oe vs, h'.get? e = some oe ∧ oe.cls = .ref C ∧ oe.dict = some d ∧ oe.data = .fields vs ∧ vs[1]? = some .none
  dbig : h.objs.size ≤ d
  dne : d ≠ e
  ns : h'.Ns1 d (fun y => if y = fld then some v else none)
theorem err_made {R : Result → Shared → Prop} {K : Frag} {mg mb : Str → Option Value} {x fld : Str} {C fI : Addr} {ae : PySem.Expr} {st : Stmt} {v : Value} (T : ErrTxt prog K mg x fld C fI ae st) (hA : ArgOk prog w ae fld v)
    (X : K.In hp) (hlim : hp.NoLimit) (hg : hp.Ns mainGlobals mg) (hb : hp.Ns builtinsNs mb) (hbb : ∀ y : Str, y ≠ "__name__" → mb y = bootBuiltins y) (hroom : A.depth + 1 < recursionLimit)
    (hq : ∀ h' tk e dx, Made hp h' e C dx fld v → R (.ok (.ret (.ref e))) ⟨h', g, d, tk, os⟩) : codeAny (model prog w) A (.call (.ref C) ⟨[v], []⟩) R ⟨hp, g, d, tk, os⟩ := by
  obtain ⟨nm, qn, N, bs, bm, sn, sub, ab, col, dd, k0, k1, k2, k3, k5, lC, hbm⟩ := T.cls
  have k : ∀ b o, hp.get? b = some o → ((hp.push (kdv_tup [v])).push (excO C hp.objs.size)).get? b = some o := fun b o z => Heap.get?_push_of_some _ (Heap.get?_push_of_some _ z)
  have hget : ((hp.push (kdv_tup [v])).push (excO C hp.objs.size)).get? (hp.objs.size + 1) = some (excO C hp.objs.size) := by heap_get
  have hnx : K.lookup (hp.objs.size + 1) = none := by
    cases z : K.lookup (hp.objs.size + 1) with
    | none => rfl
    | some o => exact absurd (Nat.lt_of_succ_lt (Heap.lt_size (X _ _ z))) (Nat.lt_irrefl _)
  refine call_own F.excBase_ValueError (fun X => refsVE_contains X bm hbm) (X _ _ lC) (looks_findIn X T.iC) (fun self => bind_fn X self T.tC) (by rw [sizeLine_eq]; exact Nat.le_of_ble_eq_true rfl) ?_
  refine err_init T hA (X.keeps k) (hlim.keeps k) (hg.keeps k) (hb.keeps k) hbb hget hnx ?_ fun h' tk' dx t1 M => ?_
  · show A.depth + 1 < recursionLimit
    exact hroom
  · have old : ∀ b o, hp.get? b = some o → h'.get? b = some o := fun b o z => M.keep b o (Nat.ne_of_lt (Nat.lt_succ_of_lt (Heap.lt_size z))) (k b o z)
    have z : hp.objs.size + 1 + 1 ≤ dx := by
      have q := M.dbig
      rw [Heap.size_push, Heap.size_push] at q
      exact q
    exact ⟨rfl, hq h' tk' (hp.objs.size + 1) dx ⟨old, Nat.le_succ _, ⟨_, _, M.obj, rfl, rfl, rfl, rfl⟩, Nat.le_trans (Nat.le_trans (Nat.le_succ _) (Nat.le_succ _)) z, M.dne, M.ns⟩⟩
end
end ErrX
namespace L2
open PySem PySem.Spec PyProof.Rows ErrX
theorem relO_fld {v : V} {v' : Value} (fld : Str) (r : RelV v v') (f : Str) : RelO (List.lookup f [(fld, v)]) (if f = fld then some v' else none) := by
  by_cases hw : f = fld
  · subst hw
    rw [if_pos rfl]
    have q : List.lookup f [(f, v)] = some v := by simp [List.lookup]
    rw [q]
    exact r
  · rw [if_neg hw]
    have qw : (f == fld) = false := by simpa using hw
    have q2 : List.lookup f [(fld, v)] = none := by simp [List.lookup, qw]
    rw [q2]
    trivial
section
variable {X : Cx} {C fI : Addr} {x fld : Str} {ae : PySem.Expr} {st : Stmt}
/-- Bad(e) -/
def tMkErr (C : Addr) (fld : Str) (ok : V → Prop) (ta : TA) : L2.St → Hp → XK → Prop := fun σ H Q => ta σ H fun vs H1 => ∃ v, vs = [v] ∧ ok v ∧ ∀ d, H1 d = none → Q (.ref C) (some d) (upd H1 d (.xd [(fld, v)]))
theorem pmk_err {ok : V → Prop} {a : PySem.Expr} {ta : TA} {p pos : Pos} {k : Nat} (T : ErrTxt X.prog X.K X.mg x fld C fI ae st) (hA : ∀ v u, ok v → RelV v u → ArgOk X.prog X.w ae fld u) (hr : Room k X.A) (ha : PA X [a] ta) (hg : Gl X x) (hdb : (x == ("__debug__" : Str)) = false)
    (he : starEach (a :: []) X.env = (false, eval a X.env) :: starEach [] X.env) (hpl : (backTo pos (starEach [] X.env)).any (·.1) = false) :
    PMk X (.Call (.Name x p) [a] [] pos) (tMkErr C fld ok ta) := by
  intro pins s σ H Q I h
  refine wpAny_Call_Name_kw (ld_glob I hg T.gC ?_ hdb)
  refine PySem.W.callWith_K (h₀ := X.base) I.ok.mod.kin T.kC (thn (ha.run pos pins s σ H _ I h) fun us s1 hh => ?_) he hpl
  obtain ⟨vs, H1, I1, r1, v, ev, okv, q1⟩ := hh
  subst ev
  refine ⟨I1.kIn, ?_⟩
  cases r1 with
  | cons rv rn =>
    rename_i v' us'
    cases rn
    show wpAny _ _ (call (.ref C) [v']) _ _ _
    have hlim := I1.nolimit
    obtain ⟨mb, hb1, hb2⟩ := I1.mod.blt
    have hgN := I1.mod.glob.keeps I1.bk
    have hbN := hb1.keeps I1.bk
    obtain ⟨hp, g, dr, tk, os⟩ := s1
    refine wpAny_call (err_made T (hA v v' okv rv) I1.kIn hlim hgN hbN hb2 (by have := hr.dp; omega) fun h' tk' e d M => ?_)
    show MkP X pins σ Q (.ref e) ⟨h', g, dr, tk', os⟩
    obtain ⟨oe, fv, hoe, hc, hd, hdat, h1⟩ := M.obj
    have hns := M.ns
    obtain ⟨G', g1, g2⟩ := restrict h' fun b => decide (b ≠ e)
    have gk : ∀ b, b ≠ e → G'.get? b = h'.get? b := fun b hb => g1 b (decide_eq_true hb)
    have ge : G'.get? e = none := g2 e (by simp)
    have old : ∀ b o, hp.get? b = some o → G'.get? b = some o := fun b o q => (gk b (Nat.ne_of_lt (Nat.lt_of_lt_of_le (Heap.lt_size q) M.new))).trans (M.keep b o q)
    have ob : ObjOk X.prog X.w (upd H1 d (.xd [(fld, v)])) G' d (.xd [(fld, v)]) := ⟨_, hns.at (fun o q => (gk d M.dne).trans q), fun f => relO_fld fld rv f⟩
    have J : Inv X pins σ (upd H1 d (.xd [(fld, v)])) ⟨G', g, dr, tk', os⟩ := I1.laid (t' := tk') old M.dbig ob
    refine ⟨e, oe, fv, ⟨G', g, dr, tk', os⟩, _, .ref C, some d, rfl, J, fun b o q => ?_, ge, hoe, ⟨hc, hd⟩, hdat, h1, ?_, rfl, I1.bare, raises_own T.exC T.tyC, q1 d (I1.hok.fresh M.dbig)⟩
    · by_cases hb : b = e
      · have q' : G'.get? b = some o := q
        rw [hb, ge] at q'
        cases q'
      · exact (gk b hb).symm.trans q
    · rw [upd_ne (Ne.symm M.dne)]
      exact I1.hok.fresh M.new
/-- raise Bad(e) -/
def tRaiseF (C : Addr) (fld : Str) (ok : V → Prop) (W : WX) (ta : TA) : TS := fun _ σ H => tMkErr C fld ok ta σ H fun cls d H' => W cls d σ H'
theorem ps_raiseF {ok : V → Prop} {a : PySem.Expr} {ta : TA} {W : WX} {p pos pos2 : Pos} {k : Nat} (T : ErrTxt X.prog X.K X.mg x fld C fI ae st) (hA : ∀ v u, ok v → RelV v u → ArgOk X.prog X.w ae fld u) (hc : X.calm = true) (hr : Room k X.A) (tk : Takes X W) (ha : PA X [a] ta) (hg : Gl X x := by rfl)
    (hdb : (x == ("__debug__" : Str)) = false := by decide) (he : starEach (a :: []) X.env = (false, eval a X.env) :: starEach [] X.env := by rfl) (hpl : (backTo pos (starEach [] X.env)).any (·.1) = false := by rfl) :
    PS X (.Raise (some (.Call (.Name x p) [a] [] pos)) none pos2) (tRaiseF C fld ok W ta) := ps_raise hc tk (pmk_err T hA hr ha hg hdb he hpl)
/-- e.F, e the error that the suite holds (at a; its class cls, its dict d) -/
def tErrF (C : Addr) (fld : Str) (a : Addr) (cls : Value) (d : Option Addr) (te : TE) : TE := fun σ H Q => te σ H fun y H1 => y = .ref a ∧ cls = .ref C ∧ ∃ (dd : Addr) (v : V), d = some dd ∧ H1 dd = some (.xd [(fld, v)]) ∧ Q v H1
theorem pe_errF {P : Program} {a : Addr} {oe : Obj} {cls : Value} {d : Option Addr} {pn : List (Addr × Obj)} {e : PySem.Expr} {te : TE} {pos : Pos} (T : ErrTxt P X.K X.mg x fld C fI ae st) (hz : Zc cls d oe) (hf : ∃ vs, oe.data = .fields vs) (he : PE (X.suite a ((a, oe) :: pn)) e te)
    (hb : attributeBase e fld X.env (eval e X.env) = eval e X.env := by rfl) : PE (X.suite a ((a, oe) :: pn)) (.Attribute e fld pos) (tErrF C fld a cls d te) := by
  refine ⟨fun pins s σ H Q I h => ?_⟩
  refine attr_of hb (thn (he.run pins s σ H _ I h) fun u s1 hh => ?_)
  obtain ⟨y, H1, I1, rx, ex, ec, dd, v, ed, ea, q⟩ := hh
  subst ex
  obtain rfl : u = Value.ref a := rx
  subst ec
  subst ed
  obtain ⟨ha, _⟩ := I1.pin (a, oe) (List.mem_append_left _ List.mem_cons_self)
  obtain ⟨vs, hd⟩ := hf
  have hx : ObjOk X.prog X.w H1 s1.heap dd (.xd [(fld, v)]) := I1.hok dd _ ea
  obtain ⟨mA, hns, hr⟩ := hx
  obtain ⟨od, ho, hl⟩ := lookIn_ns hns
  have l : List.lookup fld [(fld, v)] = some v := by simp [List.lookup]
  obtain ⟨u, hu, ru⟩ := RelO.some_of (v := v) (o := mA fld) (by rw [← l]; exact hr fld)
  have J : PySem.W.InstAt s1.heap a oe C (some od) := ⟨ha, hz.1, by unfold PySem.W.notCls; rw [hd] <;> rfl, by rw [hz.2]; exact ho⟩
  exact HandSPX.exc_get I1.kIn J T.ga T.gg T.exC (PySem.W.findObj_own T.hdC T.noF rfl (by rw [hl, hu])) (handed_of ru) ⟨v, H1, I1.tok _, ru, q⟩
end
end L2
namespace Rt
open PySem L2 PySem.Spec PyProof.Rows

structure Tx (P : Program) (K : PySem.W.Frag) (mg : Str → Option Value) : Type where
  C_TrickError : Addr
  g_TrickError : mg "TrickError" = some (.ref C_TrickError)
  x_TrickError : PySem.W.excIn K C_TrickError [.type "ValueError", .type "Exception", .type "BaseException", .type "object"] "ValueError.__new__" = true
  k_TrickError : PySem.W.keepIn K (.ref C_TrickError) = true
  s_TrickError : PySem.W.subIn K (.ref C_TrickError) (.type "BaseException") = some true
  t_TrickError : PySem.W.typeIn K (.ref C_TrickError) = some (.type "type")
  C_BadBase : Addr
  g_BadBase : mg "BadBase" = some (.ref C_BadBase)
  x_BadBase : PySem.W.excIn K C_BadBase [.type "ValueError", .type "Exception", .type "BaseException", .type "object"] "ValueError.__new__" = true
  k_BadBase : PySem.W.keepIn K (.ref C_BadBase) = true
  s_BadBase : PySem.W.subIn K (.ref C_BadBase) (.type "BaseException") = some true
  t_BadBase : PySem.W.typeIn K (.ref C_BadBase) = some (.type "type")
  C_BadFigures : Addr
  g_BadFigures : mg "BadFigures" = some (.ref C_BadFigures)
  k_BadFigures : PySem.W.keepIn K (.ref C_BadFigures) = true
  s_BadFigures : PySem.W.subIn K (.ref C_BadFigures) (.type "BaseException") = some true
  t_BadFigures : PySem.W.typeIn K (.ref C_BadFigures) = some (.type "type")
  C_BadRests : Addr
  g_BadRests : mg "BadRests" = some (.ref C_BadRests)
  k_BadRests : PySem.W.keepIn K (.ref C_BadRests) = true
  s_BadRests : PySem.W.subIn K (.ref C_BadRests) (.type "BaseException") = some true
  t_BadRests : PySem.W.typeIn K (.ref C_BadRests) = some (.type "type")
  t_c_LEAST_BASE : Tok
  c_LEAST_BASE : mg "LEAST_BASE" = some (.int 2 t_c_LEAST_BASE)
  t_c_GREATEST_BASE : Tok
  c_GREATEST_BASE : mg "GREATEST_BASE" = some (.int 16 t_c_GREATEST_BASE)
  t_c_MOST_FIGURES : Tok
  c_MOST_FIGURES : mg "MOST_FIGURES" = some (.int 150 t_c_MOST_FIGURES)
  t_c_MOST_LABELS : Tok
  c_MOST_LABELS : mg "MOST_LABELS" = some (.int 20 t_c_MOST_LABELS)
  t_c_GREATEST_LABEL : Tok
  c_GREATEST_LABEL : mg "GREATEST_LABEL" = some (.int 19 t_c_GREATEST_LABEL)
  a_is_integer : Addr
  d_is_integer : FuncData
  F_is_integer : Fun K "is_integer" "is_integer" s_is_integer a_is_integer d_is_integer
  b_is_integer : Binds K d_is_integer ["told", "low", "high"] []
  g_is_integer : mg "is_integer" = some (.ref a_is_integer)
  a_is_tuple : Addr
  d_is_tuple : FuncData
  F_is_tuple : Fun K "is_tuple" "is_tuple" s_is_tuple a_is_tuple d_is_tuple
  b_is_tuple : Binds K d_is_tuple ["told", "fewest", "most"] []
  g_is_tuple : mg "is_tuple" = some (.ref a_is_tuple)
  a_first_wrong : Addr
  d_first_wrong : FuncData
  F_first_wrong : Fun K "first_wrong" "first_wrong" s_first_wrong a_first_wrong d_first_wrong
  b_first_wrong : Binds K d_first_wrong ["told", "low", "high"] []
  g_first_wrong : mg "first_wrong" = some (.ref a_first_wrong)
  a_check_base : Addr
  d_check_base : FuncData
  F_check_base : Fun K "check_base" "check_base" s_check_base a_check_base d_check_base
  b_check_base : Binds K d_check_base ["base"] []
  g_check_base : mg "check_base" = some (.ref a_check_base)
  a_check_figures : Addr
  d_check_figures : FuncData
  F_check_figures : Fun K "check_figures" "check_figures" s_check_figures a_check_figures d_check_figures
  b_check_figures : Binds K d_check_figures ["told", "base", "fewest"] []
  g_check_figures : mg "check_figures" = some (.ref a_check_figures)
  a_back_states : Addr
  d_back_states : FuncData
  F_back_states : Fun K "back_states" "back_states" s_back_states a_back_states d_back_states
  b_back_states : Binds K d_back_states ["base", "labels"] []
  g_back_states : mg "back_states" = some (.ref a_back_states)
  a_back_word : Addr
  d_back_word : FuncData
  F_back_word : Fun K "back_word" "back_word" s_back_word a_back_word d_back_word
  b_back_word : Binds K d_back_word ["base", "labels", "one", "other"] []
  g_back_word : mg "back_word" = some (.ref a_back_word)
  a_check_labels : Addr
  d_check_labels : FuncData
  F_check_labels : Fun K "check_labels" "check_labels" s_check_labels a_check_labels d_check_labels
  b_check_labels : Binds K d_check_labels ["labels"] []
  g_check_labels : mg "check_labels" = some (.ref a_check_labels)
  a_back_machine : Addr
  d_back_machine : FuncData
  F_back_machine : Fun K "back_machine" "back_machine" s_back_machine a_back_machine d_back_machine
  b_back_machine : Binds K d_back_machine ["base", "labels"] []
  g_back_machine : mg "back_machine" = some (.ref a_back_machine)
  a_state_behind : Addr
  d_state_behind : FuncData
  F_state_behind : Fun K "state_behind" "state_behind" s_state_behind a_state_behind d_state_behind
  b_state_behind : Binds K d_state_behind ["machine", "word"] []
  g_state_behind : mg "state_behind" = some (.ref a_state_behind)
  a_classes : Addr
  d_classes : FuncData
  F_classes : Fun K "classes" "classes" s_classes a_classes d_classes
  b_classes : Binds K d_classes ["machine"] []
  g_classes : mg "classes" = some (.ref a_classes)
  a_numbered : Addr
  d_numbered : FuncData
  F_numbered : Fun K "numbered" "numbered" s_numbered a_numbered d_numbered
  b_numbered : Binds K d_numbered ["things"] []
  g_numbered : mg "numbered" = some (.ref a_numbered)
  a_least_word : Addr
  d_least_word : FuncData
  F_least_word : Fun K "least_word" "least_word" s_least_word a_least_word d_least_word
  b_least_word : Binds K d_least_word ["machine", "one", "other"] []
  g_least_word : mg "least_word" = some (.ref a_least_word)
  a__law_taken : Addr
  d__law_taken : FuncData
  F__law_taken : Fun K "_law_taken" "_law_taken" s__law_taken a__law_taken d__law_taken
  b__law_taken : Binds K d__law_taken ["_law_row", "_law_many"] []
  g__law_taken : mg "_law_taken" = some (.ref a__law_taken)
  a__law_labels : Addr
  d__law_labels : FuncData
  F__law_labels : Fun K "_law_labels" "_law_labels" s__law_labels a__law_labels d__law_labels
  b__law_labels : Binds K d__law_labels ["_law_row", "_law_most"] []
  g__law_labels : mg "_law_labels" = some (.ref a__law_labels)
  a__law_marks : Addr
  d__law_marks : FuncData
  F__law_marks : Fun K "_law_marks" "_law_marks" s__law_marks a__law_marks d__law_marks
  b__law_marks : Binds K d__law_marks ["_law_labels_here", "_law_nexts"] []
  g__law_marks : mg "_law_marks" = some (.ref a__law_marks)
  a__law_least_word : Addr
  d__law_least_word : FuncData
  F__law_least_word : Fun K "_law_least_word" "_law_least_word" s__law_least_word a__law_least_word d__law_least_word
  b__law_least_word : Binds K d__law_least_word ["_law_nexts", "_law_marks_here", "_law_one", "_law_other"] []
  g__law_least_word : mg "_law_least_word" = some (.ref a__law_least_word)
  a__law_back : Addr
  d__law_back : FuncData
  F__law_back : Fun K "_law_back" "_law_back" s__law_back a__law_back d__law_back
  b__law_back : Binds K d__law_back ["_law_base", "_law_d"] []
  g__law_back : mg "_law_back" = some (.ref a__law_back)
  a__law_read : Addr
  d__law_read : FuncData
  F__law_read : Fun K "_law_read" "_law_read" s__law_read a__law_read d__law_read
  b__law_read : Binds K d__law_read ["_law_nexts", "_law_word"] []
  g__law_read : mg "_law_read" = some (.ref a__law_read)
  a_law : Addr
  d_law : FuncData
  F_law : Fun K "law" "law" s_law a_law d_law
  b_law : Binds K d_law ["_law_script"] []
  g_law : mg "law" = some (.ref a_law)
  n_int : mg "int" = none
  n_bool : mg "bool" = none
  n_len : mg "len" = none
  n_range : mg "range" = none
  n_isinstance : mg "isinstance" = none
  n_tuple : mg "tuple" = none
  n_enumerate : mg "enumerate" = none
  n_all : mg "all" = none
  n_max : mg "max" = none
  n_super : mg "super" = none
  n_zip : mg "zip" = none
  n_ValueError : mg "ValueError" = none
  a_BadFigures___init__ : Addr
  x_BadFigures : ErrX.ErrTxt P K mg "BadFigures" "index" C_BadFigures a_BadFigures___init__ (ErrX.aeOf s_BadFigures___init__) s_BadFigures___init__
  a_BadRests___init__ : Addr
  x_BadRests : ErrX.ErrTxt P K mg "BadRests" "index" C_BadRests a_BadRests___init__ (ErrX.aeOf s_BadRests___init__) s_BadRests___init__
/-! ### the program's own classes (no errors) -/
def OwnT {P : Program} {K : PySem.W.Frag} {mg : Str → Option Value} (T : Tx P K mg) (C : Addr) : Prop := False
theorem OwnT.ty {P : Program} {K : PySem.W.Frag} {mg : Str → Option Value} {T : Tx P K mg} {C : Addr} (t : OwnT T C) {H : Hp} {a dx : Addr} {fs : List (Str × V)} (e : H a = some (.ins C dx fs)) : TyOf K H (.ref a) (.ref C) := t.elim
theorem OwnT.nint {P : Program} {K : PySem.W.Frag} {mg : Str → Option Value} {T : Tx P K mg} {C : Addr} (t : OwnT T C) : PySem.W.kitOne K (.ref C) (.type "int") = some false := t.elim
theorem OwnT.nbool {P : Program} {K : PySem.W.Frag} {mg : Str → Option Value} {T : Tx P K mg} {C : Addr} (t : OwnT T C) : PySem.W.kitOne K (.ref C) (.type "bool") = some false := t.elim
theorem OwnT.ntuple {P : Program} {K : PySem.W.Frag} {mg : Str → Option Value} {T : Tx P K mg} {C : Addr} (t : OwnT T C) : PySem.W.kitOne K (.ref C) (.type "tuple") = some false := t.elim
theorem ar_BadFigures {P : Program} {w : World} : ∀ (v : V) (u : Value), ErrX.NoneInt v → RelV v u → ErrX.ArgOk P w (ErrX.aeOf s_BadFigures___init__) "index" u := fun _ _ n r => ErrX.argOk_f n r
theorem ar_BadRests {P : Program} {w : World} : ∀ (v : V) (u : Value), ErrX.NoneInt v → RelV v u → ErrX.ArgOk P w (ErrX.aeOf s_BadRests___init__) "index" u := fun _ _ n r => ErrX.argOk_f n r
section
variable {P : Program} {w : World} {K : PySem.W.Frag} {mg : Str → Option Value} {base : Heap}
/-! ### heaps -/
/-- all but what stands at r is as it was -/
def But (r : Addr) (H H' : Hp) : Prop := ∀ b o, H b = some o → b ≠ r → H' b = some o
theorem But.refl (r : Addr) (H : Hp) : But r H H := fun _ _ e _ => e
theorem But.trans {r : Addr} {H H1 H2 : Hp} (a : But r H H1) (b : But r H1 H2) : But r H H2 := fun c o e n => b c o (a c o e n) n
theorem Same.but {r : Addr} {H H' : Hp} (a : Same H H') : But r H H' := fun c o e _ => a c o e
theorem But.put {r : Addr} {H : Hp} {o : HO} : But r H (upd H r o) := fun b _ e n => by rw [upd_ne n]; exact e
theorem But.seq {K : PySem.W.Frag} {r a : Addr} {H H' : Hp} {xs : List V} (e : But r H H') (n : a ≠ r) (h : SqL K H a xs) : SqL K H' a xs := by
  rcases h with (h | ⟨o, h⟩) | h
  · exact .inl (.inl (e _ _ h n))
  · exact .inl (.inr ⟨o, e _ _ h n⟩)
  · exact .inr h
theorem same_upd {H : Hp} {p : Addr} {o : HO} (h : H p = none) : Same H (upd H p o) := fun b x e => by
  rw [upd_ne (ne_of_none e h)]
  exact e
/-- any value of the document's point 1 -/
inductive AnyV (T : Addr → Prop) (H : Hp) : V → Prop where
  | non : AnyV T H .non
  | bl (b : Bool) : AnyV T H (.bl b)
  | int (i : Int) : AnyV T H (.int i)
  | str (x : Str) : AnyV T H (.str x)
  | lst {a : Addr} {xs : List V} (e : H a = some (.lst xs)) : AnyV T H (.ref a)
  | tup {a : Addr} {xs : List V} (e : H a = some (.tup xs)) : AnyV T H (.ref a)
  | dct {a : Addr} {kvs : List (Key × V)} (e : H a = some (.dK kvs)) : AnyV T H (.ref a)
  | ins {a C dx : Addr} {fs : List (Str × V)} (t : T C) (e : H a = some (.ins C dx fs)) : AnyV T H (.ref a)
/-- it is an integer from lo to hi -/
def intIn (x : V) (lo hi : Int) : Bool := match x with | .int i => decide (lo ≤ i) && decide (i ≤ hi) | _ => false
theorem intIn_of {i lo hi : Int} (h1 : lo ≤ i) (h2 : i ≤ hi) : intIn (.int i) lo hi = true := by
  show (decide (lo ≤ i) && decide (i ≤ hi)) = true
  rw [decide_eq_true h1, decide_eq_true h2]
  all_goals rfl
theorem small5 {n : Nat} (h : n ≤ 100000) : n < sizeLine := Nat.lt_of_le_of_lt h (by decide)
theorem dec_i (i j : Int) : decide (V.int i = V.int j) = decide (i = j) := by
  rw [Bool.eq_iff_iff]
  simp
theorem AnyV.mono {T : Addr → Prop} {H H' : Hp} {v : V} (a : AnyV T H v) (s : Same H H') : AnyV T H' v := by
  cases a with
  | non => exact .non
  | bl b => exact .bl b
  | int i => exact .int i
  | str x => exact .str x
  | lst e => exact .lst (s _ _ e)
  | tup e => exact .tup (s _ _ e)
  | dct e => exact .dct (s _ _ e)
  | ins t e => exact .ins t (s _ _ e)
theorem intIn_int' {x : V} {lo hi : Int} (h : intIn x lo hi = true) : ∃ i, x = .int i ∧ lo ≤ i ∧ i ≤ hi := by
  cases x with
  | int i =>
    have h2 : (decide (lo ≤ i) && decide (i ≤ hi)) = true := h
    rw [Bool.and_eq_true, decide_eq_true_iff, decide_eq_true_iff] at h2
    exact ⟨i, rfl, h2⟩
  | _ => cases h

/-! ### none twice; keys of two ints -/
/-- no more than so many without one twice -/
theorem pigL {α : Type} [DecidableEq α] : ∀ (L l : List α), l.Nodup → (∀ x ∈ l, x ∈ L) → l.length ≤ L.length
  | [], l, _, h => by
    cases l with
    | nil => exact Nat.le_refl _
    | cons x _ => exact absurd (h x List.mem_cons_self) List.not_mem_nil
  | a :: L, l, hn, h => by
    have ih := pigL L (l.erase a) (hn.erase a) fun x hx => by
      have hx2 := (hn.mem_erase_iff).mp hx
      rcases List.mem_cons.mp (h x hx2.2) with e | e
      · exact absurd e hx2.1
      · exact e
    rw [List.length_erase] at ih
    rw [List.length_cons]
    split at ih <;> omega
abbrev Pr := Int × Int
def kp (q : Pr) : List Key := [.inl q.1, .inl q.2]
theorem kp_inj {q r : Pr} (h : kp q = kp r) : q = r := by
  unfold kp at h
  injection h with h1 h2
  injection h2 with h2 _
  injection h1 with h1
  injection h2 with h2
  exact Prod.ext h1 h2

/-! ### lists of ints -/
theorem dpAll_ints {H : Hp} : ∀ ns : List Int, DpAll K H (ns.map V.int) (ns.map PyData.int)
  | [] => .nil
  | n :: ns => .cons (.int n) (dpAll_ints ns)
theorem dp_ints {H : Hp} {a : Addr} {ns : List Int} (h : SqL K H a (ns.map V.int)) : Dp K H (.ref a) (.list (ns.map PyData.int)) := .lst h (dpAll_ints ns)
theorem dp_tints {H : Hp} {a : Addr} {ns : List Int} (h : SqT K H a (ns.map V.int)) : Dp K H (.ref a) (.tuple (ns.map PyData.int)) := .tup h (dpAll_ints ns)
theorem eqvAll_ints : ∀ ns ms : List Int, PyData.eqvAll (ns.map PyData.int) (ms.map PyData.int) = decide (ns = ms)
  | [], [] => rfl
  | [], _ :: _ => rfl
  | _ :: _, [] => rfl
  | n :: ns, m :: ms => by
    show (PyData.eqv (.int n) (.int m) && PyData.eqvAll (ns.map PyData.int) (ms.map PyData.int)) = _
    rw [eqvAll_ints ns ms]
    show ((n == m) && decide (ns = ms)) = _
    by_cases h1 : n = m
    · by_cases h2 : ns = ms
      · simp [h1, h2]
      · simp [h1, h2]
    · simp [h1]
theorem eqv_ints (ns ms : List Int) : PyData.eqv (.list (ns.map PyData.int)) (.list (ms.map PyData.int)) = decide (ns = ms) := eqvAll_ints ns ms
theorem eqv_tints (ns ms : List Int) : PyData.eqv (.tuple (ns.map PyData.int)) (.tuple (ms.map PyData.int)) = decide (ns = ms) := eqvAll_ints ns ms
theorem shaped_lints (ns : List Int) : SeqAt.shaped (.list (ns.map PyData.int)) = true := PySem.W.shaped_ints ns
/-- an item of a written list at a drawn place -/
theorem at_some (Pr : Int → Prop) {ns : List Int} (h : ∀ z ∈ ns, Pr z) {i : Int} (h0 : 0 ≤ i) (h1 : i < ns.length) : ∃ z, Pr z ∧ atI (ns.map V.int) i = some (V.int z) := by
  obtain ⟨z, hz⟩ : ∃ z, ns[i.toNat]? = some z := ⟨ns[i.toNat]'(by omega), List.getElem?_eq_getElem (by omega)⟩
  refine ⟨z, h z (List.mem_of_getElem? hz), at_of (j := i.toNat) (by omega) (by rw [List.getElem?_map, hz]; rfl)⟩
theorem sorted_ext {l m : List Int} (p : l.Perm m) (h1 : l.Pairwise (· ≤ ·)) (h2 : m.Pairwise (· ≤ ·)) : l = m :=
  p.eq_of_pairwise (fun a b _ _ x y => Int.le_antisymm x y) h1 h2
/-- reading an item within a comprehension: the written part said aloud -/
theorem ix_lK {X : Cx} (h : X.K = K) : IxR X (rIxL K) := by
  subst h
  exact ix_list
/-- the same of a tuple -/
theorem ix_tK {X : Cx} (h : X.K = K) : IxR X (rIxT K) := by
  subst h
  exact ix_tup
/-- name op= e, by the operation in place -/
theorem ip_op {X : Cx} {op : Operator} {r : R2} (ho : OpR X (inplaceOp op) r) : PIp X op r := fun pins s σ H x y v u Q I r1 r2 h => ho pins s σ H x y v u Q I r1 r2 h

/-! ### what is shallow enough to be compared -/
theorem lays_map {α : Type} (f : α → PyData) (k : Nat) (h : ∀ x, PyData.canLay0 (f x) = true ∧ PyData.depth (f x) ≤ k) : ∀ l : List α, PyData.canLayAll0 (l.map f) = true ∧ PyData.depthAll (l.map f) ≤ k
  | [] => ⟨by simp [PyData.canLayAll0], by simp [PyData.depthAll]⟩
  | x :: l => by
    have h1 := lays_map f k h l
    have h2 := h x
    refine ⟨by simp [PyData.canLayAll0, h1.1, h2.1], ?_⟩
    simp only [List.map_cons, PyData.depthAll]
    omega
theorem shaped_of {ds : List PyData} {k : Nat} (h : PyData.canLayAll0 ds = true ∧ PyData.depthAll ds ≤ k) (hk : k ≤ 60) : SeqAt.shaped (.list ds) = true ∧ SeqAt.shaped (.tuple ds) = true := by
  have e1 : PyData.depth (.list ds) ≤ 64 := by simp only [PyData.depth]; omega
  have e2 : PyData.depth (.tuple ds) ≤ 64 := by simp only [PyData.depth]; omega
  refine ⟨?_, ?_⟩
  · show (PyData.canLay0 (.list ds) && decide (PyData.depth (.list ds) ≤ 64)) = true
    rw [Bool.and_eq_true]
    exact ⟨by simp only [PyData.canLay0]; exact h.1, decide_eq_true e1⟩
  · show (PyData.canLay0 (.tuple ds) && decide (PyData.depth (.tuple ds) ≤ 64)) = true
    rw [Bool.and_eq_true]
    exact ⟨by simp only [PyData.canLay0]; exact h.1, decide_eq_true e2⟩
theorem lay_int (i : Int) : PyData.canLay0 (.int i) = true ∧ PyData.depth (.int i) ≤ 1 := ⟨by simp [PyData.canLay0], by simp [PyData.depth]⟩
theorem shaped_tints (ns : List Int) : SeqAt.shaped (.tuple (ns.map PyData.int)) = true := (shaped_of (lays_map PyData.int 1 lay_int ns) (by decide)).2

/-! ### what is wished for less is met, too -/
def TEMono (t : TE) : Prop := ∀ (σ : L2.St) (H : Hp) (Q Q' : VK), (∀ v H1, Q v H1 → Q' v H1) → t σ H Q → t σ H Q'
def TAMono (t : TA) : Prop := ∀ (σ : L2.St) (H : Hp) (Q Q' : List V → Hp → Prop), (∀ v H1, Q v H1 → Q' v H1) → t σ H Q → t σ H Q'
def TTMono (t : TT) : Prop := ∀ (σ : L2.St) (H : Hp) (Q Q' : Bool → Hp → Prop), (∀ b H1, Q b H1 → Q' b H1) → t σ H Q → t σ H Q'
def R2Mono (r : R2) : Prop := ∀ (x y : V) (H : Hp) (Q Q' : VK), (∀ v H1, Q v H1 → Q' v H1) → r x y H Q → r x y H Q'
theorem m_var {i : Nat} : TEMono (tVar i) := fun _ _ _ _ h ⟨v, e, z⟩ => ⟨v, e, h _ _ z⟩
theorem m_c {v : V} : TEMono (tC v) := fun _ _ _ _ h z => h _ _ z
theorem m_op {r : R2} {a b : TE} (hr : R2Mono r) (ha : TEMono a) (hb : TEMono b) : TEMono (tOp r a b) := fun σ H Q Q' h z => ha σ H _ _ (fun x H1 q => hb σ H1 _ _ (fun y H2 q2 => hr x y H2 _ _ h q2) q) z
theorem m_nil : TAMono tNil := fun _ _ _ _ h z => h _ _ z
theorem m_cons {t : TE} {u : TA} (ht : TEMono t) (hu : TAMono u) : TAMono (tCons t u) := fun σ H Q Q' h z => ht σ H _ _ (fun x H1 q => hu σ H1 _ _ (fun xs H2 q2 => h _ _ q2) q) z
theorem m_test {t : TE} (ht : TEMono t) : TTMono (tTest t) := fun σ H Q Q' h z => ht σ H _ _ (fun x H1 ⟨k, e, q⟩ => ⟨k, e, h _ _ q⟩) z
theorem m_and {t u : TT} (ht : TTMono t) (hu : TTMono u) : TTMono (tAnd t u) := fun σ H Q Q' h z => ht σ H _ _ (fun c H1 q => by
  cases c with
  | true => exact hu σ H1 _ _ h q
  | false => exact h _ _ q) z
theorem m_rI {C : Int → Int → Prop} {g : Int → Int → V} : R2Mono (rI C g) := fun _ _ _ _ _ h ⟨i, j, e1, e2, c, q⟩ => ⟨i, j, e1, e2, c, h _ _ q⟩
theorem m_rI0 {g : Int → Int → V} : R2Mono (rI0 g) := fun _ _ _ _ _ h ⟨i, j, e1, e2, q⟩ => ⟨i, j, e1, e2, h _ _ q⟩
theorem m_rEq : R2Mono rEq := fun _ _ _ _ _ h ⟨e, q⟩ => ⟨e, h _ _ q⟩
theorem m_rNe : R2Mono rNe := fun _ _ _ _ _ h ⟨e, q⟩ => ⟨e, h _ _ q⟩
theorem m_rIn {n : Bool} : R2Mono (rIn K n) := fun _ _ _ _ _ h ⟨p, xs, e, s, f, a, q⟩ => ⟨p, xs, e, s, f, a, h _ _ q⟩
theorem m_len {i : Nat} : TEMono (tCB (fun xs H Q => ∃ p ys, xs = [V.ref p] ∧ (SqL K H p ys ∨ SqT K H p ys) ∧ Q (.int (ys.length : Int)) H) (tCons (tVar i) tNil)) := fun _ _ _ _ h ⟨v, e, p, ys, e1, e2, q⟩ => ⟨v, e, p, ys, e1, e2, h _ _ q⟩
/-! ### what is never reached -/
def tNev : TS := fun _ _ _ => False
theorem pss_nev {X : Cx} {sts : List Stmt} : PSs X sts tNev := ⟨fun _ _ _ _ _ _ h => h.elim⟩

/-! ### {k: v} with one key, a tuple -/
/-- the new dict stands empty while the pair is made -/
def tDisp1T (tk tv : TE) : TE := fun σ H Q => ∀ p, H p = none → tk σ (upd H p (.dT [])) fun x H1 => tv σ H1 fun y H2 => H2 p = some (.dT []) ∧ ∃ b k, x = .ref b ∧ H2 b = some (.tup (k.map kV)) ∧ Q (.ref p) (upd H2 p (.dT [(k, y)]))
theorem pe_disp1T {X : Cx} {pos : Pos} {k v : PySem.Expr} {tk tv : TE} (hu : X.A.units + 1 < cLine) (hk : PE X k tk) (hv : PE X v tv) : PE X (.Dict [some k] [v] pos) (tDisp1T tk tv) := by
  refine ⟨fun pins s σ H Q I q => ?_⟩
  have hn := I.hok.fresh (Nat.le_refl s.heap.objs.size)
  have I1 := I.laid (a := s.heap.objs.size) (o := .dT []) (h' := s.heap.push { cls := .type "dict", data := .dict #[] }) (t' := s.toks) (fun _ _ z => Heap.get?_push_of_some _ z) (Nat.le_refl _) (dt_empty s.heap I.big)
  rw [arm_eval_Dict, zip_pairTrees [some k] [v] X.env pos rfl rfl, dictDisplay_pairs (pairTrees [some k] [v] X.env pos) (by unfold pairTrees; exact fun z => nomatch z) (show (1 : Nat) < 17 by decide)]
  refine wpAny_bind (wpAny_standAt (wpAny_bind (wpAny_subDictH (knd := tupleKind (mixKind X.prog X.w)) (Q := fun d s2 => wpAny (model X.prog X.w) X.A (pure (Value.ref d)) (EP X pins σ Q) X.xe s2) (Nat.lt_of_succ_lt hu) (show (1 : Nat) ≤ 15 by decide) (thn ((pps_cons hk hv pps_nil).run pins _ σ _ (fun ps H2 => match ps with
    | [(x, y)] => H2 s.heap.objs.size = some (.dT []) ∧ ∃ b k, x = .ref b ∧ H2 b = some (.tup (k.map kV)) ∧ Q (.ref s.heap.objs.size) (upd H2 s.heap.objs.size (.dT [(k, y)]))
    | _ => False) I1 (q _ hn)) fun ws s2 hh => ?_))))
  obtain ⟨ps, H2, I2, rel, hq⟩ := hh
  split at hq
  · rename_i x y
    obtain ⟨e, b, kk, rfl, eb, q2⟩ := hq
    cases rel with
    | cons r t =>
      cases t
      rename_i uv
      obtain ⟨u1, u2⟩ := uv
      obtain ⟨r1, r2⟩ := r
      cases (show u1 = Value.ref b from r1)
      obtain ⟨z, hd, xs, rel, dd⟩ := dt_of I2.hok e
      cases rel
      refine ⟨[(kk, b, u2)], ⟨rfl, rfl, key_of I2.hok eb, trivial⟩, dd, fun h' tk dd' hs => wpAny_pure ⟨.ref s.heap.objs.size, _, ?_, rfl, q2⟩⟩
      obtain ⟨o, es, ep, hq, h2, h3, h4, _, h5⟩ := dd'
      refine d_write I2 (by rw [e]; exact True.intro) hs ⟨o, hq⟩ ⟨by show 1 ≤ sizeLine; decide, hd, _, ((KT.put (k := kk) (b := b) (y := y) (u := u2) (.nil : KT H2 [] []) eb r2)).keeps fun c ys ec => ?_, o, es, ep, hq, h2, h3, h4, h5⟩
      rw [upd_ne (ne_of ec e (fun z => nomatch z))]
      exact ec
  · exact hq.elim

end
end Rt
namespace L2
open PySem PySem.Spec PyProof.Rows
/-! ### dicts whose keys are a number and a tuple of numbers, with numbers as values -/
abbrev NKey : Type := Int × List Int
abbrev NEnt : Type := NKey × Addr × Int
def nkOf (k : NKey) : NestedKey := .tup [.num k.1, .tup (k.2.map .num)]
theorem nums_inj : ∀ {a b : List Int}, a.map NestedKey.num = b.map NestedKey.num → a = b
  | [], [], _ => rfl
  | x :: a, y :: b, h => by
    rw [List.map_cons, List.map_cons] at h
    have h1 := (List.cons.inj h).1
    rw [nums_inj (List.cons.inj h).2]
    cases h1
    rfl
  | [], _ :: _, h => by cases h
  | _ :: _, [], h => by cases h
theorem nkOf_inj {k l : NKey} (h : nkOf k = nkOf l) : k = l := by
  unfold nkOf at h
  injection h with h
  obtain ⟨h1, h2⟩ := List.cons.inj h
  obtain ⟨h2, _⟩ := List.cons.inj h2
  injection h1 with h1
  injection h2 with h2
  exact Prod.ext h1 (nums_inj h2)
theorem nums_depth : ∀ a : List Int, NestedKey.depthAll (a.map NestedKey.num) = 0
  | [] => by simp [NestedKey.depthAll]
  | x :: a => by simp [NestedKey.depthAll, NestedKey.depth, nums_depth a]
theorem nk_depth (k : NKey) : (nkOf k).depth ≤ 8 := by
  unfold nkOf
  simp [NestedKey.depth, NestedKey.depthAll, nums_depth]
/-- the key k stands at b -/
def NkAt (H : Hp) (b : Addr) (k : NKey) : Prop := ∃ c, H b = some (.tup [.int k.1, .ref c]) ∧ H c = some (.tup (k.2.map V.int))
def EntN (x : NEnt) (y : NestedKey × Addr × Value) : Prop := y.1 = nkOf x.1 ∧ y.2.1 = x.2.1 ∧ ∃ t, y.2.2 = .int x.2.2 t
def nO (P : Program) (w : World) (a : Addr) (xs : List NEnt) : HO := .ext fun h => xs.length ≤ sizeLine ∧ (a == sysModules) = false ∧ (xs.map (·.1)).Nodup ∧ ∃ ys, Paired EntN xs ys ∧ ∃ o es ep, h.get? a = some o ∧ o.ExactDict ∧ o.data = .dict es ep ∧ es.toList = ys.map (entryOfKey (nestedKind P w))
theorem nO_ok {P : Program} {w : World} {H : Hp} {h : Heap} {a : Addr} {xs : List NEnt} (h1 : xs.length ≤ sizeLine) (h2 : (a == sysModules) = false) (h3 : (xs.map (·.1)).Nodup) {ys : List (NestedKey × Addr × Value)} (h4 : Paired EntN xs ys) {o : Obj} {es : Array DictEntry} {ep : Nat} (h5 : h.get? a = some o) (h6 : o.ExactDict) (h7 : o.data = .dict es ep) (h8 : es.toList = ys.map (entryOfKey (nestedKind P w))) : ObjOk P w H h a (nO P w a xs) :=
  ⟨⟨h1, h2, h3, ys, h4, o, es, ep, h5, h6, h7, h8⟩, ⟨o, h5⟩, fun _ _ ⟨z1, z2, z3, ys, z4, o, es, ep, z5, z6⟩ k => ⟨z1, z2, z3, ys, z4, o, es, ep, k _ z5, z6⟩⟩
/-- what it holds -/
def nVal (xs : List NEnt) (k : NKey) : Option Int := (xs.find? fun x => decide (x.1 = k)).map (·.2.2)
theorem n_at {k : NKey} : ∀ {xs : List NEnt} {ys : List (NestedKey × Addr × Value)}, Paired EntN xs ys → (nVal xs k = none → atKey ys (nkOf k) = none) ∧ ∀ v, nVal xs k = some v → ∃ b t, atKey ys (nkOf k) = some (b, .int v t)
  | _, _, .nil => ⟨fun _ => rfl, fun _ h => by cases h⟩
  | x :: xs, y :: ys, .cons h r => by
    obtain ⟨e1, e2, t, e3⟩ := h
    obtain ⟨i1, i2⟩ := n_at (k := k) r
    unfold nVal atKey at *
    rw [List.find?_cons, List.find?_cons]
    by_cases e : x.1 = k
    · rw [show decide (x.1 = k) = true from decide_eq_true e, show decide (y.1 = nkOf k) = true from decide_eq_true (by rw [e1, e])]
      refine ⟨fun h => (by cases h), fun v h => ⟨y.2.1, t, ?_⟩⟩
      have hv : x.2.2 = v := Option.some.inj h
      show some y.2 = _
      rw [← hv, ← e3]
    · rw [show decide (x.1 = k) = false from decide_eq_false e, show decide (y.1 = nkOf k) = false from decide_eq_false fun z => e (nkOf_inj (e1.symm.trans z))]
      exact ⟨i1, i2⟩
theorem n_keys : ∀ {xs : List NEnt} {ys : List (NestedKey × Addr × Value)}, Paired EntN xs ys → ys.map (·.1) = (xs.map (·.1)).map nkOf ∧ xs.length = ys.length
  | _, _, .nil => ⟨rfl, rfl⟩
  | x :: xs, y :: ys, .cons h r => by
    obtain ⟨a, b⟩ := n_keys r
    exact ⟨by rw [List.map_cons, List.map_cons, List.map_cons, a, h.1], by rw [List.length_cons, List.length_cons, b]⟩
theorem n_mem : ∀ {xs : List NEnt} {ys : List (NestedKey × Addr × Value)}, Paired EntN xs ys → ∀ y ∈ ys, ∃ x ∈ xs, EntN x y
  | _, _, .nil, y, h => by cases h
  | x :: xs, y' :: ys, .cons h r, y, hy => by
    rcases List.mem_cons.mp hy with e | e
    · exact ⟨x, List.mem_cons_self, e ▸ h⟩
    · obtain ⟨z, hz, q⟩ := n_mem r y e
      exact ⟨z, List.mem_cons_of_mem _ hz, q⟩
section
variable {X : Cx} {pins : List (Addr × Obj)} {σ : St} {H : Hp} {s : Shared}
theorem nums_is {h : Heap} : ∀ {is : List Int} {us : List Value}, Vals (is.map V.int) us → NestedAll h (is.map NestedKey.num) us
  | [], _, .nil => .nil
  | i :: is, _, .cons r t => by
    obtain ⟨u, rfl⟩ := r
    exact .cons (.int i u) (nums_is t)
theorem nk_is (I : Inv X pins σ H s) {b : Addr} {k : NKey} (h : NkAt H b k) : (nestedKind X.prog X.w).is s.heap (nkOf k) b := by
  obtain ⟨c, e1, e2⟩ := h
  obtain ⟨its, r1, ⟨o1, a1, a2, n1, a3⟩, _⟩ := I.tuple (SqT.of e1)
  obtain ⟨its2, r2, ⟨o2, b1, b2, n2, b3⟩, _⟩ := I.tuple (SqT.of e2)
  refine ⟨?_, nk_depth k⟩
  cases r1 with
  | cons q1 t1 =>
    cases t1 with
    | cons q2 t2 =>
      cases t2
      obtain ⟨u, rfl⟩ := q1
      cases q2
      exact .tup a1 a2 a3 (.cons (.int _ _) (.cons (.tup b1 b2 b3 (nums_is r2)) .nil))
def KeysN (H : Hp) (xs : List NEnt) : Prop := ∀ x ∈ xs, NkAt H x.2.1 x.1
theorem dn_of (I : Inv X pins σ H s) {a : Addr} {xs : List NEnt} (e : H a = some (nO X.prog X.w a xs)) (hk : KeysN H xs) : xs.length ≤ sizeLine ∧ (a == sysModules) = false ∧ (xs.map (·.1)).Nodup ∧ ∃ ys, Paired EntN xs ys ∧ s.heap.DictOfH (nestedKind X.prog X.w) a ys := by
  obtain ⟨⟨h1, h2, h3, ys, h4, o, es, ep, h5, h6, h7, h8⟩, _⟩ := I.hok _ _ e
  obtain ⟨k1, _⟩ := n_keys h4
  refine ⟨h1, h2, h3, ys, h4, o, es, ep, h5, h6, h7, h8, fun y hy => ?_, ?_⟩
  · obtain ⟨x, hx, q1, q2, _⟩ := n_mem h4 y hy
    rw [q1, q2]
    exact nk_is I (hk x hx)
  · rw [k1]
    exact List.pairwise_map.mpr (List.Pairwise.imp (fun z q => z (nkOf_inj q)) h3)
/-- what the dict at a holds at y; the heap behind a[y] = v -/
def DGetX (P : Program) (w : World) (H : Hp) (a : Addr) (y : V) (o : Option V) : Prop := DGet H a y o ∨ ∃ xs k b, H a = some (nO P w a xs) ∧ KeysN H xs ∧ y = .ref b ∧ NkAt H b k ∧ o = (nVal xs k).map V.int
def DPutX (P : Program) (w : World) (H : Hp) (a : Addr) (y v : V) (H' : Hp) : Prop := DPut H a y v H' ∨ ∃ xs k b i, H a = some (nO P w a xs) ∧ KeysN H xs ∧ y = .ref b ∧ NkAt H b k ∧ nVal xs k = none ∧ xs.length < sizeLine ∧ v = .int i ∧ H' = upd H a (nO P w a (xs ++ [(k, b, i)]))
variable {a : Addr} {y v : V} {u r : Value} {o : Option V} {A : Around} {E : Value → Shared → Prop}
theorem n_room (hu : A.units + 64 < cLine) : (nestedKind X.prog X.w).room A.in1 := by
  show A.in1.units + 8 < cLine
  have : A.in1.units = A.units + 1 := rfl
  omega
theorem x_getItem {Q : Value → Shared → Prop} (hu : A.units + 64 < cLine) (I : Inv X pins σ H s) (g : DGetX X.prog X.w H a y (some v)) (ry : RelV y u) (h : ∀ w' s', Inv X pins σ H s' → RelV v w' → Q w' s') :
    wpAny (model X.prog X.w) A (getItem (.ref a) u) Q E s := by
  rcases g with g | ⟨xs, k, b, e, hk, ey, eb, l⟩
  · exact d_getItem (by omega) I g ry h
  · subst ey
    cases (show u = Value.ref b from ry)
    obtain ⟨_, hd, _, ys, hp, dd⟩ := dn_of I e hk
    obtain ⟨i, hi, rfl⟩ := Option.map_eq_some_iff.mp l.symm
    obtain ⟨c, t, hc⟩ := (n_at hp).2 i hi
    exact wpAny_getItem_heap (n_room hu) (nk_is I eb) dd hc (h _ _ (I.tok _) ⟨t, rfl⟩)
theorem x_notIn {Q : Value → Shared → Prop} (hu : A.units + 64 < cLine) (I : Inv X pins σ H s) (g : DGetX X.prog X.w H a y o) (ry : RelV y u) (h : ∀ s', Inv X pins σ H s' → Q (.bool (!o.isSome)) s') :
    wpAny (model X.prog X.w) A (compareOp .NotIn u (.ref a)) Q E s := by
  rcases g with g | ⟨xs, k, b, e, hk, ey, eb, l⟩
  · exact d_notIn (by omega) I g ry h
  · subst ey
    cases (show u = Value.ref b from ry)
    obtain ⟨_, hd, _, ys, hp, dd⟩ := dn_of I e hk
    refine wpAny_notIn_heap (n_room hu) (nk_is I eb) hd dd ?_
    have q : (atKey ys (nkOf k)).isSome = o.isSome := by
      rw [l, Option.isSome_map]
      cases z : nVal xs k with
      | none => rw [(n_at hp).1 z]; rfl
      | some i =>
        obtain ⟨c, t, hc⟩ := (n_at hp).2 i z
        rw [hc]
        rfl
    rw [q]
    exact h _ (I.tok _)
theorem n_snoc {x : NEnt} {z : NestedKey × Addr × Value} (h : EntN x z) : ∀ {xs : List NEnt} {ys : List (NestedKey × Addr × Value)}, Paired EntN xs ys → Paired EntN (xs ++ [x]) (ys ++ [z])
  | _, _, .nil => .cons h .nil
  | _, _, .cons a r => .cons a (n_snoc h r)
theorem x_setItem {H' : Hp} {Q : Unit → Shared → Prop} (hu : A.units + 64 < cLine) (I : Inv X pins σ H s) (g : DPutX X.prog X.w H a y v H') (ry : RelV y u) (rv : RelV v r) (h : ∀ s', Inv X pins σ H' s' → Q () s') :
    wpAny (model X.prog X.w) A (setItem (.ref a) u r) Q E s := by
  rcases g with g | ⟨xs, k, b, i, e, hk, ey, eb, hn, hl, ev, eH⟩
  · exact d_setItem (by omega) I g ry rv h
  · subst ey ev eH
    cases (show u = Value.ref b from ry)
    obtain ⟨t, rfl⟩ := rv
    obtain ⟨hz, hd, nd, ys, hp, dd⟩ := dn_of I e hk
    obtain ⟨_, hlen⟩ := n_keys hp
    refine wpAny_setItem_heap (hsz := by rw [← hlen]; exact hz) (n_room hu) (nk_is I eb) dd fun h' dd' hs => h _ ?_
    rw [storedH_new ((n_at hp).1 hn)] at dd'
    obtain ⟨q, es, ep, hq, h2, h3, h4, _, h5⟩ := dd'
    refine d_write I (by rw [e]; exact True.intro) hs ⟨q, hq⟩ (nO_ok (by rw [List.length_append, List.length_singleton]; omega) hd ?_ (n_snoc ⟨rfl, rfl, t, rfl⟩ hp) hq h2 h3 h4)
    rw [List.map_append]
    refine List.nodup_append.mpr ⟨nd, List.nodup_cons.mpr ⟨List.not_mem_nil, List.nodup_nil⟩, fun x hx z hz2 => ?_⟩
    rw [List.mem_singleton.mp hz2]
    rintro rfl
    obtain ⟨x, hx2, rfl⟩ := List.mem_map.mp hx
    unfold nVal at hn
    have := List.find?_eq_none.mp (Option.map_eq_none_iff.mp hn) x hx2
    simp at this
theorem n_empty (h : Heap) (hb : sysModules < h.objs.size) : ObjOk X.prog X.w H (h.push { cls := .type "dict", data := .dict #[] }) h.objs.size (nO X.prog X.w h.objs.size []) :=
  nO_ok (Nat.zero_le _) (beq_eq_false_iff_ne.mpr (Ne.symm (Nat.ne_of_lt hb))) List.nodup_nil .nil (Heap.get?_push_size _ rfl) ⟨rfl, rfl, rfl⟩ rfl rfl
end
section
variable {X : Cx} {o i e value : Expr} {pos pos' tpos : Pos} {td ty tv : TE}
def tDNewX (P : Program) (w : World) : TE := fun _ H Q => (∀ p, H p = none → Q (.ref p) (upd H p (.dK []))) ∨ ∀ p, H p = none → Q (.ref p) (upd H p (nO P w p []))
def tDGetX (P : Program) (w : World) (td ty : TE) : TE := fun σ H Q => td σ H fun x H1 => ty σ H1 fun y H2 => ∃ a v, x = .ref a ∧ DGetX P w H2 a y (some v) ∧ Q v H2
def tDNotInX (P : Program) (w : World) (ty td : TE) : TE := fun σ H Q => ty σ H fun y H1 => td σ H1 fun x H2 => ∃ a o, x = .ref a ∧ DGetX P w H2 a y o ∧ Q (.bl (!o.isSome)) H2
def sDPutX (P : Program) (w : World) (td ty tv : TE) : TS := fun D σ H => tv σ H fun v H1 => td σ H1 fun x H2 => ty σ H2 fun y H3 => ∃ a H4, x = .ref a ∧ DPutX P w H3 a y v H4 ∧ D.nx σ H4
theorem pe_dnewX : PE X (.Dict [] [] pos) (tDNewX X.prog X.w) := ⟨fun pins s σ H Q I h => by
  rcases h with h | h
  · exact pe_dnewK.run pins s σ H Q I h
  · exact wpAny_Dict_empty ⟨.ref s.heap.objs.size, _, I.laid (a := s.heap.objs.size) (o := nO X.prog X.w s.heap.objs.size []) (t' := s.toks) (fun _ _ q => Heap.get?_push_of_some _ q) (Nat.le_refl _) (n_empty s.heap I.big), rfl, h _ (I.hok.fresh (Nat.le_refl _))⟩⟩
theorem dX_typeIs {pins : List (Addr × Obj)} {σ : St} {H : Hp} {s : Shared} {a : Addr} {y : V} {o : Option V} (I : Inv X pins σ H s) (g : DGetX X.prog X.w H a y o) : s.TypeIs (.ref a) "dict" := by
  rcases g with g | ⟨xs, k, b, e, hk, _⟩
  · exact dict_typeIs I g
  · obtain ⟨_, _, _, ys, _, dd⟩ := dn_of I e hk
    exact dd.typeIs
theorem pe_dgetX (hu : X.A.units + 64 < cLine) (ho : PE X o td) (hi : PE X i ty) (hs : NoSl i) : PE X (.Subscript o i pos) (tDGetX X.prog X.w td ty) := by
  refine ⟨fun pins s σ H Q I h => ?_⟩
  refine subD_of PySem.F.slot_dict_getitem.lookup hs (thn (ho.run pins s σ H _ I h) fun u s1 ⟨x, H1, I1, rx, q1⟩ => thn (hi.run pins s1 σ H1 _ I1 q1) fun iv s2 ⟨y, H2, I2, ry, a, v, ex, g, q2⟩ => ?_)
  subst ex
  obtain rfl : u = Value.ref a := rx
  exact ⟨dX_typeIs I2 g, x_getItem hu I2 g ry fun w' s3 I3 rw' => ⟨v, H2, I3, rw', q2⟩⟩
theorem pc_dnotinX (hu : X.A.units + 64 < cLine) (hi : PE X i ty) (ho : PE X o td) : PC X .NotIn i o (tDNotInX X.prog X.w ty td) := by
  refine ⟨fun pins s σ H Q I h => ?_⟩
  refine thn (hi.run pins s σ H _ I h) fun iv s1 ⟨y, H1, I1, ry, q1⟩ => thn (ho.run pins s1 σ H1 _ I1 q1) fun u s2 ⟨x, H2, I2, rx, a, ov, ex, g, q2⟩ => ?_
  subst ex
  obtain rfl : u = Value.ref a := rx
  exact x_notIn hu I2 g ry fun s3 I3 => ⟨.bl (!ov.isSome), H2, I3, rfl, q2⟩
theorem ps_dputX (hu : X.A.units + 64 < cLine) (ho : PE X o td) (hi : PE X i ty) (hv : PE X value tv) (hs : swapsWith value (some (.Subscript o i pos')) pos.line X.env = pure false) :
    PS X (.Assign [.Subscript o i pos'] value pos) (sDPutX X.prog X.w td ty tv) := by
  refine ⟨fun pins s σ H D I h => ?_⟩
  refine wpAny_Assign_Subscript (thn (hv.run pins s σ H _ I h) fun r s1 ⟨v, H1, I1, rv, q1⟩ => thn (ho.run pins s1 σ H1 _ I1 q1) fun u s2 ⟨x, H2, I2, rx, q2⟩ => thn (hi.run pins s2 σ H2 _ I2 q2) fun iv s3 ⟨y, H3, I3, ry, a, H4, ex, g, q3⟩ => ?_) hs
  subst ex
  obtain rfl : u = Value.ref a := rx
  exact x_setItem hu I3 g ry rv fun s4 I4 => ⟨σ, H4, I4, q3⟩
def rLenX (P : Program) (w : World) : List V → Hp → VK → Prop := fun xs H Q => ∃ p, xs = [.ref p] ∧ ((∃ kvs, H p = some (.dK kvs) ∧ Q (.int (kvs.length : Nat)) H) ∨ ∃ es, H p = some (nO P w p es) ∧ KeysN H es ∧ Q (.int (es.length : Nat)) H)
theorem call_len_dX {X : Cx} : CallR X (.builtin "len") (rLenX X.prog X.w) := by
  intro pins s σ H xs us Q I r h
  obtain ⟨p, rfl, h⟩ := h
  obtain ⟨u, rfl, rx⟩ := vals1 r
  obtain rfl : u = .ref p := rx
  rcases h with ⟨kvs, hp, q⟩ | ⟨es, hp, hk, q⟩
  · exact d_len I (.inl hp) fun t s' I' => ⟨.int (kvs.length : Nat), H, I', ⟨t, rfl⟩, q⟩
  · obtain ⟨z, hd, _, ys, rel, dd⟩ := dn_of I hp hk
    obtain ⟨_, hl⟩ := n_keys rel
    refine call_len_dictH hd dd (by rw [← hl]; rw [sizeLine_eq] at z; omega) ?_
    rw [← hl]
    exact ⟨.int ((es.length : Nat) : Int), H, I.tok _, ⟨_, rfl⟩, q⟩
end
end L2
namespace Rt
open PySem L2 PySem.Spec PyProof.Rows
section
variable {P : Program} {w : World} {K : PySem.W.Frag} {mg : Str → Option Value} {base : Heap}

/-! ### is_integer, and the checks -/
def spIsInt (T : Tx P K mg) : Sp := fun vs H Q _ => ∃ (x : V) (lo hi : Int), vs = [x, .int lo, .int hi] ∧ AnyV (OwnT T) H x ∧ Q (.bl (intIn x lo hi)) H
theorem isi_int (T : Tx P K mg) {H : Hp} {x : V} (a : AnyV (OwnT T) H x) : ∃ t, TyX K H x t ∧ (∃ b, PySem.W.kitOne K t (.type "int") = some b ∧ (b = false → ∀ lo hi, intIn x lo hi = false) ∧ ∃ c, PySem.W.kitOne K t (.type "bool") = some c ∧ (c = true → ∀ lo hi, intIn x lo hi = false) ∧ (b = true → c = false → ∃ i, x = .int i)) := by
  cases a with
  | non => exact ⟨_, .base .non, false, kit_ty (by decide +kernel), fun _ _ _ => rfl, false, kit_ty (by decide +kernel), fun _ _ _ => rfl, fun z => nomatch z⟩
  | bl b => exact ⟨_, .base (.bl b), true, kit_ty (by decide +kernel), fun _ _ _ => rfl, true, kit_ty (by decide +kernel), fun _ _ _ => rfl, fun _ z => nomatch z⟩
  | int i => exact ⟨.type "int", .base (.int i), true, kit_ty (by decide +kernel), fun z => Bool.noConfusion z, false, kit_ty (by decide +kernel), fun z => Bool.noConfusion z, fun _ _ => ⟨i, rfl⟩⟩
  | str x => exact ⟨_, .base (.str x), false, kit_ty (by decide +kernel), fun _ _ _ => rfl, false, kit_ty (by decide +kernel), fun _ _ _ => rfl, fun z => nomatch z⟩
  | lst e => exact ⟨_, .base (.lst e), false, kit_ty (by decide +kernel), fun _ _ _ => rfl, false, kit_ty (by decide +kernel), fun _ _ _ => rfl, fun z => nomatch z⟩
  | tup e => exact ⟨_, .base (.tup e), false, kit_ty (by decide +kernel), fun _ _ _ => rfl, false, kit_ty (by decide +kernel), fun _ _ _ => rfl, fun z => nomatch z⟩
  | dct e => exact ⟨_, .base (.dK e), false, kit_ty (by decide +kernel), fun _ _ _ => rfl, false, kit_ty (by decide +kernel), fun _ _ _ => rfl, fun z => nomatch z⟩
  | ins t e => exact ⟨_, .base (t.ty e), false, t.nint, fun _ _ _ => rfl, false, t.nbool, fun _ _ _ => rfl, fun z => nomatch z⟩
theorem ok_is_integer (T : Tx P K mg) : FnOk P w K mg base CX0 lv_is_integer T.a_is_integer T.d_is_integer ["told", "low", "high"] (spIsInt T) := by
  refine T.F_is_integer.ok sc_is_integer (fun vs H Q E h => ?_) (fun cdv A outer s H vs Q E hr h => ?_)
  · obtain ⟨x, lo, hi, rfl, _⟩ := h
    rfl
  · obtain ⟨x, lo, hi, rfl, a, k⟩ := h
    refine ⟨_, (pss_one (ps_ret (pe_and (pe_callB call_isi (by rfl) T.n_isinstance (by decide +kernel) (pa_cons (pv 0) (pa_cons (pe_bltn (v := .ty "int") rfl T.n_int (by decide +kernel) rfl) pa_nil))) (pe_and (pe_not (pe_callB call_isi (by rfl) T.n_isinstance (by decide +kernel) (pa_cons (pv 0) (pa_cons (pe_bltn (v := .ty "bool") rfl T.n_bool (by decide +kernel) rfl) pa_nil)))) (pe_one (pe_chain op_le op_le (pv 1) (pv 0) (pv 2))))))), ?_⟩
    obtain ⟨t, ty, b, e1, h1, c, e2, h2, h3⟩ := isi_int T a
    refine ⟨_, rfl, _, _, _, _, b, rfl, .ty _, ty, e1, b, rfl, ?_⟩
    cases b with
    | false => exact iteF (by rw [h1 rfl lo hi] at k; exact k)
    | true =>
      refine iteT ?_
      refine ⟨_, rfl, _, _, _, _, c, rfl, .ty _, ty, e2, c, rfl, _, rfl, ?_⟩
      cases c with
      | true => exact iteF (by rw [h2 rfl lo hi] at k; exact k)
      | false =>
        refine iteT ?_
        obtain ⟨i, rfl⟩ := h3 rfl rfl
        refine ⟨_, rfl, _, rfl, _, _, rfl, rfl, _, rfl, ?_⟩
        have ke : Q (V.bl (decide (lo ≤ i) && decide (i ≤ hi))) H := k
        refine ite2 (fun c1 => ?_) (fun c1 => ?_)
        · rw [c1] at ke
          exact ⟨_, rfl, _, _, rfl, rfl, ke⟩
        · rw [show decide (lo ≤ i) = false from by simpa using c1] at ke
          exact ke
/-- base, take and the like: a value in the range, or the error of the class C -/
def spChk (T : Tx P K mg) (C : Addr) (lo hi : Int) : Sp := fun vs H Q E => ∃ x : V, vs = [x] ∧ AnyV (OwnT T) H x ∧ (intIn x lo hi = true → Q .non H) ∧ (intIn x lo hi = false → E (.ref C) none H)

theorem ok_check_base (T : Tx P K mg) : FnOk P w K mg base (L2.CX P w) lv_check_base T.a_check_base T.d_check_base ["base"] (spChk T T.C_BadBase 2 16) := by
  refine T.F_check_base.okX sc_check_base (fun vs H Q E h => ?_) (fun cdv A outer s H vs Q E hr h => ?_)
  · obtain ⟨x, rfl, _⟩ := h
    rfl
  · obtain ⟨x, rfl, a, k1, k2⟩ := h
    refine ⟨_, (pss_one (ps_if (pt_not (pt_val (pe_call (ok_is_integer T) (hr.mono (by decide)) rfl T.g_is_integer T.F_is_integer.kp T.b_is_integer .nil pass0 (pa_cons (pv 0) (pa_cons (pe_glob (v := .int 2) rfl T.c_LEAST_BASE ⟨_, rfl⟩) (pa_cons (pe_glob (v := .int 16) rfl T.c_GREATEST_BASE ⟨_, rfl⟩) pa_nil)))))) (pss_one (ps_raise rfl (takes_of rfl rfl rfl rfl) (pmk_own PySem.F.excBase_ValueError T.x_BadBase T.g_BadBase T.k_BadBase (raises_own T.s_BadBase T.t_BadBase) rfl))) pss_nil)), ?_⟩
    refine ⟨_, rfl, _, _, _, rfl, a, _, rfl, ?_⟩
    cases e : intIn x 2 16 with
    | true => exact iteF (k1 e)
    | false => exact iteT (k2 e)


/-! ### enumerate(zip(a, b)) over two lists -/
end
end Rt
namespace EnumZ
open PySem PyProof.Rows
abbrev IsZipQ (h : Heap) (z TI TO : Addr) (f0 : Value) (f : Bool) : Prop :=
  h.get? z = some { cls := .type "zip", dict := none, data := .fields #[f0, .bool f, .bool false, .ref TI, .ref TO], slots := #[] }
/-- the zip at z at turn i: new, or its last tuple was not let go -/
structure ZS (h : Heap) (z TI TO i1 i2 l1 l2 : Addr) (i : Nat) : Prop where
  zip : IsZip h z TI TO .none ∨ ∃ (T : Addr) (f : Bool), IsZipQ h z TI TO (rawInt T) f
  ti : IsPair h TI (.ref i1) (.ref i2)
  to : ∃ a b, IsPair h TO a b
  it1 : h.IsListIter i1 l1 i
  it2 : h.IsListIter i2 l2 i
section
variable {P : Program} {w : World} {A : Around} {E : Value → Shared → Prop} {s : Shared} {z TI TO i1 i2 l1 l2 T : Addr} {i : Nat} {xs ys : Array Value} {x y a b : Value}
/-- the last tuple is gone, so the zip's own tuple is used again -/
theorem gone {f : Bool} {Q : Bool → Shared → Prop} (hz : IsZipQ s.heap z TI TO (rawInt T) f) (hT : s.heap.get? T = none) (q : Q true s) : wpAny (model P w) A (Builtin.SmallTypes.ownedTupleIsFree (.ref z)) Q E s := by
  unfold Builtin.SmallTypes.ownedTupleIsFree
  refine wpAny_bind (wpAny_field hz rfl (x := rawInt T) rfl ?_)
  show wpAny _ _ (loadIfAlive ((T : Int).toNat) >>= _) _ _ _
  rw [Int.toNat_natCast]
  refine wpAny_bind ?_
  have k : ∀ {R : Option Obj → Shared → Prop}, R none s → wpAny (model P w) A (loadIfAlive T) R E s := fun {R} r _ _ _ => by
    have r' : R (s.heap.get? T) s := by rw [hT]; exact r
    exact r'
  refine k ?_
  simp only [Option.isNone_none, if_true]
  exact wpAny_pure q
theorem item_gone {f : Bool} {Q : Value → Shared → Prop} (D : ZipApart z TI TO i1 i2 l1 l2) (hz : IsZipQ s.heap z TI TO (rawInt T) f) (hT : s.heap.get? T = none) (hTI : IsPair s.heap TI (.ref i1) (.ref i2)) (hTO : IsPair s.heap TO a b)
    (h1 : s.heap.IsListIter i1 l1 i) (h2 : s.heap.IsListIter i2 l2 i) (hl1 : s.heap.IsList l1 xs) (hl2 : s.heap.IsList l2 ys) (hx : xs[i]? = some x) (hy : ys[i]? = some y)
    (q : ∀ h2, ZS h2 z TI TO i1 i2 l1 l2 (i + 1) → IsPair h2 s.heap.objs.size x y → h2.objs.size = s.heap.objs.size + 1 → (∀ c o, c ∉ [z, TO, i1, i2] → s.heap.get? c = some o → h2.get? c = some o) → Q (.ref s.heap.objs.size) { s with heap := h2 }) :
    wpAny (model P w) A (Builtin.«zip.__next__» ⟨[.ref z], []⟩) (fun fin s2 => ∃ v, fin = .done (.ret v) ∧ Q v s2) E s := by
  show wpAny _ _ (field (.ref z) 2 >>= _) _ _ _
  refine wpAny_bind (wpAny_field hz rfl (x := .bool false) rfl ?_)
  show wpAny _ _ (field (.ref z) 3 >>= _) _ _ _
  refine wpAny_bind (wpAny_field hz rfl (x := .ref TI) rfl (wpAny_bind (wpAny_seqItems hTI rfl ?_)))
  show wpAny _ _ (Builtin.SmallTypes.ownedTupleIsFree (.ref z) >>= _) _ _ _
  refine wpAny_bind (gone hz hT ?_)
  simp only [if_true]
  refine wpAny_bind (wpAny_rule (wpAny_bind (wpAny_field hz rfl (x := .ref TO) rfl (wpAny_bind (wpAny_setField_rec hz (by simp) fun ha za sa => ?_)))))
  replace za : IsZipQ ha z TI TO .ellipsis f := za
  refine wpAny_bind ?_
  simp only [List.zipIdx_cons, List.zipIdx_nil, List.forIn_cons, List.forIn_nil]
  refine wpAny_bind (wpAny_bind (wpAny_onRaise ?_))
  show wpAny _ _ (Builtin.SmallTypes.nextOf (.ref i1) >>= _) _ _ _
  refine wpAny_bind (wpAny_nextOf_list_item (h1.extBut sa.extBut D.i1z) (hl1.extBut sa.extBut D.l1z) hx fun hb ib sb => wpAny_pure ?_)
  have tb : IsPair hb TO a b := sb.extBut _ _ D.TOi1 (sa.extBut _ _ D.TOz hTO)
  refine wpAny_bind (wpAny_seqItems tb rfl (wpAny_bind (wpAny_updateSeq_pair tb fun hc tc sc => ?_)))
  replace tc : IsPair hc TO x b := tc
  refine wpAny_bind (wpAny_letGo (wpAny_pure (wpAny_bind (wpAny_bind (wpAny_onRaise ?_)))))
  show wpAny _ _ (Builtin.SmallTypes.nextOf (.ref i2) >>= _) _ _ _
  refine wpAny_bind (wpAny_nextOf_list_item (((h2.extBut sa.extBut D.i2z).extBut sb.extBut D.i12.symm).extBut sc.extBut D.TOi2.symm) (((hl2.extBut sa.extBut D.l2z).extBut sb.extBut D.l2i1).extBut sc.extBut D.l2TO) hy fun hd id2 sd => wpAny_pure ?_)
  have td : IsPair hd TO x b := sd.extBut _ _ D.TOi2 tc
  refine wpAny_bind (wpAny_seqItems td rfl (wpAny_bind (wpAny_updateSeq_pair td fun he te se => ?_)))
  replace te : IsPair he TO x y := te
  refine wpAny_bind (wpAny_letGo (wpAny_pure (wpAny_pure (wpAny_bind (wpAny_seqItems te rfl (wpAny_bind (wpAny_newTuple ?_)))))))
  have ze : IsZipQ he z TI TO .ellipsis f := se.extBut _ _ D.TOz.symm (sd.extBut _ _ D.i2z.symm (sc.extBut _ _ D.TOz.symm (sb.extBut _ _ D.i1z.symm za)))
  have kz : ∀ c o, c ∉ [z, TO, i1, i2] → s.heap.get? c = some o → he.get? c = some o := fun c o nc e => by
    simp only [List.mem_cons, List.not_mem_nil, or_false, not_or] at nc
    exact se.extBut _ _ nc.2.1 (sd.extBut _ _ nc.2.2.2 (sc.extBut _ _ nc.2.1 (sb.extBut _ _ nc.2.2.1 (sa.extBut _ _ nc.1 e))))
  have i1e : he.IsListIter i1 l1 (i + 1) := ((ib.extBut sc.extBut D.TOi1.symm).extBut sd.extBut D.i12).extBut se.extBut D.TOi1.symm
  have i2e : he.IsListIter i2 l2 (i + 1) := id2.extBut se.extBut D.TOi2.symm
  have sz : he.objs.size = s.heap.objs.size := by rw [se.1, sd.1, sc.1, sb.1, sa.1]
  have zl : z < he.objs.size := Heap.lt_size ze
  show wpAny _ _ (Builtin.SmallTypes.ownedTupleHandOut (.ref z) (.ref he.objs.size) >>= _) _ _ _
  refine wpAny_bind ?_
  unfold Builtin.SmallTypes.ownedTupleHandOut
  have zf : IsZipQ (he.push { cls := .type "tuple", data := .seq #[x, y] }) z TI TO .ellipsis f := Heap.get?_push_of_some _ ze
  refine wpAny_bind (wpAny_setField_rec zf (by simp) fun hg zg sg => ?_)
  replace zg : IsZipQ hg z TI TO (rawInt he.objs.size) f := zg
  refine wpAny_setField_rec zg (by simp) fun hi zi si => ?_
  replace zi : IsZipQ hi z TI TO (rawInt he.objs.size) false := zi
  have up : ∀ c o, c ≠ z → he.get? c = some o → hi.get? c = some o := fun c o n e => si.extBut _ _ n (sg.extBut _ _ n (Heap.get?_push_of_some _ e))
  have pn : IsPair hi he.objs.size x y := si.extBut _ _ (Nat.ne_of_gt zl) (sg.extBut _ _ (Nat.ne_of_gt zl) (Heap.get?_push_size _ rfl))
  have sn : hi.objs.size = he.objs.size + 1 := by rw [si.1, sg.1, Heap.size_push]
  rw [sz] at pn sn zi
  refine wpAny_pure ⟨_, rfl, ?_⟩
  show Q (.ref he.objs.size) _
  rw [sz]
  have kti : IsPair he TI (.ref i1) (.ref i2) := kz TI _ (by simp [D.TIz, D.TITO, D.TIi1, D.TIi2]) hTI
  exact q hi ⟨.inr ⟨_, _, zi⟩, up _ _ D.TIz kti, ⟨_, _, up _ _ D.TOz te⟩, i1e.at fun o e => up _ o D.i1z e, i2e.at fun o e => up _ o D.i2z e⟩ pn sn fun c o nc e => up c o (fun e2 => nc (by simp [e2])) (kz c o nc e)
theorem item_any {Q : Value → Shared → Prop} (D : ZipApart z TI TO i1 i2 l1 l2) (st : ZS s.heap z TI TO i1 i2 l1 l2 i) (hl1 : s.heap.IsList l1 xs) (hl2 : s.heap.IsList l2 ys) (hx : xs[i]? = some x) (hy : ys[i]? = some y)
    (q : ∀ h2, ZS h2 z TI TO i1 i2 l1 l2 (i + 1) → IsPair h2 s.heap.objs.size x y → h2.objs.size = s.heap.objs.size + 1 → (∀ c o, c ∉ [z, TO, i1, i2] → s.heap.get? c = some o → h2.get? c = some o) → Q (.ref s.heap.objs.size) { s with heap := h2 }) :
    wpAny (model P w) A (Builtin.«zip.__next__» ⟨[.ref z], []⟩) (fun fin s2 => ∃ v, fin = .done (.ret v) ∧ Q v s2) E s := by
  obtain ⟨hz, hTI, ⟨a, b, hTO⟩, h1, h2⟩ := st
  rcases hz with hz | ⟨T, f, hz⟩
  · refine zip_next_item D hz hTI hTO h1 h2 hl1 hl2 hx hy fun h' a1 a2 a3 a4 a5 a6 a7 => q h' ⟨.inr ⟨_, _, a1⟩, ?_, ⟨_, _, a2⟩, a3, a4⟩ a5 a6 fun c o nc e => ?_
    · exact a7 _ _ D.TIz D.TITO D.TIi1 D.TIi2 hTI
    · simp only [List.mem_cons, List.not_mem_nil, or_false, not_or] at nc
      exact a7 c o nc.1 nc.2.1 nc.2.2.1 nc.2.2.2 e
  · rcases hT : s.heap.get? T with _ | oT
    · exact item_gone D hz hT hTI hTO h1 h2 hl1 hl2 hx hy q
    · refine zip_next_item_held D hz hT hTI h1 h2 hl1 hl2 hx hy fun h' a1 a3 a4 a5 a6 a7 => q h' ⟨.inr ⟨_, _, a1⟩, ?_, ⟨a, b, ?_⟩, a3, a4⟩ a5 a6 fun c o nc e => ?_
      · exact a7 _ _ D.TIz D.TIi1 D.TIi2 hTI
      · exact a7 _ _ D.TOz D.TOi1 D.TOi2 hTO
      · simp only [List.mem_cons, List.not_mem_nil, or_false, not_or] at nc
        exact a7 c o nc.1 nc.2.2.1 nc.2.2.2 e
theorem end_gone {f : Bool} {Q : Fin → Shared → Prop} (hh : A.handled = none) (D : ZipApart z TI TO i1 i2 l1 l2) (hz : IsZipQ s.heap z TI TO (rawInt T) f) (hT : s.heap.get? T = none) (hTI : IsPair s.heap TI (.ref i1) (.ref i2)) (hTO : IsPair s.heap TO a b)
    (h1 : s.heap.IsListIter i1 l1 i) (h2 : s.heap.IsListIter i2 l2 i) (hl1 : s.heap.IsList l1 xs) (hl2 : s.heap.IsList l2 ys) (out : xs[i]? = none ∨ ys[i]? = none)
    (q : ∀ h2 e, (∀ c o, c ∉ [z, TO, i1, i2] → s.heap.get? c = some o → h2.get? c = some o) → (∃ o, h2.get? e = some o ∧ o.cls = .type "StopIteration") → E (.ref e) { s with heap := h2 }) :
    wpAny (model P w) A (Builtin.«zip.__next__» ⟨[.ref z], []⟩) Q E s := by
  show wpAny _ _ (field (.ref z) 2 >>= _) _ _ _
  refine wpAny_bind (wpAny_field hz rfl (x := .bool false) rfl ?_)
  show wpAny _ _ (field (.ref z) 3 >>= _) _ _ _
  refine wpAny_bind (wpAny_field hz rfl (x := .ref TI) rfl (wpAny_bind (wpAny_seqItems hTI rfl ?_)))
  show wpAny _ _ (Builtin.SmallTypes.ownedTupleIsFree (.ref z) >>= _) _ _ _
  refine wpAny_bind (gone hz hT ?_)
  simp only [if_true]
  refine wpAny_bind (wpAny_rule (wpAny_bind (wpAny_field hz rfl (x := .ref TO) rfl (wpAny_bind (wpAny_setField_rec hz (by simp) fun ha za sa => ?_)))))
  replace za : IsZipQ ha z TI TO .ellipsis f := za
  refine wpAny_bind ?_
  simp only [List.zipIdx_cons, List.zipIdx_nil, List.forIn_cons, List.forIn_nil]
  refine wpAny_bind (wpAny_bind (wpAny_onRaise ?_))
  show wpAny _ _ (Builtin.SmallTypes.nextOf (.ref i1) >>= _) _ _ _
  have fin : ∀ (hp : Heap) (e : Addr), IsZipQ hp z TI TO .ellipsis f → (∀ c o, c ∉ [z, TO, i1, i2] → s.heap.get? c = some o → hp.get? c = some o) → (∃ o, hp.get? e = some o ∧ o.cls = .type "StopIteration") →
      wpAny (model P w) A (setField (.ref z) 0 .none) (fun _ s2 => E (.ref e) s2) E { s with heap := hp } := fun hp e zp kp st => by
    obtain ⟨o, ho, co⟩ := st
    have ne : e ≠ z := fun e2 => by
      rw [e2, zp] at ho
      rw [← Option.some.inj ho] at co
      exact absurd (show Value.type "zip" = Value.type "StopIteration" from co) (by decide)
    refine wpAny_setField_rec (s := { s with heap := hp }) zp (by simp) fun hq _ sq => q hq e (fun c o2 nc e2 => ?_) ⟨o, sq.extBut _ _ ne ho, co⟩
    have nz : c ≠ z := fun e3 => nc (by simp [e3])
    exact sq.extBut _ _ nz (kp c o2 nc e2)
  rcases hx : xs[i]? with _ | x
  · refine wpAny_bind (wpAny_nextOf_list_end hh (h1.extBut sa.extBut D.i1z) (hl1.extBut sa.extBut D.l1z) hx fun hb e sb st => ?_)
    refine fin hb e (sb _ _ D.i1z.symm za) (fun c o nc e2 => ?_) st
    simp only [List.mem_cons, List.not_mem_nil, or_false, not_or] at nc
    exact sb _ _ nc.2.2.1 (sa.extBut _ _ nc.1 e2)
  · have hy : ys[i]? = none := by
      rcases out with o | o
      · rw [hx] at o; cases o
      · exact o
    refine wpAny_bind (wpAny_nextOf_list_item (h1.extBut sa.extBut D.i1z) (hl1.extBut sa.extBut D.l1z) hx fun hb ib sb => wpAny_pure ?_)
    have tb : IsPair hb TO a b := sb.extBut _ _ D.TOi1 (sa.extBut _ _ D.TOz hTO)
    refine wpAny_bind (wpAny_seqItems tb rfl (wpAny_bind (wpAny_updateSeq_pair tb fun hc tc sc => ?_)))
    refine wpAny_bind (wpAny_letGo (wpAny_pure (wpAny_bind (wpAny_bind (wpAny_onRaise ?_)))))
    show wpAny _ _ (Builtin.SmallTypes.nextOf (.ref i2) >>= _) _ _ _
    refine wpAny_bind (wpAny_nextOf_list_end hh (((h2.extBut sa.extBut D.i2z).extBut sb.extBut D.i12.symm).extBut sc.extBut D.TOi2.symm) (((hl2.extBut sa.extBut D.l2z).extBut sb.extBut D.l2i1).extBut sc.extBut D.l2TO) hy fun hd e sd st => ?_)
    refine fin hd e (sd _ _ D.i2z.symm (sc.extBut _ _ D.TOz.symm (sb.extBut _ _ D.i1z.symm za))) (fun c o nc e2 => ?_) st
    simp only [List.mem_cons, List.not_mem_nil, or_false, not_or] at nc
    exact sd _ _ nc.2.2.2 (sc.extBut _ _ nc.2.1 (sb.extBut _ _ nc.2.2.1 (sa.extBut _ _ nc.1 e2)))
theorem end_any {Q : Fin → Shared → Prop} (hh : A.handled = none) (D : ZipApart z TI TO i1 i2 l1 l2) (st : ZS s.heap z TI TO i1 i2 l1 l2 i) (hl1 : s.heap.IsList l1 xs) (hl2 : s.heap.IsList l2 ys) (out : xs[i]? = none ∨ ys[i]? = none)
    (q : ∀ h2 e, (∀ c o, c ∉ [z, TO, i1, i2] → s.heap.get? c = some o → h2.get? c = some o) → (∃ o, h2.get? e = some o ∧ o.cls = .type "StopIteration") → E (.ref e) { s with heap := h2 }) :
    wpAny (model P w) A (Builtin.«zip.__next__» ⟨[.ref z], []⟩) Q E s := by
  obtain ⟨hz, hTI, ⟨a, b, hTO⟩, h1, h2⟩ := st
  rcases hz with hz | ⟨T, f, hz⟩
  · refine zip_next_end hh D hz hTI hTO h1 h2 hl1 hl2 out fun h' e k he => q h' e (fun c o nc e2 => ?_) he
    simp only [List.mem_cons, List.not_mem_nil, or_false, not_or] at nc
    exact k c o nc.1 nc.2.1 nc.2.2.1 nc.2.2.2 e2
  · rcases hT : s.heap.get? T with _ | oT
    · exact end_gone hh D hz hT hTI hTO h1 h2 hl1 hl2 out q
    · refine zip_next_end_held hh D hz hT hTI h1 h2 hl1 hl2 out fun h' e k he => q h' e (fun c o nc e2 => ?_) he
      simp only [List.mem_cons, List.not_mem_nil, or_false, not_or] at nc
      exact k c o nc.1 nc.2.2.1 nc.2.2.2 e2
theorem ZS.isZip (st : ZS s.heap z TI TO i1 i2 l1 l2 i) : s.TypeIs (.ref z) "zip" := by
  rcases st.zip with hz | ⟨T, f, hz⟩
  · exact ⟨_, hz, rfl⟩
  · exact ⟨_, hz, rfl⟩
theorem ZS.lt {h : Heap} (st : ZS h z TI TO i1 i2 l1 l2 i) : z < h.objs.size := by
  rcases st.zip with hz | ⟨T, f, hz⟩
  · exact Heap.lt_size hz
  · exact Heap.lt_size hz
theorem ZS.at {h h' : Heap} (st : ZS h z TI TO i1 i2 l1 l2 i) (k : ∀ c ∈ [z, TI, TO, i1, i2], ∀ o, h.get? c = some o → h'.get? c = some o) : ZS h' z TI TO i1 i2 l1 l2 i := by
  obtain ⟨hz, hTI, ⟨a, b, hTO⟩, h1, h2⟩ := st
  refine ⟨?_, k TI (by simp) _ hTI, ⟨a, b, k TO (by simp) _ hTO⟩, h1.at fun o e => k i1 (by simp) o e, h2.at fun o e => k i2 (by simp) o e⟩
  rcases hz with hz | ⟨T, f, hz⟩
  · exact .inl (k z (by simp) _ hz)
  · exact .inr ⟨T, f, k z (by simp) _ hz⟩
/-- next(zip) as enumerate asks for it -/
theorem draw {Q : Value → Shared → Prop} (D : ZipApart z TI TO i1 i2 l1 l2) (st : ZS s.heap z TI TO i1 i2 l1 l2 i) (hl1 : s.heap.IsList l1 xs) (hl2 : s.heap.IsList l2 ys) (hx : xs[i]? = some x) (hy : ys[i]? = some y)
    (q : ∀ h2, ZS h2 z TI TO i1 i2 l1 l2 (i + 1) → IsPair h2 s.heap.objs.size x y → h2.objs.size = s.heap.objs.size + 1 → (∀ c o, c ∉ [z, TO, i1, i2] → s.heap.get? c = some o → h2.get? c = some o) → Q (.ref s.heap.objs.size) { s with heap := h2 }) :
    wpAny (model P w) A (Builtin.SmallTypes.nextOf (.ref z)) Q E s := by
  unfold Builtin.SmallTypes.nextOf
  exact wpAny_bind (wpAny_callSpecial?_slot (name := Str.ofString "__next__") st.isZip F.slot_zip_next
    (wpAny_call_entry F.slot_zip_next st.isZip F.entry_zip_next (item_any D st hl1 hl2 hx hy fun h2 a1 a2 a3 a4 => wpAny_pure (q h2 a1 a2 a3 a4)) (F.args_zip_next_1 _)))
theorem drawEnd {Q : Value → Shared → Prop} (hh : A.in1.handled = none) (D : ZipApart z TI TO i1 i2 l1 l2) (st : ZS s.heap z TI TO i1 i2 l1 l2 i) (hl1 : s.heap.IsList l1 xs) (hl2 : s.heap.IsList l2 ys) (out : xs[i]? = none ∨ ys[i]? = none)
    (q : ∀ h2 e, (∀ c o, c ∉ [z, TO, i1, i2] → s.heap.get? c = some o → h2.get? c = some o) → (∃ o, h2.get? e = some o ∧ o.cls = .type "StopIteration") → E (.ref e) { s with heap := h2 }) :
    wpAny (model P w) A (Builtin.SmallTypes.nextOf (.ref z)) Q E s := by
  unfold Builtin.SmallTypes.nextOf
  exact wpAny_bind (wpAny_callSpecial?_slot (name := Str.ofString "__next__") st.isZip F.slot_zip_next
    (wpAny_call_entry F.slot_zip_next st.isZip F.entry_zip_next (end_any hh D st hl1 hl2 out q) (F.args_zip_next_1 _)))
/-- one turn of an enumerate whose source lays new objects -/
theorem enumStep {e it : Addr} {old : Value} {R : Value → Heap → Prop} {Q : Value → Shared → Prop}
    (he : IsEnum s.heap e it (i : Int) old) (dr : ∀ Q' : Value → Shared → Prop, (∀ x h1, R x h1 → IsEnum h1 e it (i : Int) old → Q' x { s with heap := h1 }) → wpAny (model P w) A (Builtin.SmallTypes.nextOf (.ref it)) Q' E s)
    (q : ∀ x h1 h2, R x h1 → IsEnumOut h2 e it ((i : Int) + 1) x h1.objs.size → h2.get? h1.objs.size = some { cls := .type "tuple", data := .seq #[.int i s.toks, x] } → h2.objs.size = h1.objs.size + 1 →
      (∀ b o, b ≠ e → h1.get? b = some o → h2.get? b = some o) → Q (.ref h1.objs.size) { s with heap := h2, toks := s.toks + 1 }) :
    wpAny (model P w) A (Builtin.«enumerate.__next__» ⟨[.ref e], []⟩) (fun fin s2 => ∃ v, fin = .done (.ret v) ∧ Q v s2) E s := by
  obtain ⟨hp, g, d, tk, os⟩ := s
  show wpAny _ _ (field (.ref e) 2 >>= _) _ _ _
  refine wpAny_bind (wpAny_field he rfl (x := .ref it) rfl (wpAny_bind (dr _ fun x h1 r e1 => ?_)))
  show wpAny _ _ (field (.ref e) 3 >>= _) _ _ ⟨h1, g, d, tk, os⟩
  refine wpAny_bind (wpAny_field e1 rfl (x := rawInt i) rfl ?_)
  show wpAny _ _ (field (.ref e) 4 >>= _) _ _ ⟨h1, g, d, tk, os⟩
  refine wpAny_bind (wpAny_field e1 rfl (x := .none) rfl ?_)
  show wpAny _ _ (mkInt i >>= _) _ _ ⟨h1, g, d, tk, os⟩
  refine wpAny_bind (wpAny_mkInt ?_)
  show wpAny _ _ (setField (.ref e) 3 (rawInt ((i : Int) + 1)) >>= _) _ _ ⟨h1, g, d, tk + 1, os⟩
  refine wpAny_bind (wpAny_setField_rec e1 (by simp) fun h2 e2 s2 => ?_)
  replace e2 : IsEnum h2 e it ((i : Int) + 1) old := e2
  replace s2 : Heap.SameBut e h1 h2 := s2
  show wpAny _ _ (setField (.ref e) 4 .none >>= _) _ _ ⟨h2, g, d, tk + 1, os⟩
  refine wpAny_bind (wpAny_setField_rec e2 (by simp) fun h3 e3 s3 => ?_)
  replace e3 : IsEnum h3 e it ((i : Int) + 1) old := e3
  replace s3 : Heap.SameBut e h2 h3 := s3
  show wpAny _ _ (newTuple [.int i tk, x] >>= _) _ _ ⟨h3, g, d, tk + 1, os⟩
  refine wpAny_bind (wpAny_newTuple ?_)
  have sz : h3.objs.size = h1.objs.size := by rw [s3.1, s2.1]
  have el : e < h1.objs.size := Heap.lt_size e1
  obtain ⟨h4, hd4⟩ : ∃ h4, h4 = h3.push { cls := .type "tuple", data := .seq #[.int i tk, x] } := ⟨_, rfl⟩
  have e4 : IsEnum h4 e it ((i : Int) + 1) old := by rw [hd4]; exact Heap.get?_push_of_some _ e3
  have t4 : h4.get? h1.objs.size = some { cls := .type "tuple", data := .seq #[.int i tk, x] } := by rw [hd4, ← sz]; exact Heap.get?_push_size _ rfl
  have z4 : h4.objs.size = h1.objs.size + 1 := by rw [hd4, Heap.size_push, sz]
  have k4 : ∀ b o, b ≠ e → h1.get? b = some o → h4.get? b = some o := fun b o n y => by
    rw [hd4]
    exact Heap.get?_push_of_some _ (s3.extBut b o n (s2.extBut b o n y))
  show wpAny _ _ (Builtin.SmallTypes.ownedTupleIsFree (.ref e) >>= _) _ _ ⟨h3.push { cls := .type "tuple", data := .seq #[.int i tk, x] }, g, d, tk + 1, os⟩
  rw [← hd4, sz]
  refine wpAny_bind ?_
  unfold Builtin.SmallTypes.ownedTupleIsFree
  refine wpAny_bind (wpAny_field e4 rfl (x := .none) rfl (wpAny_pure ?_))
  simp only [if_true]
  refine wpAny_bind (wpAny_rule (wpAny_bind (wpAny_field e4 rfl (x := old) rfl (wpAny_bind (wpAny_setField_rec e4 (by simp) fun h5 e5 s5 => ?_)))))
  replace e5 : IsEnum h5 e it ((i : Int) + 1) x := e5
  replace s5 : Heap.SameBut e h4 h5 := s5
  show wpAny _ _ (Builtin.SmallTypes.ownedTupleHandOut (.ref e) (.ref h1.objs.size) >>= _) _ _ ⟨h5, g, d, tk + 1, os⟩
  refine wpAny_bind ?_
  unfold Builtin.SmallTypes.ownedTupleHandOut
  refine wpAny_bind (wpAny_setField_rec e5 (by simp) fun h6 e6 s6 => ?_)
  replace e6 : IsEnumOut h6 e it ((i : Int) + 1) x h1.objs.size := e6
  replace s6 : Heap.SameBut e h5 h6 := s6
  refine wpAny_setField_rec e6 (by simp) fun h7 e7 s7 => ?_
  replace e7 : IsEnumOut h7 e it ((i : Int) + 1) x h1.objs.size := e7
  replace s7 : Heap.SameBut e h6 h7 := s7
  have up : ∀ b o, b ≠ e → h4.get? b = some o → h7.get? b = some o := fun b o n y => s7.extBut b o n (s6.extBut b o n (s5.extBut b o n y))
  refine wpAny_bind (wpAny_letGo (wpAny_pure ⟨_, rfl, q x h1 h7 r e7 (up _ _ (Nat.ne_of_gt el) t4) ?_ fun b o n y => up b o n (k4 b o n y)⟩))
  rw [s7.1, s6.1, s5.1, z4]
end
theorem new1 {u : Value} {z : Addr} {Z : Heap → Prop} (B : ∀ (P : Program) (w : World) (A : Around) (E Q : Value → Shared → Prop) (s : Shared), Z s.heap → Q (.ref z) s → wpAny (model P w) A (pyIter u) Q E s) : Meets (Builtin.«enumerate.__new__» ⟨[.type "enumerate", u], []⟩) (fun _ R s => Z s.heap ∧
      R (.ok (.ret (.ref s.heap.objs.size))) { s with heap := s.heap.push ⟨.type "enumerate", none, .fields #[.none, .bool false, .ref z, rawInt 0, .none, .none], #[]⟩ }) := by
  refine Meets.of_wp fun P w A R s hyp => ?_
  obtain ⟨h0, fin⟩ := hyp
  obtain ⟨hp, g, d, tk, os⟩ := s
  have se := sub_enumerate
  have go : ∀ {A2 : Around} {E2 Q2 : Value → Shared → Prop}, Q2 (.ref z) ⟨hp, g, d, tk, os⟩ → wpAny (model P w) A2 (pyIter u) Q2 E2 ⟨hp, g, d, tk, os⟩ := fun q => B P w _ _ _ ⟨hp, g, d, tk, os⟩ h0 q
  wp_walk using go
  refine wpAny_stack_any fun stk => (wpAny_pure ?_)
  split
  · rename_i cc _ _ _ _ _
    cases (cc == Value.type "enumerate") <;> (wp_walk using go; exact ⟨_, rfl, fin⟩)
  · wp_walk using go
    exact ⟨_, rfl, fin⟩
theorem made1 {P : Program} {w : World} {A : Around} {E Q : Value → Shared → Prop} {s : Shared} {u : Value} {z : Addr} {Z : Heap → Prop} (B : ∀ (P : Program) (w : World) (A : Around) (E Q : Value → Shared → Prop) (s : Shared), Z s.heap → Q (.ref z) s → wpAny (model P w) A (pyIter u) Q E s) (h0 : Z s.heap)
    (q : ∀ h2, IsEnum h2 s.heap.objs.size z 0 .none → (∀ b o, s.heap.get? b = some o → h2.get? b = some o) → Q (.ref s.heap.objs.size) { s with heap := h2 }) :
    wpAny (model P w) A (call (.type "enumerate") [u]) Q E s := by
  refine callType_new F.called_enumerate (by decide) (F.typeCall_enumerate_1 u) (F.newCall_enumerate_1 u) (fun ob => F.args_object_init_2 ob u) F.entry_enumerate_new (new1 B) ⟨h0, ?_⟩
  have at1 : (s.heap.push ⟨.type "enumerate", none, .fields #[.none, .bool false, .ref z, rawInt 0, .none, .none], #[]⟩).get? s.heap.objs.size = some ⟨.type "enumerate", none, .fields #[.none, .bool false, .ref z, rawInt 0, .none, .none], #[]⟩ := Heap.get?_push_size _ rfl
  exact ⟨⟨_, at1, rfl⟩, q _ at1 fun b o e => Heap.get?_push_of_some _ e⟩
end EnumZ
namespace L2
open PySem PySem.Spec PyProof.Rows
/-- the lists at a and b: at turn i a new pair of their items, in a new pair with i -/
def Iez (K : PySem.W.Frag) (a b : Addr) : It where
  go := fun i H => ∃ (xs ys : List V) (x y : V), SqL K H a xs ∧ SqL K H b ys ∧ xs[i]? = some x ∧ ys[i]? = some y
  yld := fun i H v H2 => ∃ T c x y, v = .ref c ∧ H T = none ∧ upd H T (.tup [x, y]) c = none ∧ H2 = upd (upd H T (.tup [x, y])) c (.tup [.int (i : Nat), .ref T]) ∧ (∀ xs, SqL K H a xs → xs[i]? = some x) ∧ ∀ ys, SqL K H b ys → ys[i]? = some y
  stop := fun i H => ∃ xs ys : List V, SqL K H a xs ∧ SqL K H b ys ∧ (xs.length ≤ i ∨ ys.length ≤ i)
theorem turn_ez {P : Program} {w : World} {K : PySem.W.Frag} {elts : List PySem.Expr} {kk : Nat} {tpos : Pos} {a b e z TI TO i1 i2 : Addr} (D : ZipApart z TI TO i1 i2 a b) (ne : e ∉ [z, TI, TO, i1, i2]) :
    Turn P w K (.Tuple elts kk tpos) (Iez K a b) [e, z, TI, TO, i1, i2] e (fun i h => (∃ old, IsEnum h e z ((i : Nat) : Int) old) ∧ EnumZ.ZS h z TI TO i1 i2 a b i) where
  mem := List.mem_cons_self
  obj := fun i h st c hc => by
    obtain ⟨⟨v0, en⟩, hz, hTI, ⟨x, y, hTO⟩, ⟨o1, e1, _, d1⟩, ⟨o2, e2, _, d2⟩⟩ := st
    have e' : c = e ∨ c = z ∨ c = TI ∨ c = TO ∨ c = i1 ∨ c = i2 := by simpa using hc
    rcases e' with q | q | q | q | q | q
    · rw [q]; exact ⟨_, en, fun v q => nomatch q⟩
    · rw [q]
      rcases hz with hz | ⟨T, f, hz⟩
      · exact ⟨_, hz, fun v q => nomatch q⟩
      · exact ⟨_, hz, fun v q => nomatch q⟩
    · rw [q]; exact ⟨_, hTI, fun v q => nomatch q⟩
    · rw [q]; exact ⟨_, hTO, fun v q => nomatch q⟩
    · rw [q]; exact ⟨o1, e1, fun v q => by rw [d1] at q; cases q⟩
    · rw [q]; exact ⟨o2, e2, fun v q => by rw [d2] at q; cases q⟩
  keep := fun i h h2 st k => by
    obtain ⟨⟨v0, en⟩, zs⟩ := st
    exact ⟨⟨v0, k e List.mem_cons_self _ en⟩, zs.at fun c hc o q => k c (List.mem_cons_of_mem _ hc) o q⟩
  item := by
    intro X hP hw hK hc i pins s σ H E I hf st hg
    subst hP hw hK
    obtain ⟨⟨v0, en⟩, zs⟩ := st
    obtain ⟨xs, ys, x, y, hqx, hqy, hx, hy⟩ := hg
    obtain ⟨its, rv, p, _⟩ := I.list hqx
    obtain ⟨its2, rv2, p2, _⟩ := I.list hqy
    obtain ⟨u, hu, ru⟩ := rv.get hx
    obtain ⟨u2, hu2, ru2⟩ := rv2.get hy
    have le : e < s.heap.objs.size := Heap.lt_size en
    have hT : s.TypeIs (.ref e) "enumerate" := ⟨_, en, rfl⟩
    unfold pyNext
    refine wpAny_bind (wpAny_attempt (wpAny_callSpecial?_slot (name := Str.ofString "__next__") hT F.slot_enumerate_next
      (wpAny_call_entry F.slot_enumerate_next hT F.entry_enumerate_next ?_ (F.args_enumerate_next_1 _))))
    refine EnumZ.enumStep (i := i) (R := fun v h1 => v = .ref s.heap.objs.size ∧ EnumZ.ZS h1 z TI TO i1 i2 a b (i + 1) ∧ IsPair h1 s.heap.objs.size u u2 ∧ h1.objs.size = s.heap.objs.size + 1 ∧ ∀ c o, c ∉ [z, TO, i1, i2] → s.heap.get? c = some o → h1.get? c = some o) en
      (fun Q' q => EnumZ.draw D zs p.isList p2.isList (x := u) (y := u2) (by simpa using hu) (by simpa using hu2) fun h2 a1 a2 a3 a4 => q _ h2 ⟨rfl, a1, a2, a3, a4⟩ (a4 e _ (fun m => ne (by
        simp only [List.mem_cons, List.not_mem_nil, or_false] at m ⊢
        rcases m with m | m | m | m
        · exact .inl m
        · exact .inr (.inr (.inl m))
        · exact .inr (.inr (.inr (.inl m)))
        · exact .inr (.inr (.inr (.inr m))))) en)) fun v h1 h2 r eo nt sz kp => ?_
    obtain ⟨rfl, zs1, pr, sz1, k1⟩ := r
    refine wpAny_pure ⟨_, rfl, wpAny_letOwnedTupleGo_enum (s := { s with heap := h2, toks := s.toks + 1 }) eo fun h3 en3 sb => ?_⟩
    have I1 : Inv X pins σ (upd H s.heap.objs.size (.tup [x, y])) { s with heap := h1 } :=
      I.turnedNew (t' := s.toks) (ch := [e, z, TI, TO, i1, i2]) (fun c o nc q => k1 c o (fun m => nc (by
        simp only [List.mem_cons, List.not_mem_nil, or_false] at m ⊢
        rcases m with m | m | m | m
        · exact .inr (.inl m)
        · exact .inr (.inr (.inr (.inl m)))
        · exact .inr (.inr (.inr (.inr (.inl m))))
        · exact .inr (.inr (.inr (.inr (.inr m)))))) q) hf (Nat.le_refl _) ⟨by show 2 ≤ sizeLine; decide, [u, u2], .cons ru (.cons ru2 .nil), ⟨_, pr, rfl, _, rfl⟩⟩
    have lc : ∀ c ∈ [e, z, TI, TO, i1, i2], c < s.heap.objs.size := fun c hc2 => by
      obtain ⟨hz, hTI, ⟨xx, yy, hTO⟩, ⟨o1, e1, _⟩, ⟨o2, e2, _⟩⟩ := id zs
      have e' : c = e ∨ c = z ∨ c = TI ∨ c = TO ∨ c = i1 ∨ c = i2 := by simpa using hc2
      rcases e' with q | q | q | q | q | q
      · rw [q]; exact le
      · rw [q]; exact zs.lt
      · rw [q]; exact Heap.lt_size hTI
      · rw [q]; exact Heap.lt_size hTO
      · rw [q]; exact Heap.lt_size e1
      · rw [q]; exact Heap.lt_size e2
    have el : e < h1.objs.size := by rw [sz1]; exact Nat.lt_succ_of_lt le
    have nt3 : h3.get? h1.objs.size = some { cls := .type "tuple", data := .seq #[.int i s.toks, .ref s.heap.objs.size] } := (sb.2 _ (Nat.ne_of_gt el)).trans nt
    have f1 : ∀ c ∈ [e], FpOk X pins (upd H s.heap.objs.size (.tup [x, y])) c := fun c hc2 => by
      have hc3 : c = e := by simpa using hc2
      subst hc3
      obtain ⟨g0, g⟩ := hf c List.mem_cons_self
      exact ⟨by rw [upd_ne (Nat.ne_of_lt le)]; exact g0, g⟩
    have up3 : ∀ c o, c ≠ e → h1.get? c = some o → h3.get? c = some o := fun c o nc q => (sb.2 c nc).trans (kp c o nc q)
    have I2 : Inv X pins σ (upd (upd H s.heap.objs.size (.tup [x, y])) h1.objs.size (.tup [.int (i : Nat), .ref s.heap.objs.size])) { s with heap := h3, toks := s.toks + 1 } :=
      I1.turnedNew (t' := s.toks + 1) (ch := [e]) (fun c o nc q => up3 c o (fun q' => nc (by simp [q'])) q) f1 (Nat.le_refl _) ⟨by show 2 ≤ sizeLine; decide, [.int i s.toks, .ref s.heap.objs.size], .cons ⟨_, rfl⟩ (.cons rfl .nil), ⟨_, nt3, rfl, _, rfl⟩⟩
    refine ⟨.ref h1.objs.size, _, I2, rfl, ⟨_, _, x, y, rfl, I.hok.fresh (Nat.le_refl _), I1.hok.fresh (Nat.le_refl _), rfl, fun l hl => by rw [I.list_inj hl hqx]; exact hx, fun l hl => by rw [I.list_inj hl hqy]; exact hy⟩, ⟨⟨.ref s.heap.objs.size, ?_⟩, ?_⟩, fun c hcm => ?_⟩
    · rw [show ((i + 1 : Nat) : Int) = (i : Int) + 1 from by omega]
      exact en3
    · exact zs1.at fun c hc2 o q => up3 c o (fun q' => ne (by rw [← q']; exact hc2)) q
    · have l := lc c hcm
      rw [upd_ne (Nat.ne_of_lt (by rw [sz1]; exact Nat.lt_succ_of_lt l)), upd_ne (Nat.ne_of_lt l)]
      exact (hf c hcm).1
  done := by
    intro X hP hw hK hc i pins s σ H E I hf st hg
    subst hP hw hK
    obtain ⟨⟨v0, en⟩, zs⟩ := st
    obtain ⟨xs, ys, hqx, hqy, hend⟩ := hg
    obtain ⟨its, rv, p, _⟩ := I.list hqx
    obtain ⟨its2, rv2, p2, _⟩ := I.list hqy
    have l1 := rv.length
    have l2 := rv2.length
    have he : its.toArray[i]? = none ∨ its2.toArray[i]? = none := by
      rcases hend with q | q
      · exact .inl (by simp; omega)
      · exact .inr (by simp; omega)
    have hT : s.TypeIs (.ref e) "enumerate" := ⟨_, en, rfl⟩
    unfold pyNext
    refine wpAny_bind (wpAny_attempt (wpAny_callSpecial?_slot (name := Str.ofString "__next__") hT F.slot_enumerate_next
      (wpAny_call_entry F.slot_enumerate_next hT F.entry_enumerate_next ?_ (F.args_enumerate_next_1 _))))
    show wpAny _ _ (field (.ref e) 2 >>= _) _ _ _
    refine wpAny_bind (wpAny_field en rfl (x := .ref z) rfl ?_)
    refine wpAny_bind (EnumZ.drawEnd (show X.A.in1.in1.handled = none from I.ok.hd hc) D zs p.isList p2.isList he fun h' ex k st => ?_)
    obtain ⟨o, ho, co⟩ := st
    refine wpAny_bind (wpAny_isInstance (T := "StopIteration") (b := true) ⟨o, ho, co⟩ isSubtype_stop ?_)
    exact wpAny_pure ⟨rfl, I.turnedL (t' := s.toks) (ch := [e, z, TI, TO, i1, i2]) (fun c o nc q => k c o (fun m => nc (by
        simp only [List.mem_cons, List.not_mem_nil, or_false] at m ⊢
        rcases m with m | m | m | m
        · exact .inr (.inl m)
        · exact .inr (.inr (.inr (.inl m)))
        · exact .inr (.inr (.inr (.inr (.inl m))))
        · exact .inr (.inr (.inr (.inr (.inr m)))))) q) hf⟩
  self := fun A i s Q E st h => let ⟨⟨_, en⟩, _⟩ := st; wpAny_pyIter_enum en h
def iEnumZ (K : PySem.W.Frag) (ta : TA) : TI := fun σ H R => ta σ H fun vs H1 => ∃ a b xs ys, vs = [.ref a, .ref b] ∧ SqL K H1 a xs ∧ SqL K H1 b ys ∧ R (Iez K a b) H1
theorem pi_enumZ {X : Cx} {e f : PySem.Expr} {ta : TA} {p pos p2 pos2 tpos : Pos} {elts : List PySem.Expr} {kk : Nat} (hg : Gl X "enumerate") (hm : X.mg "enumerate" = none) (hg2 : Gl X "zip") (hm2 : X.mg "zip" = none) (ha : PA X [e, f] ta)
    (hs : starEach [e, f] X.env = (false, eval e X.env) :: starEach [f] X.env := by rfl) (hpl : (backTo pos2 (starEach [f] X.env)).any (·.1) = false := by rfl) :
    PI X (.Tuple elts kk tpos) (.Call (.Name "enumerate" p) [.Call (.Name "zip" p2) [e, f] [] pos2] [] pos) (iEnumZ X.K ta) := by
  refine ⟨fun pins s σ H R I wish => ?_⟩
  refine Call_ (ld_blt I hg hm boot_enumerate (PyProof.Rows.callWith_type1 (Calls.spliced_cons ?_) rfl rfl))
  refine Call_ (ld_blt I hg2 hm2 PyProof.Rows.boot_zip (PyProof.Rows.callWith_type1 (thn (ha.run pos2 pins s σ H _ I wish) fun us s1 hh => ?_) hs hpl))
  obtain ⟨vs, H1, I1, r1, a, b, xs, ys, rfl, sa, sb, q⟩ := hh
  cases r1 with
  | cons r rr =>
    cases rr with
    | cons r' rr =>
      cases rr
      cases r
      cases r'
      obtain ⟨its, rv, p1, _⟩ := I1.list sa
      obtain ⟨its2, rv2, p2, _⟩ := I1.list sb
      refine call_zip_2 p1.isList p2.isList fun h2 hz hTI hTO h1 hi2 hsz hk => ?_
      refine Calls.spliced_nil ?_
      have I2 : Inv X pins σ H1 { s1 with heap := h2 } := I1.kept (t' := s1.toks) hk
      have zs : EnumZ.ZS h2 (s1.heap.objs.size + 4) (s1.heap.objs.size + 2) (s1.heap.objs.size + 3) s1.heap.objs.size (s1.heap.objs.size + 1) a b 0 := ⟨.inl hz, hTI, ⟨_, _, hTO⟩, h1, hi2⟩
      refine EnumZ.made1 (s := { s1 with heap := h2 }) (z := s1.heap.objs.size + 4) (Z := fun h => ∃ TI TO f0, IsZip h (s1.heap.objs.size + 4) TI TO f0) (fun P w A E Q s hz q => by obtain ⟨_, _, _, hz⟩ := hz; exact wpAny_pyIter_zip hz q) ⟨_, _, _, hz⟩ fun h3 en k3 => wpAny_pyIter_enum en ?_
      have I3 : Inv X pins σ H1 { s1 with heap := h3 } := I2.kept (t' := s1.toks) k3
      have e5 : h2.objs.size = s1.heap.objs.size + 5 := hsz
      refine ⟨h2.objs.size, [h2.objs.size, s1.heap.objs.size + 4, s1.heap.objs.size + 2, s1.heap.objs.size + 3, s1.heap.objs.size, s1.heap.objs.size + 1], _, _, H1, rfl, I3, turn_ez (PySem.W.ktu_apart s1.heap.objs.size a b p1.lt p2.lt) ?_, ⟨⟨.none, en⟩, zs.at fun c _ o g => k3 c o g⟩, fun c hcm => ?_, q⟩
      · rw [e5]
        simp
      · have hle : s1.heap.objs.size ≤ c := by
          have e' : c = h2.objs.size ∨ c = s1.heap.objs.size + 4 ∨ c = s1.heap.objs.size + 2 ∨ c = s1.heap.objs.size + 3 ∨ c = s1.heap.objs.size ∨ c = s1.heap.objs.size + 1 := by simpa using hcm
          rw [e5] at e'
          rcases e' with z | z | z | z | z | z <;> rw [z]
          · exact Nat.le_add_right _ _
          · exact Nat.le_add_right _ _
          · exact Nat.le_add_right _ _
          · exact Nat.le_add_right _ _
          · exact Nat.le_refl _
          · exact Nat.le_add_right _ _
        exact I1.fpOk hle (I1.hok.fresh hle)
/-- the pair (i, (x, y)) is new at turn i -/
def YEz (xs ys : Nat → Option V) : Nat → Hp → V → Hp → Prop := fun i H v H2 => ∃ T c x y, v = .ref c ∧ H T = none ∧ upd H T (.tup [x, y]) c = none ∧ H2 = upd (upd H T (.tup [x, y])) c (.tup [.int (i : Nat), .ref T]) ∧ xs i = some x ∧ ys i = some y
theorem walk_enumZ {K : PySem.W.Frag} {a b : Addr} {xs ys : List V} : Walk (Iez K a b) (min xs.length ys.length) (fun H => SqL K H a xs ∧ SqL K H b ys) (YEz (fun i => xs[i]?) (fun i => ys[i]?)) := by
  refine ⟨fun i _ lt q => ⟨xs, ys, xs[i]'(by omega), ys[i]'(by omega), q.1, q.2, by simp, by simp⟩, fun _ q => ⟨xs, ys, q.1, q.2, by omega⟩, fun i H v H2 _ q w => ?_⟩
  obtain ⟨T, c, x, y, e1, e2, e3, e4, e5, e6⟩ := w
  exact ⟨T, c, x, y, e1, e2, e3, e4, e5 xs q.1, e6 ys q.2⟩
end L2
namespace Rt
open PySem L2 PySem.Spec PyProof.Rows
section
variable {P : Program} {w : World} {K : PySem.W.Frag} {mg : Str → Option Value} {base : Heap}

/-! ### enumerate(tuple) -/
end
end Rt
namespace EnumX
open PySem PyProof.Rows
theorem new1 {u : Value} {ob : Obj} {Z : Heap → Prop} (B : Begins u ob Z) : Meets (Builtin.«enumerate.__new__» ⟨[.type "enumerate", u], []⟩) (fun _ R s => Z s.heap ∧
      R (.ok (.ret (.ref (s.heap.push ob).objs.size))) { s with heap := (s.heap.push ob).push ⟨.type "enumerate", none, .fields #[.none, .bool false, .ref s.heap.objs.size, rawInt 0, .none, .none], #[]⟩ }) := by
  refine Meets.of_wp fun P w A R s hyp => ?_
  obtain ⟨z, fin⟩ := hyp
  obtain ⟨hp, g, d, tk, os⟩ := s
  have se := sub_enumerate
  have go : ∀ {A2 : Around} {E2 Q2 : Value → Shared → Prop}, Q2 (.ref hp.objs.size) ⟨hp.push ob, g, d, tk, os⟩ → wpAny (model P w) A2 (pyIter u) Q2 E2 ⟨hp, g, d, tk, os⟩ := fun q => B.iter P w _ _ ⟨hp, g, d, tk, os⟩ _ z q
  wp_walk using go
  refine wpAny_stack_any fun stk => (wpAny_pure ?_)
  split
  · rename_i cc _ _ _ _ _
    cases (cc == Value.type "enumerate") <;> (wp_walk using go; exact ⟨_, rfl, fin⟩)
  · wp_walk using go
    exact ⟨_, rfl, fin⟩
theorem made1 {P : Program} {w : World} {A : Around} {E Q : Value → Shared → Prop} {s : Shared} {u : Value} {ob : Obj} {Z : Heap → Prop} (B : Begins u ob Z) (z : Z s.heap)
    (q : ∀ h2, IsEnum h2 (s.heap.objs.size + 1) s.heap.objs.size 0 .none → h2.get? s.heap.objs.size = some ob → (∀ b o, s.heap.get? b = some o → h2.get? b = some o) → Q (.ref (s.heap.objs.size + 1)) { s with heap := h2 }) :
    wpAny (model P w) A (call (.type "enumerate") [u]) Q E s := by
  refine callType_new F.called_enumerate (by decide) (F.typeCall_enumerate_1 u) (F.newCall_enumerate_1 u) (fun ob => F.args_object_init_2 ob u) F.entry_enumerate_new (new1 B) ⟨z, ?_⟩
  have sz : (s.heap.push ob).objs.size = s.heap.objs.size + 1 := Heap.size_push ..
  have at1 : ((s.heap.push ob).push ⟨.type "enumerate", none, .fields #[.none, .bool false, .ref s.heap.objs.size, rawInt 0, .none, .none], #[]⟩).get? (s.heap.objs.size + 1) = some ⟨.type "enumerate", none, .fields #[.none, .bool false, .ref s.heap.objs.size, rawInt 0, .none, .none], #[]⟩ := by
    rw [← sz]
    exact Heap.get?_push_size _ rfl
  show _ ∧ _
  rw [sz]
  exact ⟨⟨_, at1, rfl⟩, q _ at1 (Heap.get?_push_of_some _ (Heap.get?_push_size _ B.free)) fun b o e => Heap.get?_push_of_some _ (Heap.get?_push_of_some _ e)⟩
/-- at the end nothing is drawn -/
theorem drawn_out {P : Program} {w : World} {A : Around} (hh : A.handled = none) (it t : Addr) (ne : t ≠ it) (its : Array Value) (n : Nat) (hn : its.size ≤ n) : Draws P w A it [it, t] n (fun _ _ => True) (fun j h => j = n ∧ h.IsTupleIter it t n ∧ h.IsTuple t its) where
  live := fun _ _ ⟨_, ⟨o, e, _⟩, _⟩ => ⟨o, e⟩
  frame := fun _ _ _ ⟨z, a, b⟩ k => ⟨z, a.at fun o e => k it List.mem_cons_self o e, b.at fun o e => k t (List.mem_cons_of_mem _ List.mem_cons_self) o e⟩
  item := fun j _ _ _ lt ⟨z, _⟩ _ => absurd z (Nat.ne_of_lt lt)
  done := fun s Q E ⟨_, a, b⟩ q => wpAny_nextOf_tuple_end hh a b (Array.getElem?_eq_none hn) q
end EnumX
namespace L2
open PySem PySem.Spec PyProof.Rows
/-- the tuple at a, each item in a new pair with its place -/
def IteT (K : PySem.W.Frag) (a : Addr) : It where
  go := fun i H => ∃ (ys : List V) (y : V), SqT K H a ys ∧ ys[i]? = some y
  yld := fun i H v H2 => ∃ c y, v = .ref c ∧ H c = none ∧ H2 = upd H c (.tup [.int (i : Nat), y]) ∧ ∀ ys, SqT K H a ys → ys[i]? = some y
  stop := fun i H => ∃ ys : List V, SqT K H a ys ∧ ys.length ≤ i
theorem turn_enumT {P : Program} {w : World} {K : PySem.W.Frag} {elts : List PySem.Expr} {kk : Nat} {tpos : Pos} (a e it : Addr) :
    Turn P w K (.Tuple elts kk tpos) (IteT K a) [e, it] e (fun i h => (∃ old, IsEnum h e it ((i : Nat) : Int) old) ∧ h.IsTupleIter it a i ∧ e ≠ it) where
  mem := List.mem_cons_self
  obj := fun i h st b hb => by
    obtain ⟨⟨v0, en⟩, ⟨o, g1, g2, g3⟩, _⟩ := st
    rcases List.mem_cons.mp hb with z | hb2
    · rw [z]
      exact ⟨_, en, fun v q => nomatch q⟩
    · rw [List.mem_singleton.mp hb2]
      exact ⟨o, g1, fun v q => by rw [g3] at q; cases q⟩
  keep := fun i h h2 st k => by
    obtain ⟨⟨v0, en⟩, ti, ne⟩ := st
    exact ⟨⟨v0, k e List.mem_cons_self _ en⟩, ti.at fun o q => k it (List.mem_cons_of_mem _ List.mem_cons_self) o q, ne⟩
  item := by
    intro X hP hw hK hc i pins s σ H E I hf st hg
    subst hP hw hK
    obtain ⟨⟨v0, en⟩, ti, ne⟩ := st
    obtain ⟨ys, y, sq, hy⟩ := hg
    obtain ⟨its, vals, tp, ln⟩ := I.tuple sq
    obtain ⟨u, hu, ru⟩ := vals.get hy
    have tpl : s.heap.IsTuple a its.toArray := tp
    have le : e < s.heap.objs.size := Heap.lt_size en
    have li : it < s.heap.objs.size := by
      obtain ⟨_, q, _⟩ := ti
      exact Heap.lt_size q
    have nea : e ≠ a := fun z => by
      obtain ⟨o, g1, g2, _⟩ := tpl
      rw [← z, (show s.heap.get? e = some _ from en)] at g1
      rw [← Option.some.inj g1] at g2
      exact absurd (show Value.type "enumerate" = Value.type "tuple" from g2) (by decide)
    have nia : it ≠ a := fun z => by
      obtain ⟨o, g1, g2, _⟩ := tpl
      obtain ⟨o2, f1, f2, _⟩ := ti
      rw [← z, f1] at g1
      rw [← Option.some.inj g1, f2] at g2
      exact absurd g2 (by decide)
    refine wpAny_pyNext_enum_itemD (Draws.tuple (show X.A.in1.handled = none from I.ok.hd hc) it a (Ne.symm nia) its.toArray) en ⟨ti, tpl⟩ (by have := (List.getElem?_eq_some_iff.mp hu).1; simpa using this) ne (by simp [ne, nea]) fun x h2 tk px eo st2 nt sz kp => ?_
    have exu : x = u := by
      have px2 : its.toArray[i]? = some x := px
      rw [List.getElem?_toArray, hu] at px2
      exact (Option.some.inj px2).symm
    subst exu
    refine ⟨_, rfl, wpAny_letOwnedTupleGo_enum (s := { s with heap := h2, toks := tk + 1 }) eo fun h3 en3 sb => ?_⟩
    have nt3 : h3.get? s.heap.objs.size = some { cls := .type "tuple", data := .seq #[.int i tk, x] } := (sb.2 _ (Nat.ne_of_gt le)).trans nt
    have nw : ObjOk X.prog X.w (upd H s.heap.objs.size (.tup [.int (i : Nat), y])) h3 s.heap.objs.size (.tup [.int (i : Nat), y]) := ⟨by show 2 ≤ sizeLine; decide, [.int i tk, x], .cons ⟨_, rfl⟩ (.cons ru .nil), ⟨_, nt3, rfl, _, rfl⟩⟩
    have J : Inv X pins σ (upd H s.heap.objs.size (.tup [.int (i : Nat), y])) { s with heap := h3, toks := tk + 1 } :=
      I.turnedNew (ch := [e, it]) (fun b ob hb q => (sb.2 b (fun z => hb (z ▸ List.mem_cons_self))).trans (kp b ob (fun z => hb (z ▸ List.mem_cons_self)) (fun z => hb (z ▸ List.mem_cons_of_mem _ List.mem_cons_self)) q)) hf (Nat.le_refl _) nw
    refine ⟨.ref s.heap.objs.size, _, J, rfl, ⟨_, y, rfl, I.hok.fresh (Nat.le_refl _), rfl, fun zs hz => by rw [I.tuple_inj hz sq]; exact hy⟩, ⟨⟨x, ?_⟩, st2.1.at fun o q => (sb.2 it (Ne.symm ne)).trans q, ne⟩, fun b hb => ?_⟩
    · rw [show ((i + 1 : Nat) : Int) = (i : Int) + 1 from by omega]
      exact en3
    · have lb : b < s.heap.objs.size := by
        rcases List.mem_cons.mp hb with z | hb2
        · rw [z]
          exact le
        · rw [List.mem_singleton.mp hb2]
          exact li
      rw [upd_ne (Nat.ne_of_lt lb)]
      exact (hf b hb).1
  done := by
    intro X hP hw hK hc i pins s σ H E I hf st hg
    subst hP hw hK
    obtain ⟨⟨v0, en⟩, ti, ne⟩ := st
    obtain ⟨ys, sq, ln⟩ := hg
    obtain ⟨its, vals, tp, _⟩ := I.tuple sq
    obtain ⟨f0, f1, f2, f3, f4, f5⟩ := hf it (List.mem_cons_of_mem _ List.mem_cons_self)
    have tpl : s.heap.IsTuple a its.toArray := tp
    have nia : it ≠ a := fun z => by
      obtain ⟨o, g1, g2, _⟩ := tpl
      obtain ⟨o2, q1, q2, _⟩ := ti
      rw [← z, q1] at g1
      rw [← Option.some.inj g1, q2] at g2
      exact absurd g2 (by decide)
    have hl := vals.length
    refine wpAny_pyNext_enum_endD (EnumX.drawn_out (show X.A.in1.handled = none from I.ok.hd hc) it a (Ne.symm nia) its.toArray i (by simp; omega)) en ⟨rfl, ti, tpl⟩ fun h2 eb => ⟨rfl, I.turned (t' := s.toks) (fun b o hb q => eb b o hb q) f0 f1 f3 f4 f5⟩
  self := fun A i s Q E st h => let ⟨⟨_, en⟩, _⟩ := st; wpAny_pyIter_enum en h
def iEnumT (K : PySem.W.Frag) (ta : TA) : TI := fun σ H R => ta σ H fun vs H1 => ∃ a ys, vs = [.ref a] ∧ SqT K H1 a ys ∧ R (IteT K a) H1
theorem pi_enumT {X : Cx} {e : PySem.Expr} {ta : TA} {p pos tpos : Pos} {elts : List PySem.Expr} {kk : Nat} (hg : Gl X "enumerate") (hm : X.mg "enumerate" = none) (ha : PA X [e] ta) (hs : starEach [e] X.env = [(false, eval e X.env)] := by rfl) :
    PI X (.Tuple elts kk tpos) (.Call (.Name "enumerate" p) [e] [] pos) (iEnumT X.K ta) := by
  refine ⟨fun pins s σ H R I wish => ?_⟩
  refine Call_ (ld_blt I hg hm boot_enumerate (PyProof.Rows.callWith_type1 (thn (ha.run pos pins s σ H _ I wish) fun us s1 hh => ?_) hs rfl))
  obtain ⟨vs, H1, I1, r1, a, ys, rfl, sq, q⟩ := hh
  cases r1 with
  | cons r rr =>
    cases rr
    cases r
    obtain ⟨its, vals, tp, ln⟩ := I1.tuple sq
    have tpl : s1.heap.IsTuple a its.toArray := tp
    refine EnumX.made1 (begins_tuple a its.toArray) tpl fun h2 en nw kp => wpAny_pyIter_enum en ?_
    have J : Inv X pins σ H1 { s1 with heap := h2 } := I1.kept (t' := s1.toks) kp
    refine ⟨s1.heap.objs.size + 1, [s1.heap.objs.size + 1, s1.heap.objs.size], _, _, H1, rfl, J, turn_enumT a (s1.heap.objs.size + 1) s1.heap.objs.size, ⟨⟨.none, en⟩, ⟨_, nw, rfl, rfl⟩, Nat.succ_ne_self _⟩, fun b hb => ?_, q⟩
    have le : s1.heap.objs.size ≤ b := by
      rcases List.mem_cons.mp hb with z | hb2
      · rw [z]
        exact Nat.le_succ _
      · rw [List.mem_singleton.mp hb2]
        exact Nat.le_refl _
    exact I1.fpOk le (I1.hok.fresh le)
theorem walk_enumT {K : PySem.W.Frag} {a : Addr} {ys : List V} : Walk (IteT K a) ys.length (fun H => SqT K H a ys) (YPair (fun i => some (.int (i : Nat))) (fun i => ys[i]?)) := by
  refine ⟨fun i _ lt q => ⟨ys, ys[i], q, by simp [lt]⟩, fun _ q => ⟨ys, q, Nat.le_refl _⟩, fun i H v H2 _ q w => ?_⟩
  obtain ⟨c, y, e1, e2, e3, e4⟩ := w
  exact ⟨c, .int (i : Nat), y, e1, e2, e3, rfl, e4 ys q⟩
end L2
namespace Rt
open PySem L2 PySem.Spec PyProof.Rows
section
variable {P : Program} {w : World} {K : PySem.W.Frag} {mg : Str → Option Value} {base : Heap}

/-! ### what stands where a value points -/
theorem AnyV.at {T : Addr → Prop} {H H1 : Hp} {c : Addr} {o : HO} (a : AnyV T H (.ref c)) (S : Same H H1) (e : H1 c = some o) : H c = some o := by
  cases a with
  | lst e2 => rw [S _ _ e2] at e; rw [← e]; exact e2
  | tup e2 => rw [S _ _ e2] at e; rw [← e]; exact e2
  | dct e2 => rw [S _ _ e2] at e; rw [← e]; exact e2
  | ins t e2 => rw [S _ _ e2] at e; rw [← e]; exact e2
/-- the things of the tuple x -/
def tupOf (H : Hp) (x : V) : Option (List V) := match x with
  | .ref c => match H c with
    | some (.tup ys) => some ys
    | _ => none
  | _ => none
theorem tupOf_ref {H : Hp} {c : Addr} {ys : List V} (h : H c = some (.tup ys)) : tupOf H (.ref c) = some ys := by
  show (match H c with | some (.tup ys) => some ys | _ => none) = _
  rw [h]
theorem tupOf_some {H : Hp} {x : V} {ys : List V} (h : tupOf H x = some ys) : ∃ c, x = .ref c ∧ H c = some (.tup ys) := by
  cases x with
  | ref c =>
    refine ⟨c, rfl, ?_⟩
    have h2 : (match H c with | some (.tup ys) => some ys | _ => none) = some ys := h
    split at h2
    · rename_i zs e
      cases h2
      exact e
    · cases h2
  | _ => cases h
theorem tupOf_same {T : Addr → Prop} {H H2 : Hp} {x : V} (a : AnyV T H x) (S : Same H H2) : tupOf H2 x = tupOf H x := by
  cases e : tupOf H x with
  | some ys =>
    obtain ⟨c, rfl, h⟩ := tupOf_some e
    exact tupOf_ref (S _ _ h)
  | none =>
    cases e2 : tupOf H2 x with
    | none => rfl
    | some ys =>
      obtain ⟨c, rfl, h⟩ := tupOf_some e2
      rw [tupOf_ref (a.at S h)] at e
      cases e
/-- its things are any values -/
def ItemsAny (T : Addr → Prop) (H : Hp) (x : V) : Prop := ∀ ys, tupOf H x = some ys → ∀ y ∈ ys, AnyV T H y
theorem ItemsAny.same {T : Addr → Prop} {H H2 : Hp} {x : V} (h : ItemsAny T H x) (a : AnyV T H x) (S : Same H H2) : ItemsAny T H2 x := fun ys e y hy => by
  rw [tupOf_same a S] at e
  exact (h ys e y hy).mono S
theorem ItemsAny.ints {T : Addr → Prop} {H : Hp} {c : Addr} {ns : List Int} (h : H c = some (.tup (ns.map V.int))) : ItemsAny T H (.ref c) := fun ys e y hy => by
  rw [tupOf_ref h] at e
  cases e
  obtain ⟨z, _, rfl⟩ := List.mem_map.mp hy
  exact .int z
theorem ItemsAny.non {T : Addr → Prop} {H : Hp} {x : V} (h : tupOf H x = none) : ItemsAny T H x := fun ys e => by
  rw [h] at e
  cases e
/-- the place of the first thing that is no integer from a to b -/
def firstW (a b : Int) : List V → Option Nat
  | [] => none
  | y :: ys => if intIn y a b = true then (firstW a b ys).map (· + 1) else some 0
theorem firstW_none {a b : Int} : ∀ {ys : List V}, (∀ y ∈ ys, intIn y a b = true) → firstW a b ys = none
  | [], _ => rfl
  | y :: ys, h => by
    unfold firstW
    rw [if_pos (h y List.mem_cons_self), firstW_none fun z hz => h z (List.mem_cons_of_mem _ hz)]
    rfl
theorem firstW_all {a b : Int} : ∀ {ys : List V}, firstW a b ys = none → ∀ y ∈ ys, intIn y a b = true
  | [], _, _, hy => by cases hy
  | z :: ys, h, y, hy => by
    unfold firstW at h
    by_cases e : intIn z a b = true
    · rw [if_pos e] at h
      rcases List.mem_cons.mp hy with rfl | hy
      · exact e
      · exact firstW_all (Option.map_eq_none_iff.mp h) y hy
    · rw [if_neg e] at h
      cases h
theorem firstW_at {a b : Int} : ∀ {ys : List V} {i : Nat} {y : V}, (∀ (j : Nat) (z : V), j < i → ys[j]? = some z → intIn z a b = true) → ys[i]? = some y → intIn y a b = false → firstW a b ys = some i
  | [], i, y, _, h, _ => by cases h
  | z :: ys, 0, y, _, h, e => by
    cases h
    unfold firstW
    rw [if_neg (by rw [e]; exact Bool.false_ne_true)]
  | z :: ys, i + 1, y, h0, h, e => by
    unfold firstW
    rw [if_pos (h0 0 z (Nat.succ_pos _) rfl), firstW_at (i := i) (y := y) (fun j x hj hx => h0 (j + 1) x (Nat.succ_lt_succ hj) hx) h e]
    rfl
theorem firstW_lt {a b : Int} : ∀ {ys : List V} {i : Nat}, firstW a b ys = some i → i < ys.length
  | [], _, h => by cases h
  | y :: ys, i, h => by
    unfold firstW at h
    by_cases e : intIn y a b = true
    · rw [if_pos e] at h
      obtain ⟨j, hj, rfl⟩ := Option.map_eq_some_iff.mp h
      exact Nat.succ_lt_succ (firstW_lt hj)
    · rw [if_neg e] at h
      cases h
      exact Nat.succ_pos _
theorem firstW_some {a b : Int} : ∀ {ys : List V} {i : Nat}, firstW a b ys = some i → (∀ (j : Nat) (z : V), j < i → ys[j]? = some z → intIn z a b = true) ∧ ∃ y, ys[i]? = some y ∧ intIn y a b = false
  | [], _, h => by cases h
  | y :: ys, i, h => by
    unfold firstW at h
    by_cases e : intIn y a b = true
    · rw [if_pos e] at h
      obtain ⟨j, hj, rfl⟩ := Option.map_eq_some_iff.mp h
      obtain ⟨h1, z, h2, h3⟩ := firstW_some hj
      refine ⟨fun m v hm hv => ?_, z, h2, h3⟩
      cases m with
      | zero =>
        cases hv
        exact e
      | succ m => exact h1 m v (by omega) hv
    · rw [if_neg e] at h
      cases h
      exact ⟨fun m v hm => absurd hm (Nat.not_lt_zero _), y, rfl, by simpa using e⟩
/-- what is wrong of a tuple of lo to hi integers from a to b: nothing, None, or the first wrong place -/
def verdict (lo hi : Nat) (a b : Int) (o : Option (List V)) : Option V := match o with
  | none => some .non
  | some ys => if lo ≤ ys.length ∧ ys.length ≤ hi then (firstW a b ys).map fun i => .int (i : Nat) else some .non
theorem verdict_some (lo hi : Nat) (a b : Int) (ys : List V) : verdict lo hi a b (some ys) = if lo ≤ ys.length ∧ ys.length ≤ hi then (firstW a b ys).map fun i => .int (i : Nat) else some .non := rfl
theorem verdict_good {lo hi : Nat} {a b : Int} {ys : List V} (l1 : lo ≤ ys.length) (l2 : ys.length ≤ hi) (h : ∀ y ∈ ys, intIn y a b = true) : verdict lo hi a b (some ys) = none := by
  rw [verdict_some, if_pos ⟨l1, l2⟩, firstW_none h]
  rfl
theorem verdict_none {lo hi : Nat} {a b : Int} {o : Option (List V)} (h : verdict lo hi a b o = none) : ∃ ys, o = some ys ∧ lo ≤ ys.length ∧ ys.length ≤ hi ∧ ∀ y ∈ ys, intIn y a b = true := by
  cases o with
  | none => cases h
  | some ys =>
    rw [verdict_some] at h
    by_cases l : lo ≤ ys.length ∧ ys.length ≤ hi
    · rw [if_pos l] at h
      exact ⟨ys, rfl, l.1, l.2, firstW_all (Option.map_eq_none_iff.mp h)⟩
    · rw [if_neg l] at h
      cases h

/-! ### tuples of so many things; the first wrong one -/
def isTup (lo hi : Int) (o : Option (List V)) : Bool := match o with
  | none => false
  | some ys => decide (lo ≤ (ys.length : Int)) && decide ((ys.length : Int) ≤ hi)
theorem isi_tup (T : Tx P K mg) {H : Hp} {x : V} (a : AnyV (OwnT T) H x) : ∃ t, TyX K H x t ∧ ∃ b, PySem.W.kitOne K t (.type "tuple") = some b ∧ (b = false → tupOf H x = none) ∧ (b = true → ∃ c ys, x = .ref c ∧ H c = some (.tup ys)) := by
  have no : ∀ {c : Addr} {o : HO}, H c = some o → (∀ ys, o ≠ .tup ys) → tupOf H (.ref c) = none := fun {c o} e h => by
    cases q : tupOf H (.ref c) with
    | none => rfl
    | some ys =>
      obtain ⟨c', e1, e2⟩ := tupOf_some q
      cases e1
      rw [e] at e2
      exact absurd (Option.some.inj e2) (h ys)
  cases a with
  | non => exact ⟨_, .base .non, false, kit_ty (by decide +kernel), fun _ => rfl, fun z => nomatch z⟩
  | bl b => exact ⟨_, .base (.bl b), false, kit_ty (by decide +kernel), fun _ => rfl, fun z => nomatch z⟩
  | int i => exact ⟨.type "int", .base (.int i), false, kit_ty (by decide +kernel), fun _ => rfl, fun z => nomatch z⟩
  | str x => exact ⟨_, .base (.str x), false, kit_ty (by decide +kernel), fun _ => rfl, fun z => nomatch z⟩
  | lst e => exact ⟨_, .base (.lst e), false, kit_ty (by decide +kernel), fun _ => no e (fun _ z => nomatch z), fun z => nomatch z⟩
  | tup e => exact ⟨_, .base (.tup e), true, kit_ty (by decide +kernel), fun z => (nomatch z), fun _ => ⟨_, _, rfl, e⟩⟩
  | dct e => exact ⟨_, .base (.dK e), false, kit_ty (by decide +kernel), fun _ => no e (fun _ z => nomatch z), fun z => nomatch z⟩
  | ins t e => exact ⟨_, .base (t.ty e), false, t.ntuple, fun _ => no e (fun _ z => nomatch z), fun z => nomatch z⟩

def spIsTup (T : Tx P K mg) : Sp := fun vs H Q _ => ∃ (x : V) (lo hi : Int), vs = [x, .int lo, .int hi] ∧ AnyV (OwnT T) H x ∧ Q (.bl (isTup lo hi (tupOf H x))) H
theorem ok_is_tuple (T : Tx P K mg) : FnOk P w K mg base CX0 lv_is_tuple T.a_is_tuple T.d_is_tuple ["told", "fewest", "most"] (spIsTup T) := by
  refine T.F_is_tuple.ok sc_is_tuple (fun vs H Q E h => ?_) (fun cdv A outer s H vs Q E hr h => ?_)
  · obtain ⟨x, lo, hi, rfl, _⟩ := h
    rfl
  · obtain ⟨x, lo, hi, rfl, a, k⟩ := h
    refine ⟨_, (pss_one (ps_ret (pe_and (pe_callB call_isi (by rfl) T.n_isinstance (by decide +kernel) (pa_cons (pv 0) (pa_cons (pe_bltn (v := .ty "tuple") rfl T.n_tuple (by decide +kernel) rfl) pa_nil))) (pe_one (pe_chain op_le op_le (pv 1) (pe_callB call_len_seq (by rfl) T.n_len (by decide +kernel) (pa_cons (pv 0) pa_nil)) (pv 2)))))), ?_⟩
    obtain ⟨t, ty, q, e1, h1, h2⟩ := isi_tup T a
    refine ⟨_, rfl, _, _, _, _, q, rfl, .ty _, ty, e1, q, rfl, ?_⟩
    cases q with
    | false =>
      rw [h1 rfl] at k
      exact iteF k
    | true =>
      obtain ⟨c, ys, rfl, e⟩ := h2 rfl
      rw [tupOf_ref e] at k
      have k : Q (V.bl (decide (lo ≤ (ys.length : Int)) && decide ((ys.length : Int) ≤ hi))) H := k
      refine iteT ⟨_, rfl, _, rfl, c, ys, rfl, .inr (SqT.of e), _, _, rfl, rfl, _, rfl, ?_⟩
      refine ite2 (fun g1 => ?_) (fun g1 => ?_)
      · rw [g1] at k
        exact ⟨_, rfl, _, _, rfl, rfl, k⟩
      · rw [show decide (lo ≤ (ys.length : Int)) = false from by simpa using g1] at k
        exact k
def optN (o : Option Nat) : V := match o with
  | none => .non
  | some i => .int (i : Nat)
def spFirstW (T : Tx P K mg) : Sp := fun vs H Q _ => ∃ (c : Addr) (ys : List V) (a b : Int), vs = [.ref c, .int a, .int b] ∧ H c = some (.tup ys) ∧ ys.length ≤ 1000 ∧ (∀ y ∈ ys, AnyV (OwnT T) H y) ∧ ∀ H2, Same H H2 → Q (optN (firstW a b ys)) H2
theorem ok_first_wrong (T : Tx P K mg) : FnOk P w K mg base CX0 lv_first_wrong T.a_first_wrong T.d_first_wrong ["told", "low", "high"] (spFirstW T) := by
  refine T.F_first_wrong.ok sc_first_wrong (fun vs H Q E h => ?_) (fun cdv A outer s H vs Q E hr h => ?_)
  · obtain ⟨c, ys, a, b, rfl, _⟩ := h
    rfl
  · obtain ⟨c, ys, a, b, rfl, e, hl, hy, k⟩ := h
    refine ⟨_, (pss_cons (ps_for PassesOwn.never rfl (pi_enumT (by rfl) T.n_enumerate (pa_cons (pv 0) pa_nil)) (pg_tup rfl (pgs_cons (pg_name (i := 3) sc_first_wrong.nd rfl (Or.inl rfl)) (pgs_cons (pg_name (i := 4) sc_first_wrong.nd rfl (Or.inl rfl)) pgs_nil))) (pss_one (ps_if (pt_not (pt_val (pe_call (ok_is_integer T) (hr.mono (by decide)) rfl T.g_is_integer T.F_is_integer.kp T.b_is_integer .nil pass0 (pa_cons (pv 4) (pa_cons (pv 1) (pa_cons (pv 2) pa_nil)))))) (pss_one (ps_ret (pv 3))) pss_nil)))
      (pss_one (ps_ret pe_non))), ?_⟩
    refine ⟨_, rfl, c, ys, rfl, SqT.of e, ?_⟩
    refine for_it (walk_enumT (a := c) (ys := ys)) (fun i σ H2 => ∃ v3 v4 : Option V, Same H H2 ∧ (∀ (j : Nat) (z : V), j < i → ys[j]? = some z → intIn z a b = true) ∧ σ = [some (.ref c), some (.int a), some (.int b), v3, v4]) ⟨none, none, fun _ _ e => e, fun j z lt _ => absurd lt (Nat.not_lt_zero _), rfl⟩ (fun i σ H2 _ ⟨_, _, S, _, _⟩ => SqT.of (S _ _ e)) ?_ ?_
    · rintro i x' σ H2 H3 hi ⟨v3, v4, S, hf, rfl⟩ ⟨p, x2, y, rfl, np, rfl, e2, hy'⟩
      cases e2
      have hy' : ys[i]? = some y := hy'
      refine ⟨p, _, rfl, SqT.of upd_same, rfl, _, _, rfl, _, _, rfl, rfl, ?_⟩
      have S3 := S.trans (same_upd (o := .tup [.int (i : Nat), y]) np)
      have ay : AnyV (OwnT T) (upd H2 p (.tup [.int (i : Nat), y])) y := (hy y (List.mem_of_getElem? hy')).mono S3
      refine ⟨_, rfl, _, rfl, _, rfl, y, a, b, rfl, ay, _, rfl, ?_⟩
      cases g : intIn y a b with
      | true =>
        refine iteF ⟨_, _, S3, fun j z lt hz => ?_, rfl⟩
        rcases Nat.lt_or_ge j i with q | q
        · exact hf j z q hz
        · rw [show j = i by omega, hy'] at hz
          cases hz
          exact g
      | false =>
        have k2 := k _ S3
        rw [firstW_at hf hy' g] at k2
        exact iteT ⟨_, rfl, k2⟩
    · rintro σ H2 ⟨v3, v4, S, hf, rfl⟩
      have k2 := k _ S
      rw [firstW_none fun y hy => by
        obtain ⟨j, hj⟩ := List.mem_iff_getElem?.mp hy
        exact hf j y (List.getElem?_eq_some_iff.mp hj).1 hj] at k2
      exact k2

/-! ### labels of rests -/
abbrev lVerd (H : Hp) (x : V) : Option V := verdict 1 20 0 19 (tupOf H x)
def spLabels (T : Tx P K mg) : Sp := fun vs H Q E => ∃ x : V, vs = [x] ∧ AnyV (OwnT T) H x ∧ ItemsAny (OwnT T) H x ∧ (lVerd H x = none → ∀ H2, Same H H2 → Q .non H2) ∧
  ∀ v, lVerd H x = some v → ∀ H2 d, Same H H2 → H2 d = none → E (.ref T.C_BadRests) (some d) (upd H2 d (.xd [(("index" : Str), v)]))
theorem ok_check_labels (T : Tx P K mg) : FnOk P w K mg base (L2.CX P w) lv_check_labels T.a_check_labels T.d_check_labels ["labels"] (spLabels T) := by
  refine T.F_check_labels.okX sc_check_labels (fun vs H Q E h => ?_) (fun cdv A outer s H vs Q E hr h => ?_)
  · obtain ⟨x, rfl, _⟩ := h
    rfl
  · obtain ⟨x, rfl, a, ia, k1, k2⟩ := h
    refine ⟨_, (pss_cons (ps_if (pt_not (pt_val (pe_call (ok_is_tuple T) (hr.mono (by decide)) rfl T.g_is_tuple T.F_is_tuple.kp T.b_is_tuple .nil pass0 (pa_cons (pv 0) (pa_cons pe_int (pa_cons (pe_glob (v := .int 20) rfl T.c_MOST_LABELS ⟨_, rfl⟩) pa_nil)))))) (pss_one (ps_raiseF T.x_BadRests ar_BadRests rfl hr (takes_of rfl rfl rfl rfl) (pa_cons pe_non pa_nil))) pss_nil)
      (pss_cons (ps_set (i := 1) sc_check_labels.nd rfl (Or.inl rfl) (pe_call (ok_first_wrong T) (hr.mono (by decide)) rfl T.g_first_wrong T.F_first_wrong.kp T.b_first_wrong .nil pass0 (pa_cons (pv 0) (pa_cons pe_int (pa_cons (pe_glob (v := .int 19) rfl T.c_GREATEST_LABEL ⟨_, rfl⟩) pa_nil)))))
      (pss_one (ps_if (pt_cmpR op_notN (pv 1) pe_non (nomark _)) (pss_one (ps_raiseF T.x_BadRests ar_BadRests rfl hr (takes_of rfl rfl rfl rfl) (pa_cons (pv 1) pa_nil))) pss_nil)))), ?_⟩
    refine ⟨_, rfl, x, 1, 20, rfl, a, _, rfl, ?_⟩
    cases e : tupOf H x with
    | none =>
      have ev : lVerd H x = some .non := by unfold lVerd; rw [e]; rfl
      exact iteT ⟨_, rfl, .inl rfl, fun d hd => k2 _ ev H d (Same.refl H) hd⟩
    | some ys =>
      obtain ⟨c, rfl, hc⟩ := tupOf_some e
      show if (!(decide ((1 : Int) ≤ (ys.length : Int)) && decide ((ys.length : Int) ≤ 20))) = true then _ else _
      by_cases l : 1 ≤ ys.length ∧ ys.length ≤ 20
      · rw [show (decide ((1 : Int) ≤ (ys.length : Int)) && decide ((ys.length : Int) ≤ 20)) = true from by rw [Bool.and_eq_true, decide_eq_true_eq, decide_eq_true_eq]; omega]
        have ev : lVerd H (.ref c) = (firstW 0 19 ys).map fun i => .int (i : Nat) := by
          unfold lVerd
          rw [e, verdict_some]
          exact if_pos l
        rw [ev] at k1 k2
        refine iteF ⟨_, rfl, c, ys, 0, 19, rfl, hc, by omega, fun y hy => ia ys e y hy, fun H2 S2 => ?_⟩
        cases ef : firstW 0 19 ys with
        | none =>
          rw [ef] at k1
          refine ⟨_, rfl, rfl, _, rfl, ?_⟩
          rw [show decide (optN none = V.non) = true from decide_eq_true rfl]
          exact iteF (k1 rfl H2 S2)
        | some i =>
          have li : i < ys.length := firstW_lt ef
          rw [ef] at k2
          refine ⟨_, rfl, rfl, _, rfl, ?_⟩
          rw [show decide (optN (some i) = V.non) = false from decide_eq_false (fun z => nomatch z)]
          have sm : ((i : Int)).natAbs.log2 < 1920 := Nat.lt_of_le_of_lt (Nat.log2_le_self _) (by omega)
          exact iteT ⟨_, rfl, _, rfl, .inr ⟨_, rfl, sm⟩, fun d hd => k2 _ rfl H2 d S2 hd⟩
      · have ev : lVerd H (.ref c) = some .non := by
          unfold lVerd
          rw [e, verdict_some]
          exact if_neg l
        rw [show (decide ((1 : Int) ≤ (ys.length : Int)) && decide ((ys.length : Int) ≤ 20)) = false from by rw [Bool.and_eq_false_iff, decide_eq_false_iff_not, decide_eq_false_iff_not]; omega]
        exact iteT ⟨_, rfl, .inl rfl, fun d hd => k2 _ ev H d (Same.refl H) hd⟩
/-! ### a rest -/
/-! ### machines -/
/-- the machine at q: its labels, where each state goes by each figure -/
def MachAt (H : Hp) (q : Addr) (told : List Int) (steps : List (List Int)) : Prop := ∃ (x y : Addr) (rs : List Addr), H q = some (.tup [.ref x, .ref y]) ∧ H x = some (.lst (told.map V.int)) ∧ H y = some (.lst (rs.map V.ref)) ∧ rs.length = steps.length ∧
  ∀ (i : Nat) (r : Addr) (s : List Int), rs[i]? = some r → steps[i]? = some s → H r = some (.lst (s.map V.int))
/-- what is captured is still captured when a block's names are told anew -/
theorem rel_cf {env : Env} : ∀ {names : List (PySem.Str × NameKind)} {x : PySem.Str}, (names.lookup x = some .cell ∨ names.lookup x = some .free) →
    ((names.map fun (n, k) => if (k == NameKind.free && env.scope.kind == .function && env.kindOf n == some .cell) then (n, NameKind.cell) else (n, k)).lookup x = some .cell ∨
     (names.map fun (n, k) => if (k == NameKind.free && env.scope.kind == .function && env.kindOf n == some .cell) then (n, NameKind.cell) else (n, k)).lookup x = some .free)
  | [], x, h => by rcases h with h | h <;> cases h
  | (m, k) :: r, x, h => by
    rw [List.map_cons]
    cases hx : x == m with
    | true =>
      have hk : k = .cell ∨ k = .free := by
        simp only [List.lookup_cons, hx] at h
        rcases h with h | h
        · exact .inl (Option.some.inj h)
        · exact .inr (Option.some.inj h)
      by_cases g : (k == NameKind.free && env.scope.kind == .function && env.kindOf m == some .cell) = true
      · simp only [if_pos g, List.lookup_cons, hx]
        exact .inl trivial
      · simp only [if_neg g, List.lookup_cons, hx]
        rcases hk with e | e
        · exact .inl (by rw [e])
        · exact .inr (by rw [e])
    | false =>
      simp only [List.lookup_cons, hx] at h
      have ih := rel_cf (env := env) (x := x) h
      by_cases g : (k == NameKind.free && env.scope.kind == .function && env.kindOf m == some .cell) = true
      · simp only [if_pos g, List.lookup_cons, hx]
        exact ih
      · simp only [if_neg g, List.lookup_cons, hx]
        exact ih
/-- a comprehension within a comprehension -/
theorem blkIn {N : List PySem.Str} {X : Cx} {s : Shared} {H : Hp} {scope inner : Scope} {cl : List (PySem.Str × Addr)} {C : Addr} {fp : List Addr} {own : List (PySem.Str × Nat)} (h : blkC N scope inner own = true) : BlkOk N (X.blk s H scope (compEnvC scope cl C X.env) fp).env.scope inner own :=
  let b := blkOk_by h
  ⟨b.kind, b.uniq, b.ix, fun y hy e => rel_cf (b.free y hy e), b.own⟩
def frontRow (b : Int) (d r : Nat) : List Int := (List.range b.toNat).map fun (f : Nat) => ((r : Int) * b + (f : Int)) % (d : Int)
def frontS (b : Int) (d : Nat) : List (List Int) := (List.range d).map (frontRow b d)
def spFront (K : PySem.W.Frag) : Sp := fun vs H Q _ => ∃ (b : Int) (c : Addr) (ls : List Int), vs = [.int b, .ref c] ∧ H c = some (.tup (ls.map V.int)) ∧ 2 ≤ b ∧ b ≤ 16 ∧ 1 ≤ ls.length ∧ ls.length ≤ 20 ∧
  ∀ q H', Same H H' → MachAt H' q ls (frontS b ls.length) → Q (.ref q) H'
/-! ### what is reached from behind -/
def addR (R : List Pr) (x : Pr) : List Pr := if x ∈ R then R else R ++ [x]
def nextR (b d : Int) (p : Pr) (f : Nat) : Pr := ((p.1 + (f : Int) * p.2) % d, p.2 * b % d)
/-- so many figures read from the state p: what is reached, where they go -/
def rowR (b d : Int) (p : Pr) : Nat → List Pr → List Pr × List Int
  | 0, R => (R, [])
  | n + 1, R => (addR (rowR b d p n R).1 (nextR b d p n), (rowR b d p n R).2 ++ [((addR (rowR b d p n R).1 (nextR b d p n)).idxOf (nextR b d p n) : Int)])
inductive BRun (b d : Int) : List Pr → List (List Int) → Prop where
  | start : BRun b d [(0, 1 % d)] []
  | step {R : List Pr} {S : List (List Int)} {p : Pr} : BRun b d R S → R[S.length]? = some p → BRun b d (rowR b d p b.toNat R).1 (S ++ [(rowR b d p b.toNat R).2])
/-- rests below d, none twice -/
structure RestsR (d : Int) (R : List Pr) : Prop where
  dom : ∀ q ∈ R, 0 ≤ q.1 ∧ q.1 < d ∧ 0 ≤ q.2 ∧ q.2 < d
  nodup : R.Nodup
theorem mem_addR {R : List Pr} {x : Pr} : x ∈ addR R x := by
  unfold addR
  by_cases h : x ∈ R
  · rw [if_pos h]; exact h
  · rw [if_neg h]; exact List.mem_append_right _ List.mem_cons_self
theorem addR_pre {R : List Pr} {x : Pr} : ∃ more, addR R x = R ++ more := by
  unfold addR
  by_cases h : x ∈ R
  · exact ⟨[], by rw [if_pos h, List.append_nil]⟩
  · exact ⟨[x], by rw [if_neg h]⟩
theorem RestsR.add {d : Int} {R : List Pr} (h : RestsR d R) (d1 : 1 ≤ d) (b : Int) (p : Pr) (f : Nat) : RestsR d (addR R (nextR b d p f)) := by
  unfold addR
  by_cases m : nextR b d p f ∈ R
  · rw [if_pos m]; exact h
  · rw [if_neg m]
    refine ⟨fun q hq => ?_, List.nodup_append.mpr ⟨h.nodup, List.nodup_cons.mpr ⟨List.not_mem_nil, List.nodup_nil⟩, fun x hx y hy => ?_⟩⟩
    · rcases List.mem_append.mp hq with e | e
      · exact h.dom q e
      · rw [List.mem_singleton.mp e]
        exact ⟨Int.emod_nonneg _ (by omega), Int.emod_lt_of_pos _ (by omega), Int.emod_nonneg _ (by omega), Int.emod_lt_of_pos _ (by omega)⟩
    · rw [List.mem_singleton.mp hy]
      exact fun z => m (z ▸ hx)
theorem RestsR.row {d : Int} {R : List Pr} (h : RestsR d R) (d1 : 1 ≤ d) (b : Int) (p : Pr) : ∀ n, RestsR d (rowR b d p n R).1
  | 0 => h
  | n + 1 => (h.row d1 b p n).add d1 b p n
theorem rowR_pre {b d : Int} {p : Pr} {R : List Pr} : ∀ n, ∃ more, (rowR b d p n R).1 = R ++ more
  | 0 => ⟨[], (List.append_nil _).symm⟩
  | n + 1 => by
    obtain ⟨m1, e1⟩ := rowR_pre (b := b) (d := d) (p := p) (R := R) n
    obtain ⟨m2, e2⟩ := addR_pre (R := (rowR b d p n R).1) (x := nextR b d p n)
    exact ⟨m1 ++ m2, by rw [← List.append_assoc, ← e1, ← e2]; rfl⟩
theorem rowR_len {b d : Int} {p : Pr} {R : List Pr} : ∀ n, (rowR b d p n R).2.length = n
  | 0 => rfl
  | n + 1 => by
    show ((rowR b d p n R).2 ++ [_]).length = n + 1
    rw [List.length_append, rowR_len n]
    rfl
theorem BRun.rests {b d : Int} (d1 : 1 ≤ d) {R : List Pr} {S : List (List Int)} (h : BRun b d R S) : RestsR d R := by
  induction h with
  | start => exact ⟨fun q hq => by rw [List.mem_singleton.mp hq]; exact ⟨Int.le_refl 0, by show (0 : Int) < d; omega, Int.emod_nonneg _ (by omega), Int.emod_lt_of_pos _ (by omega)⟩, List.nodup_cons.mpr ⟨List.not_mem_nil, List.nodup_nil⟩⟩
  | step _ _ ih => exact ih.row d1 b _ _
theorem BRun.le {b d : Int} {R : List Pr} {S : List (List Int)} (h : BRun b d R S) : S.length ≤ R.length ∧ 1 ≤ R.length := by
  induction h with
  | start => exact ⟨Nat.zero_le _, Nat.le_refl 1⟩
  | @step R S p _ hp ih =>
    obtain ⟨m, e⟩ := rowR_pre (b := b) (d := d) (p := p) (R := R) b.toNat
    have l := (List.getElem?_eq_some_iff.mp hp).1
    rw [e, List.length_append, List.length_append, List.length_singleton]
    omega
def box20 : List Pr := (List.range 20).flatMap fun (x : Nat) => (List.range 20).map fun (y : Nat) => (((x : Nat) : Int), ((y : Nat) : Int))
theorem box20_len : box20.length = 400 := by decide +kernel
theorem RestsR.le {d : Int} {R : List Pr} (h : RestsR d R) (d2 : d ≤ 20) : R.length ≤ 400 := by
  rw [← box20_len]
  refine pigL box20 R h.nodup fun q hq => ?_
  obtain ⟨h1, h2, h3, h4⟩ := h.dom q hq
  unfold box20
  refine List.mem_flatMap.mpr ⟨q.1.toNat, List.mem_range.mpr (by omega), List.mem_map.mpr ⟨q.2.toNat, List.mem_range.mpr (by omega), ?_⟩⟩
  rw [Int.toNat_of_nonneg h1, Int.toNat_of_nonneg h3]
/-! the dict of their numbers -/
structure NumR (kvs : List (List Key × V)) (R : List Pr) : Prop where
  len : kvs.length = R.length
  at_ : ∀ q, valV kvs (kp q) = if q ∈ R then some (.int (R.idxOf q : Nat)) else none
theorem NumR.put {kvs : List (List Key × V)} {R : List Pr} (h : NumR kvs R) {x : Pr} (hx : ¬ x ∈ R) : NumR (putK kvs (kp x) (.int (R.length : Nat))) (R ++ [x]) := by
  have hn : valV kvs (kp x) = none := by rw [h.at_, if_neg hx]
  refine ⟨by rw [putK_new _ hn, List.length_append, List.length_append, h.len]; rfl, fun q => ?_⟩
  rw [valV_put]
  by_cases e : q = x
  · subst e
    rw [if_pos rfl, if_pos (List.mem_append_right _ List.mem_cons_self), List.idxOf_append, if_neg hx]
    simp
  · rw [if_neg (fun z => e (kp_inj z)), h.at_]
    by_cases m : q ∈ R
    · rw [if_pos m, if_pos (List.mem_append_left _ m), List.idxOf_append, if_pos m]
    · rw [if_neg m, if_neg fun z => by
        rcases List.mem_append.mp z with y | y
        · exact m y
        · exact e (List.mem_singleton.mp y)]

/-! ### the machine that reads from behind -/
def backTold (ls : List Int) (R : List Pr) : List Int := R.map fun p => ls.getD p.1.toNat 0
def spBack (K : PySem.W.Frag) : Sp := fun vs H Q _ => ∃ (b : Int) (c : Addr) (ls : List Int), vs = [.int b, .ref c] ∧ H c = some (.tup (ls.map V.int)) ∧ 2 ≤ b ∧ b ≤ 16 ∧ 1 ≤ ls.length ∧ ls.length ≤ 20 ∧
  ∀ q H' R S, BRun b ls.length R S → S.length = R.length → Same H H' → MachAt H' q (backTold ls R) S → Q (.ref q) H'
/-- the loop's heap: what is reached at a, the numbers at e, the steps at y, the row in work at z -/
structure BackAt (H0 H : Hp) (a e y z : Addr) (R : List Pr) (S : List (List Int)) : Prop where
  same : Same H0 H
  ay : a ≠ y
  za : z ≠ a
  new : H0 a = none ∧ H0 e = none ∧ H0 y = none ∧ H0 z = none
  at_ : ∃ ts : List Addr, H a = some (.lst (ts.map V.ref)) ∧ ts.length = R.length ∧ ∀ (i : Nat) (t : Addr) (p : Pr), ts[i]? = some t → R[i]? = some p → H t = some (.tup [.int p.1, .int p.2])
  num : ∃ kvs, H e = some (.dT kvs) ∧ NumR kvs R
  stp : ∃ rs : List Addr, H y = some (.lst (rs.map V.ref)) ∧ rs.length = S.length ∧ ∀ (i : Nat) (r : Addr) (s : List Int), rs[i]? = some r → S[i]? = some s → r ≠ a ∧ r ≠ y ∧ r ≠ z ∧ H r = some (.lst (s.map V.int))
variable {H0 H H' : Hp} {a e y z : Addr} {R : List Pr} {S : List (List Int)}
theorem BackAt.ext (h : BackAt H0 H a e y z R S) (s : Same H H') : BackAt H0 H' a e y z R S := by
  obtain ⟨h1, h2, h3, h4, ⟨ts, t1, t2, t3⟩, ⟨kvs, k1, k2⟩, ⟨rs, r1, r2, r3⟩⟩ := h
  exact ⟨h1.trans s, h2, h3, h4, ⟨ts, s _ _ t1, t2, fun i t p g1 g2 => s _ _ (t3 i t p g1 g2)⟩, ⟨kvs, s _ _ k1, k2⟩, ⟨rs, s _ _ r1, r2, fun i r q g1 g2 => let ⟨n1, n2, n3, g⟩ := r3 i r q g1 g2; ⟨n1, n2, n3, s _ _ g⟩⟩⟩
theorem BackAt.row (h : BackAt H0 H a e y z R S) {z2 : Addr} (hz : H z2 = none) : BackAt H0 (upd H z2 (.lst [])) a e y z2 R S := by
  have g := h.ext (same_upd (o := .lst []) hz)
  obtain ⟨h1, h2, h3, ⟨n1, n2, n3, n4⟩, ⟨ts, t1, t2, t3⟩, ⟨kvs, k1, k2⟩, ⟨rs, r1, r2, r3⟩⟩ := h
  refine ⟨g.same, g.ay, (ne_of_none t1 hz).symm, ⟨n1, n2, n3, ?_⟩, g.at_, g.num, ⟨rs, by rw [upd_ne (ne_of_none r1 hz)]; exact r1, r2, fun i r q g1 g2 => ?_⟩⟩
  · rcases q : H0 z2 with _ | o
    · rfl
    · rw [h1 _ _ q] at hz; cases hz
  · obtain ⟨m1, m2, m3, m4⟩ := r3 i r q g1 g2
    exact ⟨m1, m2, ne_of_none m4 hz, by rw [upd_ne (ne_of_none m4 hz)]; exact m4⟩
theorem BackAt.reach (h : BackAt H0 H a e y z R S) {x : Pr} (hx : ¬ x ∈ R) {t : Addr} (ht : H t = some (.tup [.int x.1, .int x.2])) {ts : List V} {kvs : List (List Key × V)} (ha : H a = some (.lst ts)) (he : H e = some (.dT kvs)) :
    BackAt H0 (upd (upd H e (.dT (putK kvs (kp x) (.int (R.length : Nat))))) a (.lst (ts ++ [.ref t]))) a e y z (R ++ [x]) S := by
  obtain ⟨h1, h2, h3, ⟨n1, n2, n3, n4⟩, ⟨ts2, t1, t2, t3⟩, ⟨kvs2, k1, k2⟩, ⟨rs, r1, r2, r3⟩⟩ := h
  rw [ha] at t1
  cases t1
  rw [he] at k1
  cases k1
  have ea : e ≠ a := fun q => by rw [q, ha] at he; cases he
  have up : ∀ c o, c ≠ a → c ≠ e → H c = some o → upd (upd H e (.dT (putK kvs (kp x) (.int (R.length : Nat))))) a (.lst (ts2.map V.ref ++ [.ref t])) c = some o := fun c o q1 q2 g => by
    rw [upd_ne q1, upd_ne q2]
    exact g
  refine ⟨fun c o g => up c o (ne_of_none g n1) (ne_of_none g n2) (h1 _ _ g), h2, h3, ⟨n1, n2, n3, n4⟩, ⟨ts2 ++ [t], by rw [upd_same, List.map_append]; rfl, by rw [List.length_append, List.length_append, t2]; rfl, fun i u p g1 g2 => ?_⟩, ⟨_, by rw [upd_ne ea, upd_same], k2.put hx⟩, ⟨rs, up _ _ h2.symm (fun q => by rw [q, he] at r1; cases r1) r1, r2, fun i r q g1 g2 => ?_⟩⟩
  · have key : ∀ {u : Addr} {p : Pr}, H u = some (.tup [.int p.1, .int p.2]) → upd (upd H e (.dT (putK kvs (kp x) (.int (R.length : Nat))))) a (.lst (ts2.map V.ref ++ [.ref t])) u = some (.tup [.int p.1, .int p.2]) := fun {u p} g => up _ _ (fun q => by rw [q, ha] at g; cases g) (fun q => by rw [q, he] at g; cases g) g
    rcases Nat.lt_or_ge i ts2.length with l | l
    · rw [List.getElem?_append_left l] at g1
      rw [List.getElem?_append_left (by omega)] at g2
      exact key (t3 i u p g1 g2)
    · have ei : i = ts2.length := by
        have := (List.getElem?_eq_some_iff.mp g1).1
        rw [List.length_append, List.length_singleton] at this
        omega
      rw [ei, List.getElem?_append_right (Nat.le_refl _), Nat.sub_self] at g1
      rw [ei, t2, List.getElem?_append_right (Nat.le_refl _), Nat.sub_self] at g2
      cases g1
      cases g2
      exact key ht
  · obtain ⟨m1, m2, m3, m4⟩ := r3 i r q g1 g2
    exact ⟨m1, m2, m3, up _ _ m1 (fun q => by rw [q, he] at m4; cases m4) m4⟩
theorem BackAt.put (h : BackAt H0 H a e y z R S) (zy : z ≠ y) {l l2 : List V} (hz : H z = some (.lst l)) : BackAt H0 (upd H z (.lst l2)) a e y z R S := by
  obtain ⟨h1, h2, h3, ⟨n1, n2, n3, n4⟩, ⟨ts2, t1, t2, t3⟩, ⟨kvs2, k1, k2⟩, ⟨rs, r1, r2, r3⟩⟩ := h
  refine ⟨fun c o g => by rw [upd_ne (ne_of_none g n4)]; exact h1 _ _ g, h2, h3, ⟨n1, n2, n3, n4⟩, ⟨ts2, by rw [upd_ne h3.symm]; exact t1, t2, fun i u p g1 g2 => ?_⟩, ⟨kvs2, by rw [upd_ne (fun q => by rw [q, hz] at k1; cases k1)]; exact k1, k2⟩, ⟨rs, by rw [upd_ne zy.symm]; exact r1, r2, fun i r q g1 g2 => ?_⟩⟩
  · have g := t3 i u p g1 g2
    rw [upd_ne (fun q => by rw [q, hz] at g; cases g)]
    exact g
  · obtain ⟨m1, m2, m3, m4⟩ := r3 i r q g1 g2
    exact ⟨m1, m2, m3, by rw [upd_ne m3]; exact m4⟩
theorem BackAt.done (h : BackAt H0 H a e y z R S) (zy : z ≠ y) {row : List Int} (hz : H z = some (.lst (row.map V.int))) {ls : List V} (hy : H y = some (.lst ls)) : BackAt H0 (upd H y (.lst (ls ++ [.ref z]))) a e y y R (S ++ [row]) := by
  obtain ⟨h1, h2, h3, ⟨n1, n2, n3, n4⟩, ⟨ts2, t1, t2, t3⟩, ⟨kvs2, k1, k2⟩, ⟨rs, r1, r2, r3⟩⟩ := h
  rw [hy] at r1
  cases r1
  refine ⟨fun c o g => by rw [upd_ne (ne_of_none g n3)]; exact h1 _ _ g, h2, h2.symm, ⟨n1, n2, n3, n3⟩, ⟨ts2, by rw [upd_ne h2]; exact t1, t2, fun i u p g1 g2 => ?_⟩, ⟨kvs2, by rw [upd_ne (fun q => by rw [q, hy] at k1; cases k1)]; exact k1, k2⟩, ⟨rs ++ [z], by rw [upd_same, List.map_append]; rfl, by rw [List.length_append, List.length_append, r2]; rfl, fun i r q g1 g2 => ?_⟩⟩
  · have g := t3 i u p g1 g2
    rw [upd_ne (fun q => by rw [q, hy] at g; cases g)]
    exact g
  · rcases Nat.lt_or_ge i rs.length with l | l
    · rw [List.getElem?_append_left l] at g1
      rw [List.getElem?_append_left (by omega)] at g2
      obtain ⟨m1, m2, m3, m4⟩ := r3 i r q g1 g2
      exact ⟨m1, m2, m2, by rw [upd_ne m2]; exact m4⟩
    · have ei : i = rs.length := by
        have := (List.getElem?_eq_some_iff.mp g1).1
        rw [List.length_append, List.length_singleton] at this
        omega
      rw [ei, List.getElem?_append_right (Nat.le_refl _), Nat.sub_self] at g1
      rw [ei, r2, List.getElem?_append_right (Nat.le_refl _), Nat.sub_self] at g2
      cases g1
      cases g2
      exact ⟨h3, zy, zy, by rw [upd_ne zy]; exact hz⟩
theorem ok_back_machine (T : Tx P K mg) : FnOk P w K mg base CX0 lv_back_machine T.a_back_machine T.d_back_machine ["base", "labels"] (spBack K) := by
  refine T.F_back_machine.ok sc_back_machine (fun vs H Q E h => ?_) (fun cdv A outer s H vs Q E hr h => ?_)
  · obtain ⟨b, c, ls, rfl, _⟩ := h
    rfl
  · obtain ⟨b, c, ls, rfl, hc, b1, b2, l1, l2, k⟩ := h
    refine ⟨_, (pss_cons (ps_set (i := 2) sc_back_machine.nd rfl (Or.inl rfl) (pe_callB call_len_seq (by rfl) T.n_len (by decide +kernel) (pa_cons (pv 1) pa_nil)))
      (pss_cons (ps_set (i := 3) sc_back_machine.nd rfl (Or.inl rfl) (pe_lst (pa_cons (pe_tup (pa_cons pe_int (pa_cons (pe_op op_modN pe_int (pv 2)) pa_nil))) pa_nil)))
      (pss_cons (ps_set (i := 4) sc_back_machine.nd rfl (Or.inl rfl) (pe_disp1T (hu_of hr) (pe_ix ix_list (pv 3) pe_int (fun _ _ => rfl)) pe_int))
      (pss_cons (ps_set (i := 5) sc_back_machine.nd rfl (Or.inl rfl) (pe_lst pa_nil))
      (pss_cons (ps_while PassesOwn.never (pt_cmpR op_lt (pe_callB call_len_seq (by rfl) T.n_len (by decide +kernel) (pa_cons (pv 5) pa_nil)) (pe_callB call_len_seq (by rfl) T.n_len (by decide +kernel) (pa_cons (pv 3) pa_nil)) (nomark _)) (pss_cons (ps_asg (pe_ix ix_list (pv 3) (pe_callB call_len_seq (by rfl) T.n_len (by decide +kernel) (pa_cons (pv 5) pa_nil)) (fun _ _ => rfl)) (pg_tup rfl (pgs_cons (pg_name (i := 6) sc_back_machine.nd rfl (Or.inl rfl)) (pgs_cons (pg_name (i := 7) sc_back_machine.nd rfl (Or.inl rfl)) pgs_nil))))
      (pss_cons (ps_set (i := 8) sc_back_machine.nd rfl (Or.inl rfl) (pe_lst pa_nil))
      (pss_cons (ps_for PassesOwn.never rfl (pi_range1 (by rfl) T.n_range (pa_cons (pv 0) pa_nil)) (pg_name (i := 9) sc_back_machine.nd rfl (Or.inl rfl)) (pss_cons (ps_set (i := 10) sc_back_machine.nd rfl (Or.inl rfl) (pe_tup (pa_cons (pe_op op_modN (pe_op op_add (pv 6) (pe_op op_mul (pv 9) (pv 7))) (pv 2)) (pa_cons (pe_op op_modN (pe_op op_mul (pv 7) (pv 0)) (pv 2)) pa_nil))))
      (pss_cons (ps_if (pt_cmp (pc_dnotin (hu_of hr) (pv 10) (pv 4))) (pss_cons (ps_dput (hu_of hr) (pv 4) (pv 10) (pe_callB call_len_seq (by rfl) T.n_len (by decide +kernel) (pa_cons (pv 3) pa_nil)) rfl)
      (pss_one (ps_expr (pe_bm PySem.F.plainAttrs_list PySem.F.slot_list_append PySem.F.type_list_append mt_append (pv 3) (pa_cons (pv 10) pa_nil))))) pss_nil)
      (pss_one (ps_expr (pe_bm PySem.F.plainAttrs_list PySem.F.slot_list_append PySem.F.type_list_append mt_append (pv 8) (pa_cons (pe_dget (hu_of hr) (pv 4) (pv 10) (fun _ _ => rfl)) pa_nil)))))))
      (pss_one (ps_expr (pe_bm PySem.F.plainAttrs_list PySem.F.slot_list_append PySem.F.type_list_append mt_append (pv 5) (pa_cons (pv 8) pa_nil))))))))
      (pss_one (ps_ret (pe_tup (pa_cons (pe_lc (own := [("rest", 6), ("power", 7)]) (tt := tYes) (g := gTup K 2 (gCons (gName 6) (gCons (gName 7) gNil))) rfl sc_back_machine.nd (pi_list (pv 3)) (blkOk_by (own := [("rest", 6), ("power", 7)]) (N := ["base", "labels", "d", "reached", "numbers", "steps", "rest", "power", "row", "figure", "later"]) (sc := defScope s_back_machine) (by decide +kernel)) (fun _ _ _ _ _ => pg_tup rfl (pgs_cons (pg_name (i := 6) sc_back_machine.nd rfl (Or.inl rfl)) (pgs_cons (pg_name (i := 7) sc_back_machine.nd rfl (Or.inl rfl)) pgs_nil))) (fun _ _ _ _ _ => pts_nil) (fun _ _ _ _ _ => (pe_ix (ix_tK (K := K) rfl) (pv 1) (pv 6) (fun _ _ => rfl)))) (pa_cons (pv 5) pa_nil)))))))))), ?_⟩
    refine ⟨_, rfl, c, _, rfl, .inr (SqT.of hc), ?_⟩
    have dn : ((ls.map V.int).length : Int) ≠ 0 := by rw [List.length_map]; omega
    refine ⟨_, rfl, _, _, rfl, rfl, dn, by show 2 ≤ sizeLine; decide, fun t ht => ⟨by show 1 ≤ sizeLine; decide, fun a ha => ?_⟩⟩
    refine fun e he => ⟨_, rfl, a, [.ref t], 0, .ref t, rfl, rfl, .of (by rw [upd_ne (ne_of_none upd_same he)]; exact upd_same), rfl, ?_⟩
    have nat : t ≠ a := ne_of_none upd_same ha
    have nte : t ≠ e := ne_of_none (same_upd ha _ _ upd_same) he
    have nae : a ≠ e := ne_of_none upd_same he
    refine ⟨upd_same, t, kp (0, 1 % (ls.length : Int)), rfl, ?_, Nat.zero_le _, fun y hy => ?_⟩
    · rw [upd_ne nte, upd_ne nat, upd_same]
      show some (HO.tup [V.int 0, V.int ((1 : Int).fmod ((ls.map V.int).length : Int))]) = _
      rw [List.length_map, Int.fmod_eq_emod_of_nonneg _ (by omega)]
      rfl
    have nty : t ≠ y := ne_of_none (by rw [upd_ne nte, upd_ne nte, upd_ne nat]; exact upd_same) hy
    have nay : a ≠ y := ne_of_none (by rw [upd_ne nae, upd_ne nae]; exact upd_same) hy
    have ney : e ≠ y := ne_of_none upd_same hy
    refine while_by (fun σ H2 => ∃ (R : List Pr) (S : List (List Int)) (v6 v7 v8 v9 v10 : Option V), BRun b ls.length R S ∧ BackAt H H2 a e y y R S ∧ σ = [some (.int b), some (.ref c), some (.int (ls.length : Int)), some (.ref a), some (.ref e), some (.ref y), v6, v7, v8, v9, v10])
      (fun _ H2 => match H2 y with | some (.lst xs) => 400 - xs.length | _ => 0) ⟨_, _, none, none, none, none, none, .start, ?_, by rw [List.length_map]; rfl⟩ ?_ (m_test (m_op m_rI0 m_len m_len))
    · have fa : H a = none := by have q := ha; rw [upd_ne nat.symm] at q; exact q
      have fe : H e = none := by have q := he; rw [upd_ne nae.symm, upd_ne nte.symm] at q; exact q
      have fy : H y = none := by have q := hy; rw [upd_ne ney.symm, upd_ne ney.symm, upd_ne nay.symm, upd_ne nty.symm] at q; exact q
      refine ⟨fun c o g => ?_, nay, nay.symm, ⟨fa, fe, fy, fy⟩, ⟨[t], ?_, rfl, fun i u p g1 g2 => ?_⟩, ⟨[(kp (0, 1 % (ls.length : Int)), .int 0)], by rw [upd_ne ney]; exact upd_same, NumR.put (kvs := []) (R := []) ⟨rfl, fun q => rfl⟩ List.not_mem_nil⟩, ⟨[], upd_same, rfl, fun i r s g => by cases g⟩⟩
      · rw [upd_ne (ne_of_none g fy), upd_ne (ne_of_none g fe), upd_ne (ne_of_none g fe), upd_ne (ne_of_none g fa), upd_ne (ne_of_none g ht)]
        exact g
      · rw [upd_ne nay, upd_ne nae, upd_ne nae]
        exact upd_same
      · have e0 : i = 0 := by
          have := (List.getElem?_eq_some_iff.mp g1).1
          rw [List.length_singleton] at this
          omega
        subst e0
        cases g1
        cases g2
        rw [upd_ne nty, upd_ne nte, upd_ne nte, upd_ne nat, upd_same]
        show some (HO.tup [V.int 0, V.int ((1 : Int).fmod ((ls.map V.int).length : Int))]) = _
        rw [List.length_map, Int.fmod_eq_emod_of_nonneg _ (by omega)]
    · rintro σ H2 ⟨R, S, v6, v7, v8, v9, v10, run, at2, rfl⟩
      obtain ⟨ts, t1, t2, t3⟩ := at2.at_
      obtain ⟨rs, r1, r2, r3⟩ := at2.stp
      refine ⟨_, rfl, y, _, rfl, .inl (SqL.of r1), _, rfl, a, _, rfl, .inl (SqL.of t1), _, _, rfl, rfl, _, rfl, ?_⟩
      rw [List.length_map, List.length_map, r2, t2]
      refine ite2 (fun g1 => ?_) (fun g1 => ?_)
      · have lt : S.length < R.length := by simpa using g1
        obtain ⟨p, hp⟩ : ∃ p, R[S.length]? = some p := ⟨_, List.getElem?_eq_getElem lt⟩
        obtain ⟨tt, htt⟩ : ∃ t, ts[S.length]? = some t := ⟨_, List.getElem?_eq_getElem (by omega)⟩
        have htp := t3 _ _ _ htt hp
        have pd := (run.rests (by omega)).dom p (List.mem_of_getElem? hp)
        refine ⟨_, rfl, _, rfl, y, _, rfl, .inl (SqL.of r1), a, _, _, .ref tt, rfl, rfl, SqL.of t1, ?_, tt, _, rfl, SqT.of htp, rfl, _, _, rfl, _, _, rfl, rfl, Nat.zero_le _, fun z hz => ?_⟩
        · rw [List.length_map, r2]
          exact atI_nat (by rw [List.getElem?_map, htt]; rfl)
        refine ⟨_, rfl, b, rfl, by omega, by omega, ?_⟩
        refine for_range (lo := 0) (n := b.toNat) (fun i σ H3 => ∃ v9 v10 : Option V, BackAt H H3 a e y z (rowR b ls.length p i R).1 S ∧ H3 z = some (.lst ((rowR b ls.length p i R).2.map V.int)) ∧ σ = [some (.int b), some (.ref c), some (.int (ls.length : Int)), some (.ref a), some (.ref e), some (.ref y), some (.int p.1), some (.int p.2), some (.ref z), v9, v10]) ⟨v9, v10, at2.row hz, upd_same, rfl⟩ ?_ ?_
        · rintro i σ H3 hi ⟨v9, v10, at3, hz3, rfl⟩
          refine ⟨_, rfl, _, rfl, _, rfl, _, _, rfl, rfl, .inl ⟨by omega, by omega⟩, _, _, rfl, rfl, _, rfl, _, _, rfl, rfl, by omega, _, rfl, _, rfl, _, _, rfl, rfl, .inl ⟨by omega, by omega⟩, _, rfl, _, _, rfl, rfl, by omega, by show 2 ≤ sizeLine; decide, fun t ht => ?_⟩
          have rr := (run.rests (by omega)).row (by omega) b p i
          have rl := rr.le (by omega)
          have hrow : (rowR b ls.length p i R).2.length = i := rowR_len i
          have ht4 : upd H3 t (.tup [V.int ((p.1 + (0 + (i : Int)) * p.2).fmod (ls.length : Int)), V.int ((p.2 * b).fmod (ls.length : Int))]) t = some (.tup ((kp (nextR b ls.length p i)).map kV)) := by
            rw [upd_same, Int.fmod_eq_emod_of_nonneg _ (by omega), Int.fmod_eq_emod_of_nonneg _ (by omega), Int.zero_add]
            rfl
          have at4 := at3.ext (same_upd (o := .tup [V.int ((p.1 + (0 + (i : Int)) * p.2).fmod (ls.length : Int)), V.int ((p.2 * b).fmod (ls.length : Int))]) ht)
          have hz4 := same_upd (o := .tup [V.int ((p.1 + (0 + (i : Int)) * p.2).fmod (ls.length : Int)), V.int ((p.2 * b).fmod (ls.length : Int))]) ht _ _ hz3
          generalize hH4 : upd H3 t (HO.tup [V.int ((p.1 + (0 + (i : Int)) * p.2).fmod (ls.length : Int)), V.int ((p.2 * b).fmod (ls.length : Int))]) = H4 at ht4 at4 hz4
          have e1 : (rowR b ls.length p (i + 1) R).1 = addR (rowR b ls.length p i R).1 (nextR b ls.length p i) := rfl
          have e2 : (rowR b ls.length p (i + 1) R).2 = (rowR b ls.length p i R).2 ++ [((addR (rowR b ls.length p i R).1 (nextR b ls.length p i)).idxOf (nextR b ls.length p i) : Int)] := rfl
          generalize (rowR b ls.length p (i + 1) R) = RN at e1 e2
          generalize (rowR b ls.length p i R).1 = R' at *
          generalize (rowR b ls.length p i R).2 = row at *
          generalize nextR b ls.length p i = x at *
          obtain ⟨kvs, k1, k2⟩ := at4.num
          obtain ⟨ts', t1', t2', t3'⟩ := at4.at_
          have zy : z ≠ y := ne_of_none r1 hz |>.symm
          refine ⟨_, rfl, _, rfl, e, _, rfl, DGet.t k1 ht4, _, rfl, ?_⟩
          rw [k2.at_]
          by_cases m : x ∈ R'
          · rw [if_pos m]
            have er : addR R' x = R' := if_pos m
            rw [er] at e1 e2
            have ev : valV kvs (kp x) = some (.int (R'.idxOf x : Nat)) := by rw [k2.at_, if_pos m]
            refine iteF ⟨_, rfl, .inl ⟨rfl, _, SqL.of hz4⟩, _, rfl, _, rfl, e, .int (R'.idxOf x : Nat), rfl, by rw [← ev]; exact DGet.t k1 ht4, z, _, _, rfl, rfl, hz4, by rw [List.length_map, hrow]; exact small1000 (by omega), _, _, ?_, ?_, rfl⟩
            · rw [e1]
              exact at4.put zy hz4
            · rw [e2, upd_same, List.map_append]
              rfl
          · rw [if_neg m]
            have er : addR R' x = R' ++ [x] := if_neg m
            rw [er] at e1 e2
            have at5 := at4.reach m ht4 t1' k1
            have hy5 : (upd (upd H4 e (.dT (putK kvs (kp x) (.int (R'.length : Nat))))) a (.lst (ts'.map V.ref ++ [.ref t]))) z = some (.lst (row.map V.int)) := by
              rw [upd_ne at4.za, upd_ne (fun q => by rw [q, k1] at hz4; cases hz4)]
              exact hz4
            have hx5 : (upd (upd H4 e (.dT (putK kvs (kp x) (.int (R'.length : Nat))))) a (.lst (ts'.map V.ref ++ [.ref t]))) t = some (.tup ((kp x).map kV)) := by
              rw [upd_ne (fun q => by rw [q, t1'] at ht4; cases ht4), upd_ne (fun q => by rw [q, k1] at ht4; cases ht4)]
              exact ht4
            obtain ⟨kvs5, k15, k25⟩ := at5.num
            have ev : valV kvs5 (kp x) = some (.int ((R' ++ [x]).idxOf x : Nat)) := by rw [k25.at_, if_pos (List.mem_append_right _ List.mem_cons_self)]
            refine iteT ⟨_, rfl, a, _, rfl, .inl (SqL.of t1'), _, rfl, _, rfl, e, _, rfl, DPut.t k1 ht4 (by rw [k2.len]; exact small1000 (by omega)), ?_⟩
            rw [List.length_map, t2']
            refine ⟨_, rfl, .inl ⟨rfl, _, SqL.of (by rw [upd_ne (fun q => by rw [q, k1] at t1'; cases t1')]; exact t1')⟩, _, rfl, a, _, _, rfl, rfl, by rw [upd_ne (fun q => by rw [q, k1] at t1'; cases t1')]; exact t1', by rw [List.length_map, t2']; exact small1000 (by omega), ?_⟩
            refine ⟨_, rfl, .inl ⟨rfl, _, SqL.of hy5⟩, _, rfl, _, rfl, e, .int ((R' ++ [x]).idxOf x : Nat), rfl, by rw [← ev]; exact DGet.t k15 hx5, z, _, _, rfl, rfl, hy5, by rw [List.length_map, hrow]; exact small1000 (by omega), _, _, ?_, ?_, rfl⟩
            · rw [e1]
              exact at5.put zy hy5
            · rw [e2, upd_same, List.map_append]
              rfl
        · rintro σ H3 ⟨v9, v10, at3, hz3, rfl⟩
          obtain ⟨rs', r1', r2', r3'⟩ := at3.stp
          have zy : z ≠ y := ne_of_none r1 hz |>.symm
          have sl : S.length < 400 := Nat.lt_of_lt_of_le lt ((run.rests (by omega)).le (by omega))
          refine ⟨_, rfl, .inl ⟨rfl, _, SqL.of r1'⟩, _, rfl, y, _, _, rfl, rfl, r1', by rw [List.length_map, r2']; exact small1000 (by omega), ⟨_, _, _, _, _, _, _, .step run hp, at3.done zy hz3 r1', rfl⟩, ?_⟩
          rw [upd_same, r1]
          show 400 - (rs'.map V.ref ++ [V.ref z]).length < 400 - (rs.map V.ref).length
          rw [List.length_append, List.length_map, List.length_map, r2, r2', List.length_singleton]
          omega
      · have eq : S.length = R.length := by
          have g2 : ¬ S.length < R.length := by simpa using g1
          have := run.le
          omega
        have rl := (run.rests (by omega)).le (by omega)
        have hc2 := at2.same _ _ hc
        refine ⟨_, rfl, a, rfl, ⟨_, SqL.of t1⟩, fun D hD => ?_⟩
        refine lc_list (xs := ts.map V.ref) (fun i H3 => H3 D = some (.lst ((backTold ls (R.take i)).map V.int)) ∧ Same H2 H3) ⟨upd_same, same_upd hD⟩ (fun i H3 _ ⟨_, S3⟩ => SqL.of (S3 _ _ t1)) ?_ ?_
        · rintro i x H3 hx ⟨g3, S3⟩
          rw [List.getElem?_map] at hx
          obtain ⟨u, hu, rfl⟩ := Option.map_eq_some_iff.mp hx
          have li : i < R.length := by rw [← t2]; exact (List.getElem?_eq_some_iff.mp hu).1
          obtain ⟨p, hp⟩ : ∃ p, R[i]? = some p := ⟨_, List.getElem?_eq_getElem li⟩
          have pd := (run.rests (by omega)).dom p (List.mem_of_getElem? hp)
          have hv : atI (ls.map V.int) p.1 = some (.int (ls.getD p.1.toNat 0)) := by
            have l : p.1.toNat < ls.length := by omega
            have := atI_nat (xs := ls.map V.int) (j := p.1.toNat) (v := .int (ls.getD p.1.toNat 0)) (by rw [List.getElem?_map, List.getD_eq_getElem?_getD, List.getElem?_eq_getElem l]; rfl)
            rw [Int.toNat_of_nonneg pd.1] at this
            exact this
          refine ⟨u, _, rfl, SqT.of (S3 _ _ (t3 _ _ _ hu hp)), rfl, _, _, rfl, _, _, rfl, rfl, rfl, _, rfl, _, rfl, c, _, _, _, rfl, rfl, SqT.of (S3 _ _ hc2), hv, _, g3, ?_, ?_, fun c o g => ?_⟩
          · rw [List.length_map]
            unfold backTold
            rw [List.length_map, List.length_take]
            exact small1000 (by omega)
          · rw [upd_same, List.take_add_one, hp]
            unfold backTold
            rw [List.map_append, List.map_append]
            rfl
          · rw [upd_ne (ne_of_none g hD)]
            exact S3 _ _ g
        · rintro H3 ⟨g3, S3⟩
          refine ⟨_, rfl, by show 2 ≤ sizeLine; decide, fun q hq => ?_⟩
          rw [List.length_map, t2, List.take_length] at g3
          refine k q _ R S run eq ((at2.same.trans S3).trans (same_upd hq)) ⟨D, y, rs, upd_same, same_upd hq _ _ g3, same_upd hq _ _ (S3 _ _ r1), r2, fun i r s hr hs => ?_⟩
          exact same_upd hq _ _ (S3 _ _ (r3 i r s hr hs).2.2.2)

/-! ### the state behind a word -/
structure GoodS (b : Int) (S : List (List Int)) : Prop where
  pos : 0 < S.length
  len : ∀ row ∈ S, row.length = b.toNat
  dom : ∀ row ∈ S, ∀ j ∈ row, 0 ≤ j ∧ j < (S.length : Int)
theorem rowR_dom {b d : Int} {p : Pr} {R : List Pr} : ∀ n, ∀ j ∈ (rowR b d p n R).2, 0 ≤ j ∧ j < ((rowR b d p n R).1.length : Int)
  | 0, j, h => by cases h
  | n + 1, j, h => by
    obtain ⟨more, e⟩ := addR_pre (R := (rowR b d p n R).1) (x := nextR b d p n)
    have hl : (rowR b d p n R).1.length ≤ (rowR b d p (n + 1) R).1.length := by
      show _ ≤ (addR (rowR b d p n R).1 (nextR b d p n)).length
      rw [e, List.length_append]
      omega
    rcases List.mem_append.mp (show j ∈ (rowR b d p n R).2 ++ [((addR (rowR b d p n R).1 (nextR b d p n)).idxOf (nextR b d p n) : Int)] from h) with q | q
    · have := rowR_dom n j q
      omega
    · rw [List.mem_singleton.mp q]
      have := List.idxOf_lt_length_of_mem (mem_addR (R := (rowR b d p n R).1) (x := nextR b d p n))
      show 0 ≤ _ ∧ _ < ((addR (rowR b d p n R).1 (nextR b d p n)).length : Int)
      omega
theorem BRun.rows {b d : Int} {R : List Pr} {S : List (List Int)} (h : BRun b d R S) : ∀ row ∈ S, row.length = b.toNat ∧ ∀ j ∈ row, 0 ≤ j ∧ j < (R.length : Int) := by
  induction h with
  | start => exact fun row h => by cases h
  | @step R S p hr hp ih =>
    intro row hrow
    obtain ⟨m, e⟩ := rowR_pre (b := b) (d := d) (p := p) (R := R) b.toNat
    have hl : R.length ≤ (rowR b d p b.toNat R).1.length := by rw [e, List.length_append]; omega
    rcases List.mem_append.mp hrow with q | q
    · obtain ⟨h1, h2⟩ := ih row q
      exact ⟨h1, fun j hj => by have := h2 j hj; omega⟩
    · rw [List.mem_singleton.mp q]
      exact ⟨rowR_len _, rowR_dom _⟩
theorem BRun.good {b d : Int} {R : List Pr} {S : List (List Int)} (h : BRun b d R S) (e : S.length = R.length) : GoodS b S :=
  ⟨by have := h.le; omega, fun row hr => (h.rows row hr).1, fun row hr j hj => by rw [e]; exact (h.rows row hr).2 j hj⟩
/-- where the state s goes by the figure f -/
def goS (S : List (List Int)) (s : Nat) (f : Int) : Nat := ((S.getD s []).getD f.toNat 0).toNat
theorem GoodS.go {b : Int} {S : List (List Int)} (h : GoodS b S) {s : Nat} (hs : s < S.length) {f : Int} (f0 : 0 ≤ f) (f1 : f < b) : ∃ row, S[s]? = some row ∧ row[f.toNat]? = some (goS S s f : Int) ∧ goS S s f < S.length := by
  have hr : S[s]? = some S[s] := List.getElem?_eq_getElem hs
  have hm : S[s] ∈ S := List.getElem_mem hs
  have hl := h.len _ hm
  have lf : f.toNat < S[s].length := by omega
  have hj := h.dom _ hm _ (List.getElem_mem lf)
  have e : goS S s f = (S[s][f.toNat]).toNat := by
    have e1 : S.getD s [] = S[s] := by
      rw [List.getD_eq_getElem?_getD, hr]
      rfl
    unfold goS
    rw [e1, List.getD_eq_getElem?_getD, List.getElem?_eq_getElem lf]
    rfl
  refine ⟨_, hr, ?_, by omega⟩
  rw [e, Int.toNat_of_nonneg hj.1]
  exact List.getElem?_eq_getElem lf
theorem MachAt.row {H : Hp} {q : Addr} {told : List Int} {S : List (List Int)} (h : MachAt H q told S) : ∃ (x y : Addr) (rs : List Addr), H q = some (.tup [.ref x, .ref y]) ∧ H x = some (.lst (told.map V.int)) ∧ H y = some (.lst (rs.map V.ref)) ∧
    ∀ (i : Nat) (row : List Int), S[i]? = some row → ∃ r, (rs.map V.ref)[i]? = some (.ref r) ∧ H r = some (.lst (row.map V.int)) := by
  obtain ⟨x, y, rs, h1, h2, h3, h4, h5⟩ := h
  refine ⟨x, y, rs, h1, h2, h3, fun i row hi => ?_⟩
  have li : i < rs.length := by rw [h4]; exact (List.getElem?_eq_some_iff.mp hi).1
  exact ⟨rs[i], by rw [List.getElem?_map, List.getElem?_eq_getElem li]; rfl, h5 _ _ _ (List.getElem?_eq_getElem li) hi⟩
theorem MachAt.same {H H2 : Hp} {q : Addr} {told : List Int} {S : List (List Int)} (h : MachAt H q told S) (s : Same H H2) : MachAt H2 q told S := by
  obtain ⟨x, y, rs, h1, h2, h3, h4, h5⟩ := h
  exact ⟨x, y, rs, s _ _ h1, s _ _ h2, s _ _ h3, h4, fun i r w g1 g2 => s _ _ (h5 i r w g1 g2)⟩
def runS (S : List (List Int)) : Nat → List Int → Nat
  | s, [] => s
  | s, f :: fs => runS S (goS S s f) fs
theorem runS_snoc (S : List (List Int)) : ∀ (s : Nat) (fs : List Int) (f : Int), runS S s (fs ++ [f]) = goS S (runS S s fs) f
  | _, [], _ => rfl
  | s, g :: fs, f => runS_snoc S (goS S s g) fs f
theorem runS_lt {b : Int} {S : List (List Int)} (h : GoodS b S) : ∀ {fs : List Int} {s : Nat}, s < S.length → (∀ f ∈ fs, 0 ≤ f ∧ f < b) → runS S s fs < S.length
  | [], _, hs, _ => hs
  | f :: fs, s, hs, hf => by
    obtain ⟨_, _, _, l⟩ := h.go hs (hf f List.mem_cons_self).1 (hf f List.mem_cons_self).2
    show runS S (goS S s f) fs < S.length
    exact runS_lt h l fun g hg => hf g (List.mem_cons_of_mem _ hg)
def spStateB (K : PySem.W.Frag) : Sp := fun vs H Q _ => ∃ (q c : Addr) (told : List Int) (S : List (List Int)) (b : Int) (fs : List Int), vs = [.ref q, .ref c] ∧ MachAt H q told S ∧ GoodS b S ∧ H c = some (.tup (fs.map V.int)) ∧ (∀ f ∈ fs, 0 ≤ f ∧ f < b) ∧ Q (.int (runS S 0 fs : Nat)) H
theorem ok_state_behind (T : Tx P K mg) : FnOk P w K mg base CX0 lv_state_behind T.a_state_behind T.d_state_behind ["machine", "word"] (spStateB K) := by
  refine T.F_state_behind.ok sc_state_behind (fun vs H Q E h => ?_) (fun cdv A outer s H vs Q E hr h => ?_)
  · obtain ⟨q, c, told, S, b, fs, rfl, _⟩ := h
    rfl
  · obtain ⟨q, c, told, S, b, fs, rfl, m, g, hc, hf, k⟩ := h
    obtain ⟨x, y, rs, m1, m2, m3, m4⟩ := m.row
    refine ⟨_, (pss_cons (ps_set (i := 2) sc_state_behind.nd rfl (Or.inl rfl) (pe_ix ix_tup (pv 0) pe_int (fun _ _ => rfl)))
      (pss_cons (ps_set (i := 3) sc_state_behind.nd rfl (Or.inl rfl) pe_int)
      (pss_cons (ps_for PassesOwn.never rfl (pi_tup (pv 1)) (pg_name (i := 4) sc_state_behind.nd rfl (Or.inl rfl)) (pss_one (ps_set (i := 3) sc_state_behind.nd rfl (Or.inl rfl) (pe_ix ix_list (pe_ix ix_list (pv 2) (pv 3) (fun _ _ => rfl)) (pv 4) (fun _ _ => rfl)))))
      (pss_one (ps_ret (pv 3)))))), ?_⟩
    refine ⟨_, rfl, q, _, 1, .ref y, rfl, rfl, SqT.of m1, rfl, ?_⟩
    refine ⟨_, rfl, c, rfl, ⟨_, SqT.of hc⟩, ?_⟩
    refine for_tup (xs := fs.map V.int) (fun i σ H2 => H2 = H ∧ ∃ v4 : Option V, σ = [some (.ref q), some (.ref c), some (.ref y), some (.int (runS S 0 (fs.take i) : Nat)), v4]) ⟨rfl, none, rfl⟩ (fun i σ H2 _ ⟨e, _⟩ => by rw [e]; exact SqT.of hc) ?_ ?_
    · rintro i x2 σ H2 hx ⟨rfl, v4, rfl⟩
      rw [List.getElem?_map] at hx
      obtain ⟨f, hf2, rfl⟩ := Option.map_eq_some_iff.mp hx
      have ff := hf f (List.mem_of_getElem? hf2)
      have hs := runS_lt g g.pos (fs := fs.take i) fun z hz => hf z (List.mem_of_mem_take hz)
      obtain ⟨row, w1, w2, w3⟩ := g.go hs ff.1 ff.2
      obtain ⟨r, u1, u2⟩ := m4 _ _ w1
      have hv : atI (row.map V.int) f = some (.int (goS S (runS S 0 (fs.take i)) f : Nat)) := by
        have := atI_nat (xs := row.map V.int) (j := f.toNat) (v := .int (goS S (runS S 0 (fs.take i)) f : Nat)) (by rw [List.getElem?_map, w2]; rfl)
        rw [Int.toNat_of_nonneg ff.1] at this
        exact this
      refine ⟨_, rfl, _, rfl, y, _, _, .ref r, rfl, rfl, SqL.of m3, atI_nat u1, _, rfl, r, _, _, _, rfl, rfl, SqL.of u2, hv, rfl, some (.int f), ?_⟩
      rw [List.take_add_one, hf2]
      show _ = [_, _, _, some (V.int (runS S 0 (fs.take i ++ [f]) : Nat)), _]
      rw [runS_snoc]
      rfl
    · rintro σ H2 ⟨rfl, v4, rfl⟩
      rw [List.length_map, List.take_length]
      exact ⟨_, rfl, k⟩

/-! ### words: figures or the error -/
abbrev fVerd (b : Int) (H : Hp) (x : V) : Option V := verdict 0 150 0 (b - 1) (tupOf H x)
def spFigs0 (T : Tx P K mg) : Sp := fun vs H Q E => ∃ (x : V) (b : Int), vs = [x, .int b, .int 0] ∧ AnyV (OwnT T) H x ∧ ItemsAny (OwnT T) H x ∧ (fVerd b H x = none → ∀ H2, Same H H2 → Q .non H2) ∧
  ∀ v, fVerd b H x = some v → ∀ H2 d, Same H H2 → H2 d = none → E (.ref T.C_BadFigures) (some d) (upd H2 d (.xd [(("index" : Str), v)]))
theorem ok_check_figures (T : Tx P K mg) : FnOk P w K mg base (L2.CX P w) lv_check_figures T.a_check_figures T.d_check_figures ["told", "base", "fewest"] (spFigs0 T) := by
  refine T.F_check_figures.okX sc_check_figures (fun vs H Q E h => ?_) (fun cdv A outer s H vs Q E hr h => ?_)
  · obtain ⟨x, b, rfl, _⟩ := h
    rfl
  · obtain ⟨x, b, rfl, a, ia, k1, k2⟩ := h
    refine ⟨_, (pss_cons (ps_if (pt_not (pt_val (pe_call (ok_is_tuple T) (hr.mono (by decide)) rfl T.g_is_tuple T.F_is_tuple.kp T.b_is_tuple .nil pass0 (pa_cons (pv 0) (pa_cons (pv 2) (pa_cons (pe_glob (v := .int 150) rfl T.c_MOST_FIGURES ⟨_, rfl⟩) pa_nil)))))) (pss_one (ps_raiseF T.x_BadFigures ar_BadFigures rfl hr (takes_of rfl rfl rfl rfl) (pa_cons pe_non pa_nil))) pss_nil)
      (pss_cons (ps_set (i := 3) sc_check_figures.nd rfl (Or.inl rfl) (pe_call (ok_first_wrong T) (hr.mono (by decide)) rfl T.g_first_wrong T.F_first_wrong.kp T.b_first_wrong .nil pass0 (pa_cons (pv 0) (pa_cons pe_int (pa_cons (pe_op op_sub (pv 1) pe_int) pa_nil)))))
      (pss_one (ps_if (pt_cmpR op_notN (pv 3) pe_non (nomark _)) (pss_one (ps_raiseF T.x_BadFigures ar_BadFigures rfl hr (takes_of rfl rfl rfl rfl) (pa_cons (pv 3) pa_nil))) pss_nil)))), ?_⟩
    refine ⟨_, rfl, _, rfl, x, 0, 150, rfl, a, _, rfl, ?_⟩
    cases e : tupOf H x with
    | none =>
      have ev : fVerd b H x = some .non := by unfold fVerd; rw [e]; rfl
      exact iteT ⟨_, rfl, .inl rfl, fun d hd => k2 _ ev H d (Same.refl H) hd⟩
    | some ys =>
      obtain ⟨c, rfl, hc⟩ := tupOf_some e
      show if (!(decide ((0 : Int) ≤ (ys.length : Int)) && decide ((ys.length : Int) ≤ 150))) = true then _ else _
      by_cases l : 0 ≤ ys.length ∧ ys.length ≤ 150
      · rw [show (decide ((0 : Int) ≤ (ys.length : Int)) && decide ((ys.length : Int) ≤ 150)) = true from by rw [Bool.and_eq_true, decide_eq_true_eq, decide_eq_true_eq]; omega]
        have ev : fVerd b H (.ref c) = (firstW 0 (b - 1) ys).map fun i => .int (i : Nat) := by
          unfold fVerd
          rw [e, verdict_some]
          exact if_pos l
        rw [ev] at k1 k2
        refine iteF ⟨_, rfl, _, rfl, _, _, rfl, rfl, c, ys, 0, b - 1, rfl, hc, by omega, fun y hy => ia ys e y hy, fun H2 S2 => ?_⟩
        cases ef : firstW 0 (b - 1) ys with
        | none =>
          rw [ef] at k1
          refine ⟨_, rfl, rfl, _, rfl, ?_⟩
          rw [show decide (optN none = V.non) = true from decide_eq_true rfl]
          exact iteF (k1 rfl H2 S2)
        | some i =>
          have li : i < ys.length := firstW_lt ef
          rw [ef] at k2
          refine ⟨_, rfl, rfl, _, rfl, ?_⟩
          rw [show decide (optN (some i) = V.non) = false from decide_eq_false (fun z => nomatch z)]
          have sm : ((i : Int)).natAbs.log2 < 1920 := Nat.lt_of_le_of_lt (Nat.log2_le_self _) (by omega)
          exact iteT ⟨_, rfl, _, rfl, .inr ⟨_, rfl, sm⟩, fun d hd => k2 _ rfl H2 d S2 hd⟩
      · have ev : fVerd b H (.ref c) = some .non := by
          unfold fVerd
          rw [e, verdict_some]
          exact if_neg l
        rw [show (decide ((0 : Int) ≤ (ys.length : Int)) && decide ((ys.length : Int) ≤ 150)) = false from by rw [Bool.and_eq_false_iff, decide_eq_false_iff_not, decide_eq_false_iff_not]; omega]
        exact iteT ⟨_, rfl, .inl rfl, fun d hd => k2 _ ev H d (Same.refl H) hd⟩
theorem in_ints {lo hi : Int} : ∀ {ys : List V}, (∀ y ∈ ys, intIn y lo hi = true) → ∃ ns : List Int, ys = ns.map V.int ∧ ∀ n ∈ ns, lo ≤ n ∧ n ≤ hi
  | [], _ => ⟨[], rfl, fun n h => by cases h⟩
  | y :: ys, h => by
    obtain ⟨i, rfl, i1, i2⟩ := intIn_int' (h y List.mem_cons_self)
    obtain ⟨ns, rfl, hn⟩ := in_ints fun z hz => h z (List.mem_cons_of_mem _ hz)
    refine ⟨i :: ns, rfl, fun n hn2 => ?_⟩
    rcases List.mem_cons.mp hn2 with e | e
    · rw [e]; exact ⟨i1, i2⟩
    · exact hn n e

/-! ### what comes for the first time -/
section
variable {α : Type} [DecidableEq α] (f : Nat → α)
def fo (n : Nat) : Bool := (List.range n).all fun j => decide (f j ≠ f n)
theorem fo_iff {n : Nat} : fo f n = true ↔ ∀ j, j < n → f j ≠ f n := by
  unfold fo
  rw [List.all_eq_true]
  exact ⟨fun h j hj => of_decide_eq_true (h j (List.mem_range.mpr hj)), fun h j hj => decide_eq_true (h j (List.mem_range.mp hj))⟩
theorem fo_not {n : Nat} (h : fo f n = false) : ∃ j, j < n ∧ f j = f n := by
  rcases Classical.em (∃ j, j < n ∧ f j = f n) with c | c
  · exact c
  · have : fo f n = true := (fo_iff f).mpr fun j hj e => c ⟨j, hj, e⟩
    rw [h] at this
    cases this
/-- each comes for the first time somewhere -/
theorem fo_rep : ∀ n : Nat, ∃ m, m ≤ n ∧ fo f m = true ∧ f m = f n := by
  intro n
  induction n using Nat.strongRecOn with
  | ind n ih =>
    cases e : fo f n with
    | true => exact ⟨n, Nat.le_refl _, e, rfl⟩
    | false =>
      obtain ⟨j, hj, ej⟩ := fo_not f e
      obtain ⟨m, h1, h2, h3⟩ := ih j hj
      exact ⟨m, by omega, h2, h3.trans ej⟩
def fl (a b : Nat) : List Nat := (List.range' a (b - a)).filter (fo f)
theorem fl_mem {a b n : Nat} : n ∈ fl f a b ↔ a ≤ n ∧ n < b ∧ fo f n = true := by
  unfold fl
  rw [List.mem_filter, List.mem_range'_1]
  constructor
  · rintro ⟨⟨h1, h2⟩, h3⟩
    exact ⟨h1, by omega, h3⟩
  · rintro ⟨h1, h2, h3⟩
    exact ⟨⟨h1, by omega⟩, h3⟩
theorem fl_nil {a b : Nat} (h : b ≤ a) : fl f a b = [] := by
  unfold fl
  rw [show b - a = 0 by omega]
  rfl
theorem fl_app {a b c : Nat} (h1 : a ≤ b) (h2 : b ≤ c) : fl f a c = fl f a b ++ fl f b c := by
  unfold fl
  have e : List.range' a (c - a) = List.range' a (b - a) ++ List.range' b (c - b) := by
    have := List.range'_append (s := a) (m := b - a) (n := c - b) (step := 1)
    rw [Nat.one_mul, show a + (b - a) = b by omega, show b - a + (c - b) = c - a by omega] at this
    exact this.symm
  rw [e, List.filter_append]
theorem fl_one {a : Nat} : fl f a (a + 1) = if fo f a = true then [a] else [] := by
  unfold fl
  rw [show a + 1 - a = 1 by omega]
  show (List.range' a 1).filter (fo f) = _
  rw [show List.range' a 1 = [a] from rfl, List.filter_cons, List.filter_nil]
theorem fl_skip {a b c : Nat} (h1 : a ≤ b) (h2 : b ≤ c) (h : ∀ n, b ≤ n → n < c → fo f n = false) : fl f a c = fl f a b := by
  rw [fl_app f h1 h2]
  have : fl f b c = [] := by
    rw [List.eq_nil_iff_forall_not_mem]
    intro n hn
    obtain ⟨q1, q2, q3⟩ := (fl_mem f).mp hn
    rw [h n q1 q2] at q3
    cases q3
  rw [this, List.append_nil]
theorem fl_empty {a b : Nat} (h : (fl f a b).length = 0) {n : Nat} (h1 : a ≤ n) (h2 : n < b) : fo f n = false := by
  cases e : fo f n with
  | false => rfl
  | true =>
    have := (fl_mem f).mpr ⟨h1, h2, e⟩
    rw [List.length_eq_zero_iff.mp h] at this
    cases this
theorem fl_sorted (a b : Nat) : (fl f a b).Pairwise (· < ·) := by
  unfold fl
  exact List.Pairwise.filter _ List.pairwise_lt_range'
theorem fl_nodup (a b : Nat) : ((fl f a b).map f).Nodup := by
  show List.Pairwise (· ≠ ·) _
  rw [List.pairwise_map]
  refine List.Pairwise.imp_of_mem (fun {x y} hx hy h => ?_) (fl_sorted f a b)
  exact (fo_iff f).mp ((fl_mem f).mp hy).2.2 x h
/-- it is new just if it is not among the earlier ones, each told by its first place -/
theorem fo_by {n a : Nat} (h : a ≤ n) : fo f n = true ↔ (∀ j ∈ fl f 0 a, f j ≠ f n) ∧ ∀ j ∈ fl f a n, f j ≠ f n := by
  rw [fo_iff]
  constructor
  · intro q
    exact ⟨fun j hj => q j (by have := (fl_mem f).mp hj; omega), fun j hj => q j (by have := (fl_mem f).mp hj; omega)⟩
  · rintro ⟨q1, q2⟩ j hj e
    obtain ⟨m, h1, h2, h3⟩ := fo_rep f j
    rcases Nat.lt_or_ge m a with z | z
    · exact q1 m ((fl_mem f).mpr ⟨Nat.zero_le _, z, h2⟩) (h3.trans e)
    · exact q2 m ((fl_mem f).mpr ⟨z, by omega, h2⟩) (h3.trans e)
end

/-! ### words by their numbers: b n + 1 + f is the word n and the figure f -/
def wdN (b : Nat) (n : Nat) : List Int := if h : n = 0 ∨ b = 0 then [] else wdN b ((n - 1) / b) ++ [(((n - 1) % b : Nat) : Int)]
termination_by n
decreasing_by
  have := Nat.div_le_self (n - 1) b
  omega
def nxN (b : Nat) (fs : List Int) : Nat := fs.foldl (fun n f => b * n + 1 + f.toNat) 0
theorem nxN_snoc (b : Nat) (fs : List Int) (f : Int) : nxN b (fs ++ [f]) = b * nxN b fs + 1 + f.toNat := by
  unfold nxN
  rw [List.foldl_append]
  rfl
theorem wdN_zero (b : Nat) : wdN b 0 = [] := by
  unfold wdN
  rw [dif_pos (.inl rfl)]
theorem wdN_step {b n f : Nat} (hf : f < b) : wdN b (b * n + 1 + f) = wdN b n ++ [(f : Int)] := by
  rw [wdN, dif_neg (by omega)]
  have e1 : (b * n + 1 + f - 1) / b = n := by
    rw [show b * n + 1 + f - 1 = b * n + f by omega, Nat.mul_add_div (by omega), Nat.div_eq_of_lt hf, Nat.add_zero]
  have e2 : (b * n + 1 + f - 1) % b = f := by
    rw [show b * n + 1 + f - 1 = b * n + f by omega, Nat.mul_add_mod, Nat.mod_eq_of_lt hf]
  rw [e1, e2]
theorem parent {b n : Nat} (hb : 0 < b) (hn : 0 < n) : ∃ p f, f < b ∧ n = b * p + 1 + f ∧ p < n := by
  refine ⟨(n - 1) / b, (n - 1) % b, Nat.mod_lt _ hb, ?_, ?_⟩
  · have := Nat.div_add_mod (n - 1) b
    omega
  · have := Nat.div_le_self (n - 1) b
    omega
theorem wdN_fig {b : Nat} (hb : 0 < b) : ∀ n, ∀ f ∈ wdN b n, 0 ≤ f ∧ f < (b : Int) := by
  intro n
  induction n using Nat.strongRecOn with
  | ind n ih =>
    intro f hf
    rcases Nat.eq_zero_or_pos n with z | z
    · rw [z, wdN_zero] at hf
      cases hf
    · obtain ⟨p, g, hg, e, hp⟩ := parent hb z
      rw [e, wdN_step hg] at hf
      rcases List.mem_append.mp hf with q | q
      · exact ih p hp f q
      · rw [List.mem_singleton.mp q]
        omega
theorem wdN_nx {b : Nat} (hb : 0 < b) : ∀ (k : Nat) (fs : List Int), fs.length = k → (∀ f ∈ fs, 0 ≤ f ∧ f < (b : Int)) → wdN b (nxN b fs) = fs
  | 0, fs, h, _ => by
    rw [List.length_eq_zero_iff.mp h]
    exact wdN_zero b
  | k + 1, fs, h, hf => by
    rcases List.eq_nil_or_concat fs with e | ⟨gs, f, e⟩
    · rw [e] at h
      cases h
    · subst e
      have e1 : gs.concat f = gs ++ [f] := List.concat_eq_append
      rw [e1] at h hf ⊢
      have ff := hf f (List.mem_append_right _ List.mem_cons_self)
      rw [nxN_snoc, wdN_step (by omega), wdN_nx hb k gs (by simpa using h) fun g hg => hf g (List.mem_append_left _ hg), Int.toNat_of_nonneg ff.1]
/-- shorter words have smaller numbers, of words of one length the lesser ones -/
theorem nx_le_len {b : Nat} (hb : 0 < b) : ∀ (k : Nat) (fs gs : List Int), fs.length + gs.length ≤ k → (∀ f ∈ fs, 0 ≤ f ∧ f < (b : Int)) → (∀ f ∈ gs, 0 ≤ f ∧ f < (b : Int)) → fs.length < gs.length → nxN b fs < nxN b gs
  | 0, fs, gs, h, _, _, l => by omega
  | k + 1, fs, gs, h, hf, hg, l => by
    rcases List.eq_nil_or_concat gs with e | ⟨gs', g, e⟩
    · rw [e] at l
      exact absurd l (Nat.not_lt_zero _)
    · have e1 : gs'.concat g = gs' ++ [g] := List.concat_eq_append
      rw [e1] at e
      subst e
      rw [nxN_snoc]
      rcases List.eq_nil_or_concat fs with e | ⟨fs', f, e⟩
      · rw [e]
        show 0 < _
        omega
      · have e2 : fs'.concat f = fs' ++ [f] := List.concat_eq_append
        rw [e2] at e
        subst e
        rw [nxN_snoc]
        have ff := hf f (List.mem_append_right _ List.mem_cons_self)
        rw [List.length_append, List.length_append, List.length_singleton, List.length_singleton] at l h
        have ih := nx_le_len hb k fs' gs' (by omega) (fun x hx => hf x (List.mem_append_left _ hx)) (fun x hx => hg x (List.mem_append_left _ hx)) (by omega)
        have : b * (nxN b fs' + 1) ≤ b * nxN b gs' := Nat.mul_le_mul_left _ ih
        rw [Nat.mul_succ] at this
        omega
/-- the word n read from two states -/
def ptN (b : Nat) (S : List (List Int)) (s1 s2 : Nat) (n : Nat) : Pr := (((runS S s1 (wdN b n) : Nat) : Int), ((runS S s2 (wdN b n) : Nat) : Int))
theorem ptN_step {b : Nat} {S : List (List Int)} {s1 s2 n f : Nat} (hf : f < b) : ptN b S s1 s2 (b * n + 1 + f) = (((goS S (ptN b S s1 s2 n).1.toNat (f : Int) : Nat) : Int), ((goS S (ptN b S s1 s2 n).2.toNat (f : Int) : Nat) : Int)) := by
  unfold ptN
  rw [wdN_step hf, runS_snoc, runS_snoc]
  rfl
section
variable {b : Nat} {S : List (List Int)} {s1 s2 : Nat}
theorem fo_child {n f : Nat} (hf : f < b) (h : fo (ptN b S s1 s2) n = false) : fo (ptN b S s1 s2) (b * n + 1 + f) = false := by
  obtain ⟨j, hj, e⟩ := fo_not _ h
  cases q : fo (ptN b S s1 s2) (b * n + 1 + f) with
  | false => rfl
  | true =>
    refine absurd ?_ ((fo_iff _).mp q (b * j + 1 + f) ?_)
    · rw [ptN_step hf, ptN_step hf, e]
    · have : b * (j + 1) ≤ b * n := Nat.mul_le_mul_left _ hj
      rw [Nat.mul_succ] at this
      omega
theorem fl_skipN {c n : Nat} (hb : 0 < b) (h : c ≤ n) (q : ∀ m, c ≤ m → m < n → fo (ptN b S s1 s2) m = false) (a : Nat) (ha : a ≤ b * c + 1) : fl (ptN b S s1 s2) a (b * n + 1) = fl (ptN b S s1 s2) a (b * c + 1) := by
  have m1 : b * c ≤ b * n := Nat.mul_le_mul_left _ h
  refine fl_skip _ ha (by omega) fun m h1 h2 => ?_
  obtain ⟨p, f, hf, e, _⟩ := parent hb (show 0 < m by omega)
  subst e
  refine fo_child hf (q p ?_ ?_)
  · refine Nat.le_of_not_lt fun z => ?_
    have : b * (p + 1) ≤ b * c := Nat.mul_le_mul_left _ z
    rw [Nat.mul_succ] at this
    omega
  · refine Nat.lt_of_not_le fun z => ?_
    have : b * n ≤ b * p := Nat.mul_le_mul_left _ z
    omega
theorem fl_out {lo : Nat} (hb : 0 < b) (h : fl (ptN b S s1 s2) lo (b * lo + 1) = []) : ∀ n, lo ≤ n → fo (ptN b S s1 s2) n = false := by
  intro n
  induction n using Nat.strongRecOn with
  | ind n ih =>
    intro hn
    rcases Nat.lt_or_ge n (b * lo + 1) with z | z
    · exact fl_empty _ (by rw [h]; rfl) hn z
    · obtain ⟨p, f, hf, e, hp⟩ := parent hb (show 0 < n by omega)
      have : lo ≤ p := by
        refine Nat.le_of_not_lt fun y => ?_
        have : b * (p + 1) ≤ b * lo := Nat.mul_le_mul_left _ y
        rw [Nat.mul_succ] at this
        omega
      rw [e]
      exact fo_child hf (ih p hp this)
theorem wd_len (hb : 0 < b) : ∀ n, fo (ptN b S s1 s2) n = true → (wdN b n).length < (fl (ptN b S s1 s2) 0 (n + 1)).length := by
  intro n
  induction n using Nat.strongRecOn with
  | ind n ih =>
    intro hn
    have e1 : fl (ptN b S s1 s2) 0 (n + 1) = fl (ptN b S s1 s2) 0 n ++ [n] := by
      rw [fl_app _ (Nat.zero_le n) (Nat.le_succ n), fl_one, if_pos hn]
    rw [e1, List.length_append, List.length_singleton]
    rcases Nat.eq_zero_or_pos n with z | z
    · rw [z, wdN_zero]
      exact Nat.succ_pos _
    · obtain ⟨p, f, hf, e, hp⟩ := parent hb z
      have fp : fo (ptN b S s1 s2) p = true := by
        cases q : fo (ptN b S s1 s2) p with
        | true => rfl
        | false =>
          rw [e, fo_child hf q] at hn
          cases hn
      have := ih p hp fp
      have e2 : fl (ptN b S s1 s2) 0 n = fl (ptN b S s1 s2) 0 (p + 1) ++ fl (ptN b S s1 s2) (p + 1) n := fl_app _ (Nat.zero_le _) hp
      rw [e2, List.length_append]
      have e3 : (wdN b n).length = (wdN b p).length + 1 := by rw [e, wdN_step hf, List.length_append]; rfl
      omega
end
theorem fl_head {f : Nat → Pr} {c hi n : Nat} {rest : List Nat} (h : fl f c hi = n :: rest) : c ≤ n ∧ n < hi ∧ fo f n = true ∧ (∀ m, c ≤ m → m < n → fo f m = false) ∧ rest = fl f (n + 1) hi := by
  have hn : n ∈ fl f c hi := by rw [h]; exact List.mem_cons_self
  obtain ⟨h1, h2, h3⟩ := (fl_mem f).mp hn
  have e : fl f c hi = fl f c n ++ (fl f n (n + 1) ++ fl f (n + 1) hi) := by
    rw [← fl_app f (Nat.le_succ n) (show n + 1 ≤ hi from h2), ← fl_app f h1 (Nat.le_of_lt h2)]
  have s := fl_sorted f c hi
  rw [h] at s
  have z : fl f c n = [] := by
    cases q : fl f c n with
    | nil => rfl
    | cons x l =>
      exfalso
      have hx : x ∈ fl f c n := by rw [q]; exact List.mem_cons_self
      have := ((fl_mem f).mp hx).2.1
      rw [q, h] at e
      have : n = x := (List.cons.inj e).1
      omega
  rw [z, List.nil_append, fl_one, if_pos h3, h] at e
  exact ⟨h1, h2, h3, fun m q1 q2 => fl_empty f (by rw [z]; rfl) q1 q2, (List.cons.inj e).2⟩
/-- the number of the least word of all that lead to unlike labels -/
def unlikeN (told : List Int) (g : Pr) : Bool := decide (told.getD g.1.toNat 0 ≠ told.getD g.2.toNat 0)
def LeastN (un : Nat → Bool) : Option Nat → Prop
  | none => ∀ n, un n = false
  | some n => un n = true ∧ ∀ m, m < n → un m = false
theorem un_rep {f : Nat → Pr} {u : Pr → Bool} {c n : Nat} (h : ∀ m, m < c → u (f m) = false) (q : ∀ m, c ≤ m → m ≤ n → fo f m = false) : u (f n) = false := by
  obtain ⟨m, h1, h2, h3⟩ := fo_rep f n
  rw [← h3]
  refine h m (Nat.lt_of_not_le fun z => ?_)
  rw [q m z h1] at h2
  cases h2

/-! ### the least word -/
def boxN (N : Nat) : List Pr := (List.range (N * N)).map fun (k : Nat) => (((k / N : Nat) : Int), ((k % N : Nat) : Int))
theorem mem_boxN {N : Nat} {q : Pr} (h : 0 ≤ q.1 ∧ q.1 < N ∧ 0 ≤ q.2 ∧ q.2 < N) : q ∈ boxN N := by
  obtain ⟨h1, h2, h3, h4⟩ := h
  have l1 : q.1.toNat < N := by omega
  have l2 : q.2.toNat < N := by omega
  have np : 0 < N := by omega
  unfold boxN
  refine List.mem_map.mpr ⟨N * q.1.toNat + q.2.toNat, List.mem_range.mpr ?_, ?_⟩
  · calc N * q.1.toNat + q.2.toNat < N * q.1.toNat + N := by omega
      _ = N * (q.1.toNat + 1) := by rw [Nat.mul_succ]
      _ ≤ N * N := Nat.mul_le_mul_left _ l1
  · rw [Nat.mul_add_div np, Nat.div_eq_of_lt l2, Nat.mul_add_mod, Nat.mod_eq_of_lt l2, Nat.add_zero, Int.toNat_of_nonneg h1, Int.toNat_of_nonneg h3]
theorem atI_int {xs : List Int} {i : Int} (h0 : 0 ≤ i) (h1 : i < (xs.length : Int)) : atI (xs.map V.int) i = some (.int (xs.getD i.toNat 0)) := by
  have l : i.toNat < xs.length := by omega
  have := atI_nat (xs := xs.map V.int) (j := i.toNat) (v := .int (xs.getD i.toNat 0)) (by rw [List.getElem?_map, List.getD_eq_getElem?_getD, List.getElem?_eq_getElem l]; rfl)
  rwa [Int.toNat_of_nonneg h0] at this
theorem go_eq {S : List (List Int)} {s : Nat} {row : List Int} {i : Nat} {j : Int} (h : S[s]? = some row) (h2 : row[i]? = some j) (j0 : 0 ≤ j) : ((goS S s (i : Int) : Nat) : Int) = j := by
  have e : S.getD s [] = row := by
    rw [List.getD_eq_getElem?_getD, h]
    rfl
  unfold goS
  rw [e, Int.toNat_natCast, List.getD_eq_getElem?_getD, h2]
  exact Int.toNat_of_nonneg j0
theorem pt_bd {b : Nat} {S : List (List Int)} {s1 s2 : Nat} (g : GoodS (b : Int) S) (hb : 0 < b) (l1 : s1 < S.length) (l2 : s2 < S.length) (n : Nat) : 0 ≤ (ptN b S s1 s2 n).1 ∧ (ptN b S s1 s2 n).1 < S.length ∧ 0 ≤ (ptN b S s1 s2 n).2 ∧ (ptN b S s1 s2 n).2 < S.length := by
  have h1 := runS_lt g l1 (fs := wdN b n) (wdN_fig hb n)
  have h2 := runS_lt g l2 (fs := wdN b n) (wdN_fig hb n)
  unfold ptN
  refine ⟨?_, ?_, ?_, ?_⟩
  · exact Int.natCast_nonneg _
  · exact Int.ofNat_lt.mpr h1
  · exact Int.natCast_nonneg _
  · exact Int.ofNat_lt.mpr h2
theorem fl_le {f : Nat → Pr} {N : Nat} (h : ∀ n, 0 ≤ (f n).1 ∧ (f n).1 < N ∧ 0 ≤ (f n).2 ∧ (f n).2 < N) (a c : Nat) : (fl f a c).length ≤ N * N := by
  have q := pigL (boxN N) ((fl f a c).map f) (fl_nodup _ a c) fun q hq => by
    obtain ⟨n, _, rfl⟩ := List.mem_map.mp hq
    exact mem_boxN (h n)
  rw [List.length_map] at q
  unfold boxN at q
  rwa [List.length_map, List.length_range] at q
/-- the words found -/
structure WF (f : Nat → Pr) (b : Nat) (H : Hp) (kvs : List (List Key × V)) (P : Nat) : Prop where
  len : kvs.length = (fl f 0 P).length
  at_ : ∀ n ∈ fl f 0 P, ∃ u : Addr, valV kvs (kp (f n)) = some (.ref u) ∧ H u = some (.tup ((wdN b n).map V.int))
  out : ∀ g : Pr, (∀ n ∈ fl f 0 P, f n ≠ g) → valV kvs (kp g) = none
section
variable {f : Nat → Pr} {b : Nat} {H : Hp} {kvs : List (List Key × V)} {P : Nat}
theorem WF.same (h : WF f b H kvs P) {H2 : Hp} (s : ∀ u ys, H u = some (.tup ys) → H2 u = some (.tup ys)) : WF f b H2 kvs P :=
  ⟨h.len, fun n hn => let ⟨u, a, c⟩ := h.at_ n hn; ⟨u, a, s _ _ c⟩, h.out⟩
theorem fl_next (f : Nat → Pr) (P : Nat) {a : Nat} (ha : a ≤ P) : fl f a (P + 1) = fl f a P ++ if fo f P = true then [P] else [] := by
  rw [fl_app f ha (Nat.le_succ P), fl_one]
theorem WF.none (h : WF f b H kvs P) (hf : fo f P = true) : valV kvs (kp (f P)) = Option.none :=
  h.out _ fun n hn => (fo_iff f).mp hf n ((fl_mem f).mp hn).2.1
theorem WF.some (h : WF f b H kvs P) (hf : fo f P = false) : ∃ u : Addr, valV kvs (kp (f P)) = Option.some (.ref u) := by
  obtain ⟨j, hj, e⟩ := fo_not f hf
  obtain ⟨m, h1, h2, h3⟩ := fo_rep f j
  obtain ⟨u, hu, _⟩ := h.at_ m ((fl_mem f).mpr ⟨Nat.zero_le _, by omega, h2⟩)
  rw [h3, e] at hu
  exact ⟨u, hu⟩
theorem WF.keep (h : WF f b H kvs P) (hf : fo f P = false) : WF f b H kvs (P + 1) := by
  have e : fl f 0 (P + 1) = fl f 0 P := by
    rw [fl_next f P (Nat.zero_le _), hf]
    exact List.append_nil _
  obtain ⟨h1, h2, h3⟩ := h
  exact ⟨by rw [e]; exact h1, by rw [e]; exact h2, by rw [e]; exact h3⟩
theorem WF.put (h : WF f b H kvs P) (hf : fo f P = true) {u : Addr} (hu : H u = Option.some (.tup ((wdN b P).map V.int))) : WF f b H (putK kvs (kp (f P)) (.ref u)) (P + 1) := by
  have e : fl f 0 (P + 1) = fl f 0 P ++ [P] := by rw [fl_next f P (Nat.zero_le _), if_pos hf]
  have hn := h.none hf
  refine ⟨by rw [putK_new _ hn, List.length_append, e, List.length_append, h.len]; rfl, fun n hm => ?_, fun g hg => ?_⟩
  · rw [e] at hm
    rcases List.mem_append.mp hm with q | q
    · obtain ⟨u2, a, c⟩ := h.at_ n q
      have ne : f n ≠ f P := (fo_iff f).mp hf n ((fl_mem f).mp q).2.1
      exact ⟨u2, by rw [valV_put, if_neg (fun z => ne (kp_inj z))]; exact a, c⟩
    · rw [List.mem_singleton.mp q]
      exact ⟨u, by rw [valV_put, if_pos rfl], hu⟩
  · rw [e] at hg
    have ne : g ≠ f P := fun z => hg P (List.mem_append_right _ List.mem_cons_self) z.symm
    rw [valV_put, if_neg (fun z => ne (kp_inj z))]
    exact h.out g fun n q => hg n (List.mem_append_left _ q)
/-- the pairs of the words ns -/
def PsA (f : Nat → Pr) (H : Hp) : List Addr → List Nat → Prop
  | [], [] => True
  | t :: ts, n :: ns => H t = Option.some (.tup [.int (f n).1, .int (f n).2]) ∧ PsA f H ts ns
  | _, _ => False
theorem PsA.of {H2 : Hp} (s : ∀ u ys, H u = Option.some (.tup ys) → H2 u = Option.some (.tup ys)) : ∀ {ts : List Addr} {ns : List Nat}, PsA f H ts ns → PsA f H2 ts ns
  | [], [], _ => trivial
  | _ :: _, _ :: _, ⟨h, r⟩ => ⟨s _ _ h, r.of s⟩
  | [], _ :: _, h => h.elim
  | _ :: _, [], h => h.elim
theorem PsA.len : ∀ {ts : List Addr} {ns : List Nat}, PsA f H ts ns → ts.length = ns.length
  | [], [], _ => rfl
  | _ :: _, _ :: _, ⟨_, r⟩ => congrArg Nat.succ r.len
  | [], _ :: _, h => h.elim
  | _ :: _, [], h => h.elim
theorem PsA.at : ∀ {ts : List Addr} {ns : List Nat}, PsA f H ts ns → ∀ {i : Nat} {t : Addr}, ts[i]? = Option.some t → ∃ n, ns[i]? = Option.some n ∧ H t = Option.some (.tup [.int (f n).1, .int (f n).2])
  | [], [], _, i, t, h => by cases h
  | _ :: _, n :: _, ⟨h1, _⟩, 0, t, h => by
    cases h
    exact ⟨n, rfl, h1⟩
  | _ :: _, _ :: _, ⟨_, h3⟩, i + 1, t, h => h3.at (i := i) h
  | [], _ :: _, h, _, _, _ => h.elim
  | _ :: _, [], h, _, _, _ => h.elim
theorem PsA.snoc {q : Addr} {m : Nat} (hq : H q = Option.some (.tup [.int (f m).1, .int (f m).2])) : ∀ {ts : List Addr} {ns : List Nat}, PsA f H ts ns → PsA f H (ts ++ [q]) (ns ++ [m])
  | [], [], _ => ⟨hq, trivial⟩
  | _ :: _, _ :: _, ⟨h1, h3⟩ => ⟨h1, h3.snoc hq⟩
  | [], _ :: _, h => h.elim
  | _ :: _, [], h => h.elim
end
/-- the heap of the search: words at e, the pairs in work at a, the further ones at u -/
structure LF (f : Nat → Pr) (b : Nat) (H0 H : Hp) (e a u : Addr) (P lo hi : Nat) (ps fps : List Addr) : Prop where
  same : Same H0 H
  new : H0 e = none ∧ H0 u = none
  au : a ≠ u
  le : hi ≤ P
  words : ∃ kvs, H e = some (.dT kvs) ∧ WF f b H kvs P
  old : H a = some (.lst (ps.map V.ref)) ∧ PsA f H ps (fl f lo hi)
  fur : H u = some (.lst (fps.map V.ref)) ∧ PsA f H fps (fl f hi P)
section
variable {f : Nat → Pr} {b : Nat} {H0 H H' : Hp} {e a u : Addr} {P lo hi : Nat} {ps fps : List Addr}
theorem LF.ext (h : LF f b H0 H e a u P lo hi ps fps) (s : Same H H') : LF f b H0 H' e a u P lo hi ps fps := by
  obtain ⟨h1, h2, h3, hl, ⟨kvs, k1, k2⟩, h4, h5⟩ := h
  exact ⟨h1.trans s, h2, h3, hl, ⟨kvs, s _ _ k1, k2.same (fun _ _ g => s _ _ g)⟩, ⟨s _ _ h4.1, h4.2.of fun _ _ g => s _ _ g⟩, ⟨s _ _ h5.1, h5.2.of fun _ _ g => s _ _ g⟩⟩
theorem LF.keep (h : LF f b H0 H e a u P lo hi ps fps) (hf : fo f P = false) : LF f b H0 H e a u (P + 1) lo hi ps fps := by
  obtain ⟨h1, h2, h3, hl, ⟨kvs, k1, k2⟩, h4, h5⟩ := h
  refine ⟨h1, h2, h3, by omega, ⟨kvs, k1, k2.keep hf⟩, h4, ⟨h5.1, ?_⟩⟩
  rw [fl_next f P hl, hf]
  show PsA f H fps (fl f hi P ++ [])
  rw [List.append_nil]
  exact h5.2
theorem LF.shift (h : LF f b H0 H e a u P lo hi ps fps) {P2 : Nat} (hP : P ≤ P2) (e0 : fl f 0 P2 = fl f 0 P) (e1 : fl f hi P2 = fl f hi P) : LF f b H0 H e a u P2 lo hi ps fps := by
  obtain ⟨h1, h2, h3, hl, ⟨kvs, k1, k2⟩, h4, h5⟩ := h
  exact ⟨h1, h2, h3, by omega, ⟨kvs, k1, ⟨by rw [e0]; exact k2.len, by rw [e0]; exact k2.at_, by rw [e0]; exact k2.out⟩⟩, h4, ⟨h5.1, by rw [e1]; exact h5.2⟩⟩
theorem LF.reach (h : LF f b H0 H e a u P lo hi ps fps) {kvs : List (List Key × V)} (he : H e = some (.dT kvs)) (hf : fo f P = true) {t w : Addr}
    (ht : H t = some (.tup [.int (f P).1, .int (f P).2])) (hfs : H w = some (.tup ((wdN b P).map V.int))) :
    LF f b H0 (upd (upd H e (.dT (putK kvs (kp (f P)) (.ref w)))) u (.lst (fps.map V.ref ++ [.ref t]))) e a u (P + 1) lo hi ps (fps ++ [t]) := by
  obtain ⟨h1, h2, h3, hl, ⟨kvs2, k1, k2⟩, h4, h5⟩ := h
  rw [he] at k1
  cases k1
  have eu : e ≠ u := fun q => by rw [q, h5.1] at he; cases he
  have tup : ∀ (c : Addr) (ys : List V), H c = some (.tup ys) → upd (upd H e (.dT (putK kvs (kp (f P)) (.ref w)))) u (.lst (fps.map V.ref ++ [.ref t])) c = some (.tup ys) := fun c ys g => by
    rw [upd_ne (fun q => by rw [q, h5.1] at g; cases g), upd_ne (fun q => by rw [q, he] at g; cases g)]
    exact g
  refine ⟨fun c o g => ?_, h2, h3, by omega, ⟨_, by rw [upd_ne eu, upd_same], (k2.put hf hfs).same tup⟩, ⟨?_, h4.2.of tup⟩, ⟨by rw [upd_same, List.map_append]; rfl, ?_⟩⟩
  · rw [upd_ne (ne_of_none g h2.2), upd_ne (ne_of_none g h2.1)]
    exact h1 _ _ g
  · rw [upd_ne h3, upd_ne (fun q => by have g := h4.1; rw [q, he] at g; cases g)]
    exact h4.1
  · rw [fl_next f P hl, if_pos hf]
    exact (h5.2.of tup).snoc (tup _ _ ht)
end
def spLeast (K : PySem.W.Frag) : Sp := fun vs H Q _ => ∃ (q : Addr) (told : List Int) (S : List (List Int)) (b s1 s2 : Nat), vs = [.ref q, .int (s1 : Nat), .int (s2 : Nat)] ∧ MachAt H q told S ∧ GoodS (b : Int) S ∧ told.length = S.length ∧ S.length ≤ 400 ∧ 1 ≤ b ∧ b ≤ 16 ∧ s1 < S.length ∧ s2 < S.length ∧
  ∀ (r : Option Nat) (v : V) (H' : Hp), LeastN (fun n => unlikeN told (ptN b S s1 s2 n)) r → Same H H' → (r = none → v = .non) → (∀ n, r = some n → ∃ u : Addr, v = .ref u ∧ H' u = some (.tup ((wdN b n).map V.int)) ∧ (wdN b n).length < 160000) → Q v H'
theorem ok_least_word (T : Tx P K mg) : FnOk P w K mg base CX0 lv_least_word T.a_least_word T.d_least_word ["machine", "one", "other"] (spLeast K) := by
  refine T.F_least_word.ok sc_least_word (fun vs H Q E h => ?_) (fun cdv A outer s H vs Q E hr h => ?_)
  · obtain ⟨q, told, S, b, s1, s2, rfl, _⟩ := h
    rfl
  · obtain ⟨q, told, S, b, s1, s2, rfl, m, g, tl, sl, b0, b1, l1, l2, k⟩ := h
    obtain ⟨x, y, rs, m1, m2, m3, m4⟩ := m.row
    have bd := pt_bd g b0 l1 l2
    have p0 : ptN b S s1 s2 0 = (((s1 : Nat) : Int), ((s2 : Nat) : Int)) := by
      unfold ptN
      rw [wdN_zero]
      rfl
    have f0 : fo (ptN b S s1 s2) 0 = true := (fo_iff _).mpr fun j hj => absurd hj (Nat.not_lt_zero _)
    have fl01 : fl (ptN b S s1 s2) 0 1 = [0] := by rw [fl_one, if_pos f0]
    refine ⟨_, (pss_cons (ps_asg (pv 0) (pg_tup rfl (pgs_cons (pg_name (i := 3) sc_least_word.nd rfl (Or.inl rfl)) (pgs_cons (pg_name (i := 4) sc_least_word.nd rfl (Or.inl rfl)) pgs_nil))))
      (pss_cons (ps_set (i := 5) sc_least_word.nd rfl (Or.inl rfl) (pe_disp1T (hu_of hr) (pe_tup (pa_cons (pv 1) (pa_cons (pv 2) pa_nil))) (pe_tup pa_nil)))
      (pss_cons (ps_set (i := 6) sc_least_word.nd rfl (Or.inl rfl) (pe_lst (pa_cons (pe_tup (pa_cons (pv 1) (pa_cons (pv 2) pa_nil))) pa_nil)))
      (pss_cons (ps_while PassesOwn.never (pt_truth (pv 6) (by intro _; rfl)) (pss_cons (ps_set (i := 7) sc_least_word.nd rfl (Or.inl rfl) (pe_lst pa_nil))
      (pss_cons (ps_for PassesOwn.never rfl (pi_list (pv 6)) (pg_tup rfl (pgs_cons (pg_name (i := 8) sc_least_word.nd rfl (Or.inl rfl)) (pgs_cons (pg_name (i := 9) sc_least_word.nd rfl (Or.inl rfl)) pgs_nil))) (pss_cons (ps_set (i := 10) sc_least_word.nd rfl (Or.inl rfl) (pe_dget (hu_of hr) (pv 5) (pe_tup (pa_cons (pv 8) (pa_cons (pv 9) pa_nil))) (fun _ _ => rfl)))
      (pss_cons (ps_if (pt_cmpR op_ne (pe_ix ix_list (pv 3) (pv 8) (fun _ _ => rfl)) (pe_ix ix_list (pv 3) (pv 9) (fun _ _ => rfl)) (nomark _)) (pss_one (ps_ret (pv 10))) pss_nil)
      (pss_one (ps_for PassesOwn.never rfl (pi_enumZ (by rfl) T.n_enumerate (by rfl) T.n_zip (pa_cons (pe_ix ix_list (pv 4) (pv 8) (fun _ _ => rfl)) (pa_cons (pe_ix ix_list (pv 4) (pv 9) (fun _ _ => rfl)) pa_nil))) (pg_tup rfl (pgs_cons (pg_name (i := 11) sc_least_word.nd rfl (Or.inl rfl)) (pgs_cons (pg_name (i := 12) sc_least_word.nd rfl (Or.inl rfl)) pgs_nil))) (pss_one (ps_if (pt_cmp (pc_dnotin (hu_of hr) (pv 12) (pv 5))) (pss_cons (ps_dput (hu_of hr) (pv 5) (pv 12) (pe_op op_catA (pv 10) (pe_tup (pa_cons (pv 11) pa_nil))) rfl)
      (pss_one (ps_expr (pe_bm PySem.F.plainAttrs_list PySem.F.slot_list_append PySem.F.type_list_append mt_append (pv 7) (pa_cons (pv 12) pa_nil))))) pss_nil)))))))
      (pss_one (ps_set (i := 6) sc_least_word.nd rfl (Or.inl rfl) (pv 7))))))
      (pss_one (ps_ret pe_non)))))), ?_⟩
    refine ⟨_, rfl, q, _, rfl, SqT.of m1, rfl, _, _, rfl, _, _, rfl, rfl, ?_⟩
    refine fun e he => ⟨_, rfl, _, rfl, by show 2 ≤ sizeLine; decide, fun t ht => ⟨Nat.zero_le _, fun u hu => ⟨?_, t, kp ((s1 : Nat), (s2 : Nat)), rfl, ?_, _, rfl, _, rfl, by show 2 ≤ sizeLine; decide, fun t2 ht2 => ⟨by show 1 ≤ sizeLine; decide, fun a ha => ?_⟩⟩⟩⟩
    · exact same_upd hu _ _ (same_upd ht _ _ upd_same)
    · exact same_upd hu _ _ upd_same
    · have kn : S.length * S.length ≤ 160000 := Nat.mul_le_mul sl sl
      have le : ∀ a c, (fl (ptN b S s1 s2) a c).length ≤ 160000 := fun a c => Nat.le_trans (fl_le bd a c) kn
      have hskip : ∀ (c n : Nat), c ≤ n → (∀ m, c ≤ m → m < n → fo (ptN b S s1 s2) m = false) → ∀ a, a ≤ b * c + 1 → fl (ptN b S s1 s2) a (b * n + 1) = fl (ptN b S s1 s2) a (b * c + 1) := fun c n h q a ha => fl_skipN b0 h q a ha
      have hout : ∀ lo, fl (ptN b S s1 s2) lo (b * lo + 1) = [] → ∀ n, lo ≤ n → fo (ptN b S s1 s2) n = false := fun lo h => fl_out b0 h
      have hwd : ∀ n, fo (ptN b S s1 s2) n = true → (wdN b n).length < 160000 := fun n h => Nat.lt_of_lt_of_le (wd_len b0 n h) (le _ _)
      have hst : ∀ n j, j < b → ptN b S s1 s2 (b * n + 1 + j) = (((goS S (ptN b S s1 s2 n).1.toNat (j : Int) : Nat) : Int), ((goS S (ptN b S s1 s2 n).2.toNat (j : Int) : Nat) : Int)) := fun n j h => ptN_step h
      generalize hf : ptN b S s1 s2 = f at *
      dsimp only [gName, tSeq]
      refine while_by (fun σ H2 => ∃ (a : Addr) (ps : List Addr) (kvs : List (List Key × V)) (lo : Nat) (v7 v8 v9 v10 v11 v12 : Option V), Same H H2 ∧ H e = none ∧ H2 e = some (.dT kvs) ∧ WF f b H2 kvs (b * lo + 1) ∧ H2 a = some (.lst (ps.map V.ref)) ∧ PsA f H2 ps (fl f lo (b * lo + 1)) ∧ (∀ n, n < lo → unlikeN told (f n) = false) ∧ σ = [some (.ref q), some (.int (s1 : Nat)), some (.int (s2 : Nat)), some (.ref x), some (.ref y), some (.ref e), some (.ref a), v7, v8, v9, v10, v11, v12])
        (fun (σ : L2.St) (H2 : Hp) => (match H2 e with | some (.dT kvs) => 2 * (160000 - kvs.length) | _ => 0) + (match (σ[6]? : Option (Option V)) with | some (some (V.ref a2)) => (match H2 a2 with | some (.lst []) => 0 | _ => 1) | _ => 0)) ?_ ?_ ?_
      · have e2 := same_upd (o := .tup [.int (s1 : Nat), .int (s2 : Nat)]) ht _ _ (upd_same (H := H) (a := e) (o := .dT []))
        have eu : e ≠ u := ne_of_none e2 hu
        have S3 := ((same_upd (o := .dT []) he).trans (same_upd (o := .tup [.int (s1 : Nat), .int (s2 : Nat)]) ht)).trans (same_upd (o := .tup []) hu)
        have u3 : (upd (upd (upd H e (.dT [])) t (.tup [.int (s1 : Nat), .int (s2 : Nat)])) u (.tup [])) u = some (.tup []) := upd_same
        generalize (upd (upd (upd H e (HO.dT [])) t (HO.tup [V.int (s1 : Nat), V.int (s2 : Nat)])) u (HO.tup [])) = H3 at S3 u3 ht2 ha ⊢
        have S4 : Same H (upd H3 e (.dT [(kp ((s1 : Nat), (s2 : Nat)), .ref u)])) := fun c o g => by rw [upd_ne (ne_of_none g he)]; exact S3 _ _ g
        have u4 : (upd H3 e (.dT [(kp ((s1 : Nat), (s2 : Nat)), .ref u)])) u = some (.tup []) := by rw [upd_ne eu.symm]; exact u3
        have e4 : (upd H3 e (.dT [(kp ((s1 : Nat), (s2 : Nat)), .ref u)])) e = some (.dT [(kp ((s1 : Nat), (s2 : Nat)), .ref u)]) := upd_same
        generalize (upd H3 e (HO.dT [(kp ((s1 : Nat), (s2 : Nat)), V.ref u)])) = H4 at S4 u4 e4 ht2 ha ⊢
        have sm := (same_upd (o := .tup [.int (s1 : Nat), .int (s2 : Nat)]) ht2).trans (same_upd (o := .lst [.ref t2]) ha)
        refine ⟨a, [t2], _, 0, none, none, none, none, none, none, S4.trans sm, he, sm _ _ e4, ?_, upd_same, ?_, fun n hn => absurd hn (Nat.not_lt_zero _), rfl⟩
        · have w0 : WF f b (upd (upd H4 t2 (.tup [.int (s1 : Nat), .int (s2 : Nat)])) a (.lst [.ref t2])) [] 0 := ⟨by rw [fl_nil f (Nat.le_refl 0)]; rfl, fun n hn => (by rw [fl_nil f (Nat.le_refl 0)] at hn; cases hn), fun g _ => rfl⟩
          have w1 := w0.put f0 (u := u) (by rw [wdN_zero]; exact sm _ _ u4)
          rw [p0] at w1
          exact w1
        · rw [show b * 0 + 1 = 1 by omega, fl01]
          refine ⟨?_, trivial⟩
          rw [p0]
          exact same_upd ha _ _ upd_same
      · rintro σ H2 ⟨a, ps, kvs, lo, v7, v8, v9, v10, v11, v12, S2, fe, k1, k2, k3, k4, ku, rfl⟩
        refine ⟨_, rfl, _, .inl ⟨_, SqL.of k3, rfl⟩, ?_⟩
        cases ps with
        | nil =>
          have e0 : fl f lo (b * lo + 1) = [] := List.length_eq_zero_iff.mp k4.len.symm
          have o := hout lo e0
          exact k none _ _ (fun n => un_rep ku fun m h1 _ => o m h1) S2 (fun _ => rfl) (fun n e => nomatch e)
        | cons p0 pr =>
          obtain ⟨hi, ehi⟩ : ∃ hi, b * lo + 1 = hi := ⟨_, rfl⟩
          rw [ehi] at k2 k4
          have lohi : lo < hi := by
            have : 1 * lo ≤ b * lo := Nat.mul_le_mul_right _ b0
            omega
          refine ⟨Nat.zero_le _, fun u hu => ⟨_, rfl, a, rfl, ⟨_, SqL.of (same_upd hu _ _ k3)⟩, ?_⟩⟩
          have fu : H u = none := by
            rcases z : H u with _ | o
            · rfl
            · rw [S2 _ _ z] at hu; cases hu
          have lw0 : LF f b H (upd H2 u (.lst [])) e a u (b * lo + 1) lo hi (p0 :: pr) [] := by
            rw [ehi]
            exact ⟨S2.trans (same_upd hu), ⟨fe, fu⟩, ne_of_none k3 hu, Nat.le_refl _, ⟨kvs, same_upd hu _ _ k1, k2.same fun _ _ g => same_upd hu _ _ g⟩, ⟨same_upd hu _ _ k3, k4.of fun _ _ g => same_upd hu _ _ g⟩, ⟨upd_same, by rw [fl_nil f (Nat.le_refl hi)]; trivial⟩⟩
          generalize upd H2 u (HO.lst []) = H3 at lw0
          have hln : (p0 :: pr).length = (fl f lo hi).length := k4.len
          refine for_list (xs := (p0 :: pr).map V.ref) (fun i σ H4 => ∃ (c : Nat) (fps : List Addr) (v8 v9 v10 v11 v12 : Option V), lo ≤ c ∧ c ≤ hi ∧ (fl f lo hi).drop i = fl f c hi ∧ LF f b H H4 e a u (b * c + 1) lo hi (p0 :: pr) fps ∧ (∀ n, n < c → unlikeN told (f n) = false) ∧ σ = [some (.ref q), some (.int (s1 : Nat)), some (.int (s2 : Nat)), some (.ref x), some (.ref y), some (.ref e), some (.ref a), some (.ref u), v8, v9, v10, v11, v12]) ⟨lo, [], v8, v9, v10, v11, v12, Nat.le_refl _, Nat.le_of_lt lohi, rfl, lw0, ku, rfl⟩ (fun i σ H4 _ ⟨_, _, _, _, _, _, _, _, _, _, lw, _⟩ => SqL.of lw.old.1) ?_ ?_
          · clear lw0 ku k4 k3 k2 k1 S2
            rintro i xx σ H4 hx ⟨c, fps, v8, v9, v10, v11, v12, c1, c2, dr, lw, kc, rfl⟩
            rw [List.getElem?_map] at hx
            obtain ⟨tp, htp, rfl⟩ := Option.map_eq_some_iff.mp hx
            obtain ⟨n, hn, ep⟩ := lw.old.2.at htp
            have ln := (List.getElem?_eq_some_iff.mp hn).1
            have dr2 : fl f c hi = n :: (fl f lo hi).drop (i + 1) := by
              rw [← dr, List.drop_eq_getElem_cons ln]
              congr 1
              exact (List.getElem?_eq_some_iff.mp hn).2
            obtain ⟨n1, n2, n3, n4, n5⟩ := fl_head dr2
            have hkc : ∀ m, m < n → unlikeN told (f m) = false := fun m hm => by
              rcases Nat.lt_or_ge m c with z | z
              · exact kc m z
              · exact un_rep kc fun m2 q1 q2 => n4 m2 q1 (by omega)
            have mle : b * lo ≤ b * c := Nat.mul_le_mul_left _ c1
            have mle2 : b * c ≤ b * n := Nat.mul_le_mul_left _ n1
            have nb : 1 * n ≤ b * n := Nat.mul_le_mul_right _ b0
            have lwn := lw.shift (P2 := b * n + 1) (by omega) (hskip c n n1 n4 0 (Nat.zero_le _)) (hskip c n n1 n4 hi (by omega))
            obtain ⟨kvs4, w1, w2⟩ := id lwn.words
            obtain ⟨wd, ev, hwdd⟩ := w2.at_ n ((fl_mem f).mpr ⟨Nat.zero_le _, by omega, n3⟩)
            have pd := bd n
            have hgo := hst n
            have hlw := hwd n n3
            generalize hp : f n = p at *
            clear lw
            refine ⟨tp, _, rfl, SqT.of ep, rfl, _, _, rfl, _, _, rfl, rfl, ?_⟩
            refine ⟨_, rfl, _, rfl, _, rfl, by show 2 ≤ sizeLine; decide, fun kt hkt => ⟨e, .ref wd, rfl, by rw [← ev]; exact DGet.t (same_upd hkt _ _ w1) upd_same, ?_⟩⟩
            have lw5 := lwn.ext (same_upd (o := .tup [.int p.1, .int p.2]) hkt)
            have hwd5 := same_upd (o := .tup [.int p.1, .int p.2]) hkt _ _ hwdd
            generalize upd H4 kt (HO.tup [V.int p.1, V.int p.2]) = H5 at lw5 hwd5
            have B5 := lw5.same
            have ta := atI_int (xs := told) (i := p.1) pd.1 (by omega)
            have tb := atI_int (xs := told) (i := p.2) pd.2.2.1 (by omega)
            refine ⟨_, rfl, _, rfl, x, _, _, _, rfl, rfl, SqL.of (B5 _ _ m2), ta, _, rfl, _, rfl, x, _, _, _, rfl, rfl, SqL.of (B5 _ _ m2), tb, rfl, _, rfl, ?_⟩
            refine ite2 (fun gu => ?_) (fun gu => ?_)
            · refine ⟨_, rfl, k (some n) _ _ ⟨?_, hkc⟩ B5 (fun z => nomatch z) (fun n' z => by cases z; exact ⟨wd, rfl, hwd5, hlw⟩)⟩
              show unlikeN told (f n) = true
              rw [hp]
              unfold unlikeN
              simpa using gu
            have un : unlikeN told p = false := by
              unfold unlikeN
              simpa using gu
            have la : p.1.toNat < S.length := by omega
            have lb : p.2.toNat < S.length := by omega
            have ga : S[p.1.toNat]? = some S[p.1.toNat] := List.getElem?_eq_getElem la
            have gb : S[p.2.toNat]? = some S[p.2.toNat] := List.getElem?_eq_getElem lb
            have da := g.dom _ (List.getElem_mem la)
            have db := g.dom _ (List.getElem_mem lb)
            have na := g.len _ (List.getElem_mem la)
            have nb2 := g.len _ (List.getElem_mem lb)
            generalize S[p.1.toNat] = rowA at ga da na
            generalize S[p.2.toNat] = rowB at gb db nb2
            rw [Int.toNat_natCast] at na nb2
            obtain ⟨ra, ra1, ra2⟩ := m4 _ _ ga
            obtain ⟨rb, rb1, rb2⟩ := m4 _ _ gb
            have ia := atI_nat ra1
            have ib := atI_nat rb1
            rw [Int.toNat_of_nonneg pd.1] at ia
            rw [Int.toNat_of_nonneg pd.2.2.1] at ib
            refine ⟨_, rfl, _, rfl, y, _, _, .ref ra, rfl, rfl, SqL.of (B5 _ _ m3), ia, _, rfl, _, rfl, y, _, _, .ref rb, rfl, rfl, SqL.of (B5 _ _ m3), ib, ra, rb, _, _, rfl, SqL.of (B5 _ _ ra2), SqL.of (B5 _ _ rb2), ?_⟩
            refine for_it (walk_enumZ (a := ra) (b := rb) (xs := rowA.map V.int) (ys := rowB.map V.int)) (fun j σ H6 => ∃ (fps : List Addr) (v11 v12 : Option V), LF f b H H6 e a u (b * n + 1 + j) lo hi (p0 :: pr) fps ∧ H6 wd = some (.tup ((wdN b n).map V.int)) ∧ σ = [some (.ref q), some (.int (s1 : Nat)), some (.int (s2 : Nat)), some (.ref x), some (.ref y), some (.ref e), some (.ref a), some (.ref u), some (.int p.1), some (.int p.2), some (.ref wd), v11, v12]) ⟨fps, v11, v12, lw5, hwd5, rfl⟩ (fun j σ H6 _ ⟨_, _, _, lw6, _, _⟩ => ⟨SqL.of (lw6.same _ _ ra2), SqL.of (lw6.same _ _ rb2)⟩) ?_ ?_
            · rintro j xx σ H6 H7 hj ⟨fps5, v11, v12, lwa, hwda, rfl⟩ ⟨T2, c2', xa, xb, rfl, nT, nc, rfl, ea, eb⟩
              rw [List.length_map, List.length_map] at hj
              have jb : j < b := by omega
              have ea : (rowA.map V.int)[j]? = some xa := ea
              have eb : (rowB.map V.int)[j]? = some xb := eb
              rw [List.getElem?_map] at ea eb
              obtain ⟨ja, ja1, rfl⟩ := Option.map_eq_some_iff.mp ea
              obtain ⟨jb', jb1, rfl⟩ := Option.map_eq_some_iff.mp eb
              have jda := da ja (List.mem_of_getElem? ja1)
              have jdb := db jb' (List.mem_of_getElem? jb1)
              have epair : f (b * n + 1 + j) = (ja, jb') := by
                rw [hgo j jb, go_eq ga ja1 jda.1, go_eq gb jb1 jdb.1]
              have S7 : Same H6 (upd (upd H6 T2 (.tup [.int ja, .int jb'])) c2' (.tup [.int (j : Nat), .ref T2])) := (same_upd nT).trans (same_upd nc)
              have lw6 := lwa.ext S7
              have hwd6 := S7 _ _ hwda
              have hT6 : (upd (upd H6 T2 (.tup [.int ja, .int jb'])) c2' (.tup [.int (j : Nat), .ref T2])) T2 = some (.tup ((kp (ja, jb')).map kV)) := same_upd nc _ _ upd_same
              have hc6 : (upd (upd H6 T2 (.tup [.int ja, .int jb'])) c2' (.tup [.int (j : Nat), .ref T2])) c2' = some (.tup [.int (j : Nat), .ref T2]) := upd_same
              generalize (upd (upd H6 T2 (HO.tup [V.int ja, V.int jb'])) c2' (HO.tup [V.int (j : Nat), V.ref T2])) = H8 at lw6 hwd6 hT6 hc6
              obtain ⟨kvs6, x1, x2⟩ := id lw6.words
              have hl6 : kvs6.length ≤ 160000 := by rw [x2.len]; exact le _ _
              have hf6 : fps5.length ≤ 160000 := by rw [lw6.fur.2.len]; exact le _ _
              refine ⟨c2', _, rfl, SqT.of hc6, rfl, _, _, rfl, _, _, rfl, rfl, ?_⟩
              refine ⟨_, rfl, _, rfl, e, _, rfl, DGet.t x1 hT6, _, rfl, ?_⟩
              cases hfo : fo f (b * n + 1 + j) with
              | false =>
                obtain ⟨_, ez⟩ := x2.some hfo
                rw [epair] at ez
                rw [ez]
                exact iteF ⟨fps5, _, _, lw6.keep hfo, hwd6, rfl⟩
              | true =>
                have ez := x2.none hfo
                rw [epair] at ez
                rw [ez]
                have wn : wdN b (b * n + 1 + j) = wdN b n ++ [(j : Int)] := wdN_step jb
                refine iteT ⟨_, rfl, _, rfl, by show 1 ≤ sizeLine; decide, fun sa hsa => ⟨wd, sa, _, _, rfl, rfl, SqT.of (same_upd hsa _ _ hwd6), SqT.of upd_same, ?_, fun zf => ?_, fun _ z => (nomatch z), fun _ _ p7 hp7 => ?_⟩⟩
                · rw [List.length_map]
                  show (wdN b n).length + 1 ≤ sizeLine
                  unfold sizeLine
                  omega
                · have S9 := same_upd (o := HO.tup [V.int ((j : Nat) : Int)]) hsa
                  have lw7 := lw6.ext S9
                  have hT7 := S9 _ _ hT6
                  have hwd7 := S9 _ _ hwd6
                  have y1 := S9 _ _ x1
                  have eu : u ≠ e := fun z => by have z2 := lw7.fur.1; rw [z, y1] at z2; cases z2
                  refine ⟨_, rfl, _, rfl, e, _, rfl, DPut.t y1 hT7 (by unfold sizeLine; omega), _, rfl, .inl ⟨rfl, _, SqL.of (by rw [upd_ne eu]; exact lw7.fur.1)⟩, _, rfl, u, _, _, rfl, rfl, by rw [upd_ne eu]; exact lw7.fur.1, by rw [List.length_map]; unfold sizeLine; omega, ?_⟩
                  have lw8 := lw7.reach y1 hfo (t := T2) (w := sa) (by rw [epair]; exact hT7) (by rw [wn, List.map_eq_nil_iff.mp zf]; exact upd_same)
                  rw [epair] at lw8
                  refine ⟨fps5 ++ [T2], _, _, lw8, ?_, rfl⟩
                  rw [upd_ne (fun z => by rw [z, lw7.fur.1] at hwd7; cases hwd7), upd_ne (fun z => by rw [z, y1] at hwd7; cases hwd7)]
                  exact hwd7
                · have S9 := (same_upd (o := HO.tup [V.int ((j : Nat) : Int)]) hsa).trans (same_upd (o := HO.tup ((wdN b n).map V.int ++ [V.int ((j : Nat) : Int)])) hp7)
                  have lw7 := lw6.ext S9
                  have hT7 := S9 _ _ hT6
                  have hwd7 := S9 _ _ hwd6
                  have y1 := S9 _ _ x1
                  have eu : u ≠ e := fun z => by have z2 := lw7.fur.1; rw [z, y1] at z2; cases z2
                  refine ⟨_, rfl, _, rfl, e, _, rfl, DPut.t y1 hT7 (by unfold sizeLine; omega), _, rfl, .inl ⟨rfl, _, SqL.of (by rw [upd_ne eu]; exact lw7.fur.1)⟩, _, rfl, u, _, _, rfl, rfl, by rw [upd_ne eu]; exact lw7.fur.1, by rw [List.length_map]; unfold sizeLine; omega, ?_⟩
                  have lw8 := lw7.reach y1 hfo (t := T2) (w := p7) (by rw [epair]; exact hT7) (by rw [wn, List.map_append]; exact upd_same)
                  rw [epair] at lw8
                  refine ⟨fps5 ++ [T2], _, _, lw8, ?_, rfl⟩
                  rw [upd_ne (fun z => by rw [z, lw7.fur.1] at hwd7; cases hwd7), upd_ne (fun z => by rw [z, y1] at hwd7; cases hwd7)]
                  exact hwd7
            · rintro σ H6 ⟨fps6, v11, v12, lw6, hwd6, rfl⟩
              rw [List.length_map, List.length_map, na, nb2, Nat.min_self] at lw6
              refine ⟨n + 1, fps6, _, _, _, _, _, by omega, n2, n5, ?_, fun m hm => ?_, rfl⟩
              · rw [show b * (n + 1) + 1 = b * n + 1 + b by rw [Nat.mul_succ]; omega]
                exact lw6
              · rcases Nat.lt_or_ge m n with z | z
                · exact hkc m z
                · rw [show m = n by omega, hp]
                  exact un
          · rintro σ H4 ⟨c, fps, v8, v9, v10, v11, v12, c1, c2, dr, lw, kc, rfl⟩
            rw [List.length_map, hln, List.drop_length] at dr
            have no : ∀ m, c ≤ m → m < hi → fo f m = false := fun m h1 h2 => fl_empty f (by rw [← dr]; rfl) h1 h2
            have mle : b * lo ≤ b * c := Nat.mul_le_mul_left _ c1
            have mle2 : b * c ≤ b * hi := Nat.mul_le_mul_left _ c2
            have lw2 := lw.shift (P2 := b * hi + 1) (by omega) (hskip c hi c2 no 0 (Nat.zero_le _)) (hskip c hi c2 no hi (by omega))
            obtain ⟨kvs6, y1, y2⟩ := id lw2.words
            have hb1 : 1 * hi ≤ b * hi := Nat.mul_le_mul_right _ b0
            refine ⟨_, rfl, ⟨u, fps, kvs6, hi, _, _, _, _, _, _, lw2.same, fe, y1, y2, lw2.fur.1, lw2.fur.2, fun m hm => ?_, rfl⟩, ?_⟩
            · rcases Nat.lt_or_ge m c with z | z
              · exact kc m z
              · exact un_rep kc fun m2 q1 q2 => no m2 q1 (by omega)
            · show (match H4 e with | some (.dT kvs) => 2 * (160000 - kvs.length) | _ => 0) + (match H4 u with | some (.lst []) => 0 | _ => 1) < (match H2 e with | some (.dT kvs) => 2 * (160000 - kvs.length) | _ => 0) + (match H2 a with | some (.lst []) => 0 | _ => 1)
              rw [y1, k1, lw2.fur.1, k3]
              have e1 : kvs6.length = kvs.length + fps.length := by
                rw [y2.len, k2.len, lw2.fur.2.len, ← List.length_append, ← fl_app f (Nat.zero_le hi) (by omega)]
              have e2 : kvs6.length ≤ 160000 := by rw [y2.len]; exact le _ _
              cases fps with
              | nil =>
                show 2 * (160000 - kvs6.length) + 0 < 2 * (160000 - kvs.length) + 1
                rw [List.length_nil] at e1
                omega
              | cons f0' fr =>
                show 2 * (160000 - kvs6.length) + 1 < 2 * (160000 - kvs.length) + 1
                rw [List.length_cons] at e1
                omega
      · exact fun σ H Q Q' h ⟨v, e1, k, t, q⟩ => ⟨v, e1, k, t, h _ _ q⟩

/-! ### what the machines tell -/
/-- the number of some figures, the first one first -/
def valI (b : Int) (fs : List Int) : Int := fs.foldl (fun v f => v * b + f) 0
theorem valI_snoc (b : Int) (fs : List Int) (f : Int) : valI b (fs ++ [f]) = valI b fs * b + f := by
  unfold valI
  rw [List.foldl_append]
  rfl
theorem fold_from (b : Int) : ∀ (fs : List Int) (v : Int), fs.foldl (fun v f => v * b + f) v = v * b ^ fs.length + valI b fs
  | [], v => by
    show v = v * b ^ 0 + 0
    rw [Int.pow_zero, Int.mul_one, Int.add_zero]
  | f :: fs, v => by
    show fs.foldl (fun v f => v * b + f) (v * b + f) = v * b ^ (fs.length + 1) + fs.foldl (fun v f => v * b + f) (0 * b + f)
    rw [fold_from b fs (v * b + f), fold_from b fs (0 * b + f), Int.zero_mul, Int.zero_add, Int.add_mul, Int.pow_succ, Int.mul_comm (b ^ fs.length) b, ← Int.mul_assoc, Int.add_assoc]
theorem valI_cons (b : Int) (f : Int) (fs : List Int) : valI b (f :: fs) = f * b ^ fs.length + valI b fs := by
  show fs.foldl (fun v f => v * b + f) (0 * b + f) = _
  rw [fold_from, Int.zero_mul, Int.zero_add]
theorem fmul_mod (x y b d : Int) : ((x % d) * b + y) % d = (x * b + y) % d := by
  rw [Int.add_emod, Int.mul_emod, Int.emod_emod, ← Int.mul_emod, ← Int.add_emod]
theorem front_run {b d : Nat} (hd : 1 ≤ d) (good : GoodS (b : Int) (frontS (b : Int) d)) (hgo : ∀ s f : Nat, s < d → f < b → ((goS (frontS (b : Int) d) s (f : Int) : Nat) : Int) = ((s : Int) * b + f) % d) (hl : (frontS (b : Int) d).length = d) {s : Nat} (hs : s < d) : ∀ (k : Nat) (fs : List Int), fs.length = k → (∀ f ∈ fs, 0 ≤ f ∧ f < (b : Int)) → ((runS (frontS (b : Int) d) s fs : Nat) : Int) = ((s : Int) * (b : Int) ^ fs.length + valI b fs) % d
  | 0, fs, h, _ => by
    rw [List.length_eq_zero_iff.mp h]
    show ((s : Nat) : Int) = ((s : Int) * (b : Int) ^ 0 + 0) % d
    rw [Int.pow_zero, Int.mul_one, Int.add_zero, Int.emod_eq_of_lt (by omega) (by omega)]
  | k + 1, fs, h, hf => by
    rcases List.eq_nil_or_concat fs with e | ⟨gs, f, e⟩
    · rw [e] at h
      cases h
    · subst e
      have e1 : gs.concat f = gs ++ [f] := List.concat_eq_append
      rw [e1] at h hf ⊢
      have ff := hf f (List.mem_append_right _ List.mem_cons_self)
      have hg : ∀ g ∈ gs, 0 ≤ g ∧ g < (b : Int) := fun g hg => hf g (List.mem_append_left _ hg)
      have ih := front_run hd good hgo hl hs k gs (by simpa using h) hg
      have lt := runS_lt good (show s < (frontS (b : Int) d).length by rw [hl]; exact hs) (fs := gs) hg
      rw [hl] at lt
      rw [runS_snoc, ← Int.toNat_of_nonneg ff.1, hgo _ _ lt (by omega), ih, Int.toNat_of_nonneg ff.1, fmul_mod, valI_snoc, List.length_append, List.length_singleton, Int.pow_succ, Int.add_mul, Int.mul_assoc, Int.add_assoc]
theorem add_at {R : List Pr} {x p : Pr} {j : Nat} (h : R[j]? = some p) : (addR R x)[j]? = some p := by
  obtain ⟨m, e⟩ := addR_pre (R := R) (x := x)
  rw [e, List.getElem?_append_left (List.getElem?_eq_some_iff.mp h).1]
  exact h
theorem idx_at {R : List Pr} {x : Pr} (h : x ∈ R) : R[R.idxOf x]? = some x := by
  have l := List.idxOf_lt_length_of_mem h
  rw [List.getElem?_eq_getElem l, List.getElem_idxOf]
theorem rowR_at {b d : Int} {p : Pr} {R : List Pr} : ∀ n f : Nat, f < n → ∃ j : Nat, (rowR b d p n R).2[f]? = some (j : Int) ∧ (rowR b d p n R).1[j]? = some (nextR b d p f)
  | 0, f, h => absurd h (Nat.not_lt_zero _)
  | n + 1, f, h => by
    have hl := rowR_len (b := b) (d := d) (p := p) (R := R) n
    rcases Nat.lt_or_ge f n with z | z
    · obtain ⟨j, h1, h2⟩ := rowR_at (b := b) (d := d) (p := p) (R := R) n f z
      refine ⟨j, ?_, add_at h2⟩
      show ((rowR b d p n R).2 ++ [_])[f]? = _
      rw [List.getElem?_append_left (by omega)]
      exact h1
    · have e : f = n := by omega
      subst e
      refine ⟨_, ?_, idx_at (mem_addR (R := (rowR b d p f R).1) (x := nextR b d p f))⟩
      show ((rowR b d p f R).2 ++ [_])[f]? = _
      rw [List.getElem?_append_right (by omega), hl, Nat.sub_self]
      rfl
theorem rowR_keep {b d : Int} {p q : Pr} {R : List Pr} {n j : Nat} (h : R[j]? = some q) : (rowR b d p n R).1[j]? = some q := by
  obtain ⟨m, e⟩ := rowR_pre (b := b) (d := d) (p := p) (R := R) n
  rw [e, List.getElem?_append_left (List.getElem?_eq_some_iff.mp h).1]
  exact h
theorem BRun.first {b d : Int} {R : List Pr} {S : List (List Int)} (h : BRun b d R S) : R[0]? = some (0, 1 % d) := by
  induction h with
  | start => rfl
  | step _ _ ih => exact rowR_keep ih
theorem BRun.goes {b d : Int} {R : List Pr} {S : List (List Int)} (h : BRun b d R S) : ∀ (i : Nat) (p : Pr) (row : List Int), R[i]? = some p → S[i]? = some row → ∀ f : Nat, f < b.toNat → ∃ j : Nat, row[f]? = some (j : Int) ∧ R[j]? = some (nextR b d p f) := by
  induction h with
  | start => exact fun i p row _ h2 => by cases h2
  | @step R S q hr hq ih =>
    intro i p row h1 h2 f hf
    have lS := (List.getElem?_eq_some_iff.mp hq).1
    rcases Nat.lt_or_ge i S.length with z | z
    · rw [List.getElem?_append_left z] at h2
      have h0 : R[i]? = some p := by
        obtain ⟨m, e⟩ := rowR_pre (b := b) (d := d) (p := q) (R := R) b.toNat
        rw [e, List.getElem?_append_left (by omega)] at h1
        exact h1
      obtain ⟨j, a1, a2⟩ := ih i p row h0 h2 f hf
      exact ⟨j, a1, rowR_keep a2⟩
    · have ei : i = S.length := by
        have := (List.getElem?_eq_some_iff.mp h2).1
        rw [List.length_append, List.length_singleton] at this
        omega
      subst ei
      rw [List.getElem?_append_right (Nat.le_refl _), Nat.sub_self] at h2
      cases h2
      have := rowR_keep (b := b) (d := d) (p := q) (n := b.toNat) hq
      rw [h1] at this
      cases this
      exact rowR_at _ _ hf
theorem back_run {b d : Nat} {R : List Pr} {S : List (List Int)} (h : BRun (b : Int) d R S) (eq : S.length = R.length) : ∀ (k : Nat) (fs : List Int), fs.length = k → (∀ f ∈ fs, 0 ≤ f ∧ f < (b : Int)) → R[runS S 0 fs]? = some (valI b fs.reverse % d, (b : Int) ^ fs.length % d)
  | 0, fs, e, _ => by
    rw [List.length_eq_zero_iff.mp e]
    show R[0]? = some ((0 : Int) % d, (b : Int) ^ 0 % d)
    rw [h.first, Int.zero_emod, Int.pow_zero]
  | k + 1, fs, e, hf => by
    rcases List.eq_nil_or_concat fs with e0 | ⟨gs, f, e0⟩
    · rw [e0] at e
      cases e
    · subst e0
      have e1 : gs.concat f = gs ++ [f] := List.concat_eq_append
      rw [e1] at e hf ⊢
      have ff := hf f (List.mem_append_right _ List.mem_cons_self)
      have hg : ∀ g ∈ gs, 0 ≤ g ∧ g < (b : Int) := fun g hg => hf g (List.mem_append_left _ hg)
      have ih := back_run h eq k gs (by simpa using e) hg
      have lt := (List.getElem?_eq_some_iff.mp ih).1
      obtain ⟨j, a1, a2⟩ := h.goes _ _ _ ih (List.getElem?_eq_getElem (show runS S 0 gs < S.length by omega)) f.toNat (by omega)
      have g1 := go_eq (S := S) (List.getElem?_eq_getElem (show runS S 0 gs < S.length by omega)) a1 (Int.natCast_nonneg _)
      rw [Int.toNat_of_nonneg ff.1] at g1
      rw [runS_snoc, show goS S (runS S 0 gs) f = j by omega, a2]
      unfold nextR
      rw [List.reverse_append, List.length_append, List.length_singleton, Int.pow_succ]
      show some (((valI b gs.reverse % d + (f.toNat : Int) * ((b : Int) ^ gs.length % d)) % d, ((b : Int) ^ gs.length % d) * b % d) : Pr) = some (valI b (f :: gs.reverse) % d, _)
      rw [valI_cons, List.length_reverse, Int.toNat_of_nonneg ff.1]
      congr 2
      · rw [Int.emod_add_emod, Int.add_comm, Int.add_emod (f * _), Int.mul_emod f, Int.emod_emod, ← Int.mul_emod, ← Int.add_emod]
      · rw [Int.mul_emod, Int.emod_emod, ← Int.mul_emod]
theorem front_go {b d : Nat} : ∀ s f : Nat, s < d → f < b → 1 ≤ d → ((goS (frontS (b : Int) d) s (f : Int) : Nat) : Int) = ((s : Int) * b + f) % d := fun s f hs hf hd => by
  refine go_eq (row := frontRow b d s) ?_ ?_ (Int.emod_nonneg _ (by omega))
  · unfold frontS
    rw [List.getElem?_map, List.getElem?_range hs]
    rfl
  · unfold frontRow
    rw [List.getElem?_map, List.getElem?_range (by omega)]
    rfl
theorem front_len {b : Int} {d : Nat} : (frontS b d).length = d := by
  unfold frontS
  rw [List.length_map, List.length_range]
theorem front_good {b d : Nat} (hd : 1 ≤ d) : GoodS (b : Int) (frontS (b : Int) d) := by
  refine ⟨by rw [front_len]; omega, fun row hr => ?_, fun row hr j hj => ?_⟩
  · unfold frontS at hr
    obtain ⟨r, _, rfl⟩ := List.mem_map.mp hr
    unfold frontRow
    rw [List.length_map, List.length_range]
  · unfold frontS at hr
    obtain ⟨r, _, rfl⟩ := List.mem_map.mp hr
    unfold frontRow at hj
    obtain ⟨f, _, rfl⟩ := List.mem_map.mp hj
    rw [front_len]
    exact ⟨Int.emod_nonneg _ (by omega), Int.emod_lt_of_pos _ (by omega)⟩

/-! ### words of machines: the least one -/
theorem lab_ok {H : Hp} {c : Addr} {ls : List Int} (hc : H c = some (.tup (ls.map V.int))) (l1 : 1 ≤ ls.length) (l2 : ls.length ≤ 20) (wl : ∀ l ∈ ls, 0 ≤ l ∧ l ≤ 19) : lVerd H (.ref c) = none := by
  unfold lVerd
  rw [tupOf_ref hc]
  refine verdict_good (by rw [List.length_map]; exact l1) (by rw [List.length_map]; exact l2) fun y hy => ?_
  obtain ⟨z, hz, rfl⟩ := List.mem_map.mp hy
  exact intIn_of (wl z hz).1 (wl z hz).2
theorem fig_ok {b : Int} {H : Hp} {c : Addr} {fs : List Int} (hc : H c = some (.tup (fs.map V.int))) (l : fs.length ≤ 150) (wf : ∀ f ∈ fs, 0 ≤ f ∧ f < b) : fVerd b H (.ref c) = none := by
  unfold fVerd
  rw [tupOf_ref hc, verdict_some, if_pos ⟨Nat.zero_le _, by rw [List.length_map]; exact l⟩, firstW_none fun y hy => ?_]
  · rfl
  · obtain ⟨f, hf, rfl⟩ := List.mem_map.mp hy
    exact intIn_of (wf f hf).1 (by have := (wf f hf).2; omega)
theorem nx_wd {b : Nat} (hb : 0 < b) : ∀ n, nxN b (wdN b n) = n := by
  intro n
  induction n using Nat.strongRecOn with
  | ind n ih =>
    rcases Nat.eq_zero_or_pos n with z | z
    · rw [z, wdN_zero]
      rfl
    · obtain ⟨p, f, hf, e, hp⟩ := parent hb z
      rw [e, wdN_step hf, nxN_snoc, ih p hp]
      rfl
/-- the least word for which U holds, or None -/
def WordIs (b : Nat) (U : List Int → Bool) (v : V) (H : Hp) : Prop :=
  (v = .non ∧ ∀ fs : List Int, (∀ f ∈ fs, 0 ≤ f ∧ f < (b : Int)) → U fs = false) ∨
  ∃ (u : Addr) (w : List Int), v = .ref u ∧ H u = some (.tup (w.map V.int)) ∧ (∀ f ∈ w, 0 ≤ f ∧ f < (b : Int)) ∧ w.length < 160000 ∧ U w = true ∧ ∀ fs : List Int, (∀ f ∈ fs, 0 ≤ f ∧ f < (b : Int)) → U fs = true → nxN b w ≤ nxN b fs
theorem WordIs.of {b : Nat} {U : List Int → Bool} {un : Nat → Bool} {r : Option Nat} {v : V} {H : Hp} (hb : 0 < b) (h : LeastN un r) (e : ∀ n, un n = U (wdN b n)) (h0 : r = none → v = .non) (h1 : ∀ n, r = some n → ∃ u : Addr, v = .ref u ∧ H u = some (.tup ((wdN b n).map V.int)) ∧ (wdN b n).length < 160000) : WordIs b U v H := by
  cases r with
  | none =>
    refine .inl ⟨h0 rfl, fun fs hf => ?_⟩
    have := h (nxN b fs)
    rw [e, wdN_nx hb _ fs rfl hf] at this
    exact this
  | some n =>
    obtain ⟨u, e1, e2, e3⟩ := h1 n rfl
    refine .inr ⟨u, wdN b n, e1, e2, wdN_fig hb n, e3, by rw [← e]; exact h.1, fun fs hf q => ?_⟩
    rw [nx_wd hb]
    refine Nat.le_of_not_lt fun z => ?_
    have := h.2 _ z
    rw [e, wdN_nx hb _ fs rfl hf, q] at this
    cases this
/-- rests are led to unlike labels by a word -/
def unF (b : Nat) (ls : List Int) (o1 o2 : Nat) (fs : List Int) : Bool := decide (ls.getD (((o1 : Int) * (b : Int) ^ fs.length + valI b fs) % (ls.length : Int)).toNat 0 ≠ ls.getD (((o2 : Int) * (b : Int) ^ fs.length + valI b fs) % (ls.length : Int)).toNat 0)
def unB (b : Nat) (ls : List Int) (g1 g2 : List Int) (fs : List Int) : Bool := decide (ls.getD (valI b (g1 ++ fs).reverse % (ls.length : Int)).toNat 0 ≠ ls.getD (valI b (g2 ++ fs).reverse % (ls.length : Int)).toNat 0)
def spFrontW2 (K : PySem.W.Frag) : Sp := fun vs H Q _ => ∃ (b o1 o2 : Nat) (c : Addr) (ls : List Int), vs = [.int (b : Nat), .ref c, .int (o1 : Nat), .int (o2 : Nat)] ∧ H c = some (.tup (ls.map V.int)) ∧ (∀ l ∈ ls, 0 ≤ l ∧ l ≤ 19) ∧ 1 ≤ ls.length ∧ ls.length ≤ 20 ∧ 2 ≤ b ∧ b ≤ 16 ∧ o1 < ls.length ∧ o2 < ls.length ∧
  ∀ v H', Same H H' → WordIs b (unF b ls o1 o2) v H' → Q v H'
theorem runS_app (S : List (List Int)) : ∀ (s : Nat) (fs gs : List Int), runS S s (fs ++ gs) = runS S (runS S s fs) gs
  | _, [], _ => rfl
  | s, f :: fs, gs => runS_app S (goS S s f) fs gs
theorem back_told {ls : List Int} {R : List Pr} {i : Nat} {p : Pr} (h : R[i]? = some p) : (backTold ls R).getD i 0 = ls.getD p.1.toNat 0 := by
  unfold backTold
  rw [List.getD_eq_getElem?_getD, List.getElem?_map, h]
  rfl
def spBackW2 (K : PySem.W.Frag) : Sp := fun vs H Q _ => ∃ (b : Nat) (c c1 c2 : Addr) (ls g1 g2 : List Int), vs = [.int (b : Nat), .ref c, .ref c1, .ref c2] ∧ H c = some (.tup (ls.map V.int)) ∧ (∀ l ∈ ls, 0 ≤ l ∧ l ≤ 19) ∧ 1 ≤ ls.length ∧ ls.length ≤ 20 ∧ 2 ≤ b ∧ b ≤ 16 ∧
  H c1 = some (.tup (g1.map V.int)) ∧ g1.length ≤ 150 ∧ (∀ f ∈ g1, 0 ≤ f ∧ f < (b : Int)) ∧ H c2 = some (.tup (g2.map V.int)) ∧ g2.length ≤ 150 ∧ (∀ f ∈ g2, 0 ≤ f ∧ f < (b : Int)) ∧
  ∀ v H', Same H H' → WordIs b (unB b ls g1 g2) v H' → Q v H'
theorem ok_back_word (T : Tx P K mg) : FnOk P w K mg base (L2.CX P w) lv_back_word T.a_back_word T.d_back_word ["base", "labels", "one", "other"] (spBackW2 K) := by
  refine T.F_back_word.okX sc_back_word (fun vs H Q E h => ?_) (fun cdv A outer s H vs Q E hr h => ?_)
  · obtain ⟨b, c, c1, c2, ls, g1, g2, rfl, _⟩ := h
    rfl
  · obtain ⟨b, c, c1, c2, ls, g1, g2, rfl, hc, wl, l1, l2, b1, b2, h1, m1, w1, h2, m2, w2, k⟩ := h
    have nf : ∀ {v : V} {lo hi : Int} {G : Prop}, intIn v lo hi = true → intIn v lo hi = false → G := fun p q => Bool.noConfusion (p.symm.trans q)
    have gl := lab_ok hc l1 l2 wl
    refine ⟨_, (pss_cons (ps_expr (pe_call (ok_check_base T) (hr.mono (by decide)) rfl T.g_check_base T.F_check_base.kp T.b_check_base .nil (passes_call (takes_of rfl rfl rfl rfl) fun _ _ _ _ h => h) (pa_cons (pv 0) pa_nil)))
      (pss_cons (ps_expr (pe_call (ok_check_labels T) (hr.mono (by decide)) rfl T.g_check_labels T.F_check_labels.kp T.b_check_labels .nil (passes_call (takes_of rfl rfl rfl rfl) fun _ _ _ _ h => h) (pa_cons (pv 1) pa_nil)))
      (pss_cons (ps_expr (pe_call (ok_check_figures T) (hr.mono (by decide)) rfl T.g_check_figures T.F_check_figures.kp T.b_check_figures .nil (passes_call (takes_of rfl rfl rfl rfl) fun _ _ _ _ h => h) (pa_cons (pv 2) (pa_cons (pv 0) (pa_cons pe_int pa_nil)))))
      (pss_cons (ps_expr (pe_call (ok_check_figures T) (hr.mono (by decide)) rfl T.g_check_figures T.F_check_figures.kp T.b_check_figures .nil (passes_call (takes_of rfl rfl rfl rfl) fun _ _ _ _ h => h) (pa_cons (pv 3) (pa_cons (pv 0) (pa_cons pe_int pa_nil)))))
      (pss_cons (ps_set (i := 4) sc_back_word.nd rfl (Or.inl rfl) (pe_call (ok_back_machine T) (hr.mono (by decide)) rfl T.g_back_machine T.F_back_machine.kp T.b_back_machine .nil pass0 (pa_cons (pv 0) (pa_cons (pv 1) pa_nil))))
      (pss_one (ps_ret (pe_call (ok_least_word T) (hr.mono (by decide)) rfl T.g_least_word T.F_least_word.kp T.b_least_word .nil pass0 (pa_cons (pv 4) (pa_cons (pe_call (ok_state_behind T) (hr.mono (by decide)) rfl T.g_state_behind T.F_state_behind.kp T.b_state_behind .nil pass0 (pa_cons (pv 4) (pa_cons (pv 2) pa_nil))) (pa_cons (pe_call (ok_state_behind T) (hr.mono (by decide)) rfl T.g_state_behind T.F_state_behind.kp T.b_state_behind .nil pass0 (pa_cons (pv 4) (pa_cons (pv 3) pa_nil))) pa_nil))))))))))), ?_⟩
    refine ⟨_, rfl, .int (b : Nat), rfl, .int _, fun _ => ?_, nf (intIn_of (by omega) (by omega))⟩
    refine ⟨_, rfl, .ref c, rfl, .tup hc, ItemsAny.ints hc, fun _ H2 S2 => ?_, fun v hv => by rw [gl] at hv; cases hv⟩
    have q1 := fig_ok (S2 _ _ h1) m1 w1
    refine ⟨_, rfl, _, rfl, .ref c1, (b : Nat), rfl, .tup (S2 _ _ h1), ItemsAny.ints (S2 _ _ h1), fun _ H3 S3 => ?_, fun v hv => by rw [q1] at hv; cases hv⟩
    have S23 := S2.trans S3
    have q2 := fig_ok (S23 _ _ h2) m2 w2
    refine ⟨_, rfl, _, rfl, .ref c2, (b : Nat), rfl, .tup (S23 _ _ h2), ItemsAny.ints (S23 _ _ h2), fun _ H4 S4 => ?_, fun v hv => by rw [q2] at hv; cases hv⟩
    have SS := S23.trans S4
    refine ⟨_, rfl, _, rfl, (b : Nat), c, ls, rfl, SS _ _ hc, by omega, by omega, l1, l2, fun q H5 R S run eq S5 mach => ?_⟩
    have good := run.good eq
    have r1 := runS_lt good good.pos (fs := g1) w1
    have r2 := runS_lt good good.pos (fs := g2) w2
    have S6 := SS.trans S5
    refine ⟨_, rfl, _, rfl, _, rfl, q, c1, _, S, (b : Nat), g1, rfl, mach, good, S6 _ _ h1, w1, _, rfl, _, rfl, q, c2, _, S, (b : Nat), g2, rfl, mach, good, S6 _ _ h2, w2,
      q, _, S, b, _, _, rfl, mach, good, by unfold backTold; rw [List.length_map, eq], by rw [eq]; exact (run.rests (by omega)).le (by omega), by omega, b2, r1, r2, fun r v H7 hL S7 h0 h1' => k v H7 (S6.trans S7) (WordIs.of (by omega) hL (fun n => ?_) h0 h1')⟩
    have fg := wdN_fig (b := b) (by omega) n
    have a1 := back_run run eq _ (g1 ++ wdN b n) rfl fun f hf => (List.mem_append.mp hf).elim (w1 f) (fg f)
    have a2 := back_run run eq _ (g2 ++ wdN b n) rfl fun f hf => (List.mem_append.mp hf).elim (w2 f) (fg f)
    rw [runS_app] at a1 a2
    unfold unlikeN unB ptN
    show decide ((backTold ls R).getD ((runS S (runS S 0 g1) (wdN b n) : Nat) : Int).toNat 0 ≠ (backTold ls R).getD ((runS S (runS S 0 g2) (wdN b n) : Nat) : Int).toNat 0) = _
    rw [Int.toNat_natCast, Int.toNat_natCast, back_told a1, back_told a2]
def spValue (K : PySem.W.Frag) : Sp := fun vs H Q _ => ∃ (c : Addr) (b : Int) (fs : List Int), vs = [.ref c, .int b] ∧ SqT K H c (fs.map V.int) ∧ 2 ≤ b ∧ b ≤ 16 ∧ Q (.int (valI b fs)) H
/-! ### numbers of things, equal ones having equal numbers, by their first places -/
section
variable {α : Type} [DecidableEq α]
def ix (R : List α) (x : α) : Nat := R.idxOf x
theorem ix_old {R : List α} {x y : α} (h : x ∈ R) : ix (R ++ [y]) x = ix R x := by
  unfold ix
  rw [List.idxOf_append, if_pos h]
theorem ix_new {R : List α} {x : α} (h : x ∉ R) : ix (R ++ [x]) x = R.length := by
  unfold ix
  rw [List.idxOf_append, if_neg h]
  simp
def addD (R : List α) (x : α) : List α := if x ∈ R then R else R ++ [x]
def dist (l : List α) : List α := l.foldl addD []
theorem dist_snoc (l : List α) (x : α) : dist (l ++ [x]) = addD (dist l) x := by
  unfold dist
  rw [List.foldl_append]
  rfl
theorem mem_addD {R : List α} {x y : α} : y ∈ addD R x ↔ y ∈ R ∨ y = x := by
  unfold addD
  split
  · rename_i h
    exact ⟨.inl, fun q => q.elim id fun e => e ▸ h⟩
  · rw [List.mem_append, List.mem_singleton]
theorem addD_nodup {R : List α} (h : R.Nodup) (x : α) : (addD R x).Nodup := by
  unfold addD
  split
  · exact h
  · rename_i m
    exact List.nodup_append.mpr ⟨h, List.nodup_cons.mpr ⟨List.not_mem_nil, List.nodup_nil⟩, fun y hy z hz => by
      rw [List.mem_singleton.mp hz]
      rintro rfl
      exact m hy⟩
theorem addD_idx {R : List α} {x y : α} (h : y ∈ R) : (addD R x).idxOf y = R.idxOf y := by
  unfold addD
  split
  · rfl
  · rw [List.idxOf_append, if_pos h]
/-- so many are told: each by its place among the distinct ones so far -/
def numsL : List α → List α → List Int
  | _, [] => []
  | R, x :: l => ((addD R x).idxOf x : Int) :: numsL (addD R x) l
def numsOf (l : List α) : List Int := numsL [] l
theorem numsL_snoc (x : α) : ∀ (l R : List α), numsL R (l ++ [x]) = numsL R l ++ [((addD (l.foldl addD R) x).idxOf x : Int)]
  | [], _ => rfl
  | y :: l, R => by
    show _ :: numsL (addD R y) (l ++ [x]) = _ :: (numsL (addD R y) l ++ _)
    rw [numsL_snoc x l]
    rfl
theorem nums_snoc (l : List α) (x : α) : numsOf (l ++ [x]) = numsOf l ++ [(ix (dist (l ++ [x])) x : Int)] := by
  unfold numsOf
  rw [numsL_snoc, dist_snoc]
  rfl
theorem numsL_len : ∀ (l R : List α), (numsL R l).length = l.length
  | [], _ => rfl
  | _ :: l, R => congrArg Nat.succ (numsL_len l _)
theorem nums_len (l : List α) : (numsOf l).length = l.length := numsL_len l []
theorem dist_le (l : List α) : (dist l).length ≤ l.length := by
  have key : ∀ (l R : List α), (l.foldl addD R).length ≤ R.length + l.length := by
    intro l
    induction l with
    | nil => exact fun R => Nat.le_refl _
    | cons x l ih =>
      intro R
      have h := ih (addD R x)
      have : (addD R x).length ≤ R.length + 1 := by
        unfold addD
        split
        · omega
        · rw [List.length_append, List.length_singleton]
          exact Nat.le_refl _
      show (l.foldl addD (addD R x)).length ≤ R.length + (l.length + 1)
      omega
  have := key l []
  rw [List.length_nil] at this
  unfold dist
  omega
end
theorem dn_empty_keys {H : Hp} : KeysN H [] := fun _ h => by cases h
/-- the entries of the dict: the distinct keys, each with its place -/
structure DK (kvs : List (Key × V)) (R : List Int) : Prop where
  len : kvs.length = R.length
  at_ : ∀ k : Int, valV kvs (.inl k) = if k ∈ R then some (.int (R.idxOf k : Nat)) else none
theorem DK.put {kvs : List (Key × V)} {R : List Int} (h : DK kvs R) {x : Int} (hx : x ∉ R) : DK (putK kvs (.inl x) (.int (kvs.length : Nat))) (addD R x) := by
  have hn : valV kvs (.inl x) = none := by rw [h.at_, if_neg hx]
  have e : addD R x = R ++ [x] := by unfold addD; rw [if_neg hx]
  refine ⟨by rw [putK_new _ hn, e, List.length_append, List.length_append, h.len]; rfl, fun k => ?_⟩
  rw [valV_put, e]
  by_cases z : k = x
  · subst z
    rw [if_pos rfl, if_pos (List.mem_append_right _ List.mem_cons_self), List.idxOf_append, if_neg hx, h.len]
    simp
  · rw [if_neg (fun q => z (by injection q)), h.at_]
    by_cases m : k ∈ R
    · rw [if_pos m, if_pos (List.mem_append_left _ m), List.idxOf_append, if_pos m]
    · rw [if_neg m, if_neg fun q => (List.mem_append.mp q).elim m fun q => z (List.mem_singleton.mp q)]
structure DN (es : List NEnt) (R : List NKey) : Prop where
  len : es.length = R.length
  at_ : ∀ k : NKey, nVal es k = if k ∈ R then some (ix R k : Int) else none
theorem nVal_snoc (es : List NEnt) (x : NEnt) (k : NKey) : nVal (es ++ [x]) k = (nVal es k).or (if x.1 = k then some x.2.2 else none) := by
  unfold nVal
  rw [List.find?_append]
  cases es.find? _ with
  | some y => rfl
  | none =>
    rw [Option.none_or, Option.map_none, Option.none_or, List.find?_cons]
    by_cases e : x.1 = k
    · rw [decide_eq_true e, if_pos e]
      rfl
    · rw [decide_eq_false e, if_neg e]
      rfl
theorem DN.put {es : List NEnt} {R : List NKey} (h : DN es R) {x : NKey} (hx : x ∉ R) (b : Addr) : DN (es ++ [(x, b, (es.length : Int))]) (addD R x) := by
  have e : addD R x = R ++ [x] := by unfold addD; rw [if_neg hx]
  refine ⟨by rw [e, List.length_append, List.length_append, h.len]; rfl, fun k => ?_⟩
  rw [nVal_snoc, h.at_, e]
  by_cases z : k = x
  · subst z
    rw [if_neg hx, if_pos rfl, if_pos (List.mem_append_right _ List.mem_cons_self), h.len]
    rw [ix_new hx]
    rfl
  · by_cases m : k ∈ R
    · rw [if_pos m, if_pos (List.mem_append_left _ m)]
      rw [ix_old m]
      rfl
    · rw [if_neg m, if_neg (fun q => z q.symm), if_neg fun q => (List.mem_append.mp q).elim m fun q => z (List.mem_singleton.mp q)]
      rfl

/-! ### numbered -/
/-- such tuples -/
def KeyRefs (H : Hp) : List V → List NKey → Prop
  | [], [] => True
  | v :: vs, k :: ks => (∃ b, v = .ref b ∧ NkAt H b k) ∧ KeyRefs H vs ks
  | _, _ => False
theorem NkAt.of {H H2 : Hp} (S : ∀ c xs, H c = some (.tup xs) → H2 c = some (.tup xs)) {b : Addr} {k : NKey} (h : NkAt H b k) : NkAt H2 b k := h.imp fun _ q => ⟨S _ _ q.1, S _ _ q.2⟩
theorem KeyRefs.of {H H2 : Hp} (S : ∀ c xs, H c = some (.tup xs) → H2 c = some (.tup xs)) : ∀ {vs : List V} {ks : List NKey}, KeyRefs H vs ks → KeyRefs H2 vs ks
  | [], [], _ => trivial
  | _ :: _, _ :: _, ⟨⟨b, e, h⟩, r⟩ => ⟨⟨b, e, NkAt.of S h⟩, r.of S⟩
  | [], _ :: _, h => h.elim
  | _ :: _, [], h => h.elim
theorem KeyRefs.at {H : Hp} : ∀ {vs : List V} {ks : List NKey}, KeyRefs H vs ks → ∀ {i : Nat} {y : V}, vs[i]? = some y → ∃ b k, y = .ref b ∧ ks[i]? = some k ∧ NkAt H b k
  | [], [], _, i, y, h => by cases h
  | _ :: _, k :: _, ⟨⟨b, e, h1⟩, _⟩, 0, y, h => by
    cases h
    exact ⟨b, k, e, rfl, h1⟩
  | _ :: _, _ :: _, ⟨_, h3⟩, i + 1, y, h => h3.at (i := i) h
  | [], _ :: _, h, _, _, _ => h.elim
  | _ :: _, [], h, _, _, _ => h.elim
theorem KeyRefs.len {H : Hp} : ∀ {vs : List V} {ks : List NKey}, KeyRefs H vs ks → vs.length = ks.length
  | [], [], _ => rfl
  | _ :: _, _ :: _, ⟨_, r⟩ => congrArg Nat.succ r.len
  | [], _ :: _, h => h.elim
  | _ :: _, [], h => h.elim
theorem take_oneT {α : Type} {l : List α} {i : Nat} {z : α} (h : l[i]? = some z) : l.take (i + 1) = l.take i ++ [z] := by
  rw [List.take_succ, h]
  rfl
def spNumberedI (P : Program) (w : World) : Sp := fun vs H Q _ => ∃ (c : Addr), vs = [.ref c] ∧
  ((∃ ns : List Int, H c = some (.lst (ns.map V.int)) ∧ ns.length ≤ 1000 ∧ ∀ D H', H D = none → Same H H' → H' D = some (.lst ((numsOf ns).map V.int)) → Q (.ref D) H') ∨
   ∃ (us : List V) (ks : List NKey), H c = some (.lst us) ∧ KeyRefs H us ks ∧ us.length ≤ 1000 ∧ ∀ D H', H D = none → Same H H' → H' D = some (.lst ((numsOf ks).map V.int)) → Q (.ref D) H')
theorem ok_numbered (T : Tx P K mg) : FnOk P w K mg base CX0 lv_numbered T.a_numbered T.d_numbered ["things"] (spNumberedI P w) := by
  refine T.F_numbered.ok sc_numbered (fun vs H Q E h => ?_) (fun cdv A outer s H vs Q E hr h => ?_)
  · obtain ⟨c, rfl, _⟩ := h
    rfl
  · obtain ⟨c, rfl, h⟩ := h
    refine ⟨_, (pss_cons (ps_set (i := 1) sc_numbered.nd rfl (Or.inl rfl) pe_dnewX)
      (pss_cons (ps_set (i := 2) sc_numbered.nd rfl (Or.inl rfl) (pe_lst pa_nil))
      (pss_cons (ps_for PassesOwn.never rfl (pi_list (pv 0)) (pg_name (i := 3) sc_numbered.nd rfl (Or.inl rfl)) (pss_cons (ps_if (pt_cmp (pc_dnotinX hr.units (pv 3) (pv 1))) (pss_one (ps_dputX hr.units (pv 1) (pv 3) (pe_callB call_len_dX (by rfl) T.n_len (by decide +kernel) (pa_cons (pv 1) pa_nil)) rfl)) pss_nil)
      (pss_one (ps_expr (pe_bm PySem.F.plainAttrs_list PySem.F.slot_list_append PySem.F.type_list_append mt_append (pv 2) (pa_cons (pe_dgetX hr.units (pv 1) (pv 3) (fun _ _ => rfl)) pa_nil))))))
      (pss_one (ps_ret (pv 2)))))), ?_⟩
    rcases h with ⟨ns, hc, hl, k⟩ | ⟨us, ks, hc, hk, hl, k⟩
    · refine .inl fun d hd => ⟨by show 0 ≤ sizeLine; decide, fun D hD => ?_⟩
      have nD : H D = none := by
        cases e : H D with
        | none => rfl
        | some o => rw [same_upd hd _ _ e] at hD; cases hD
      have ndD : d ≠ D := ne_of_none upd_same hD
      refine ⟨_, rfl, c, rfl, ⟨_, SqL.of (same_upd hD _ _ (same_upd hd _ _ hc))⟩, ?_⟩
      refine for_list (xs := ns.map V.int) (fun i σ H2 => ∃ (kvs : List (Key × V)) (x3 : Option V), Same H H2 ∧ H2 d = some (.dK kvs) ∧ DK kvs (dist (ns.take i)) ∧ H2 D = some (.lst ((numsOf (ns.take i)).map V.int)) ∧ σ = [some (.ref c), some (.ref d), some (.ref D), x3]) ⟨[], none, (same_upd hd).trans (same_upd hD), same_upd hD _ _ upd_same, ⟨rfl, fun _ => rfl⟩, upd_same, rfl⟩ (fun i σ H2 _ ⟨_, _, S2, _⟩ => SqL.of (S2 _ _ hc)) ?_ ?_
      · rintro i y σ H2 hy ⟨kvs, x3, S2, hd2, dk, hD2, rfl⟩
        rw [List.getElem?_map] at hy
        obtain ⟨x, hx, rfl⟩ := Option.map_eq_some_iff.mp hy
        have tl := take_oneT hx
        have ed : dist (ns.take (i + 1)) = addD (dist (ns.take i)) x := by rw [tl, dist_snoc]
        have mem : x ∈ dist (ns.take (i + 1)) := by rw [ed]; exact mem_addD.mpr (.inr rfl)
        have ln := nums_len (ns.take i)
        have lt : (ns.take i).length ≤ 1000 := by rw [List.length_take]; omega
        have ld := dist_le (ns.take i)
        have bigs : (2000 : Nat) ≤ sizeLine := by decide
        have en : (numsOf (ns.take i)).map V.int ++ [V.int ((dist (ns.take (i + 1))).idxOf x : Nat)] = (numsOf (ns.take (i + 1))).map V.int := by
          rw [tl, nums_snoc, List.map_append]
          rfl
        refine ⟨_, rfl, _, rfl, d, _, rfl, .inl (DGet.k hd2 (k := .inl x)), _, rfl, ?_⟩
        rw [dk.at_]
        by_cases m : x ∈ dist (ns.take i)
        · rw [if_pos m]
          have dk2 : DK kvs (dist (ns.take (i + 1))) := by
            rw [ed]
            unfold addD
            rw [if_pos m]
            exact dk
          refine iteF ⟨_, rfl, .inl ⟨rfl, _, SqL.of hD2⟩, _, rfl, _, rfl, d, .int ((dist (ns.take (i + 1))).idxOf x : Nat), rfl, .inl (by have q := DGet.k hd2 (k := .inl x); rw [dk2.at_, if_pos mem] at q; exact q), D, _, _, rfl, rfl, hD2, by rw [List.length_map]; omega, kvs, some (.int x), fun e o q => ?_, ?_, dk2, ?_, rfl⟩
          · rw [upd_ne (ne_of_none q nD)]
            exact S2 _ _ q
          · rw [upd_ne ndD]
            exact hd2
          · rw [upd_same, en]
        · rw [if_neg m]
          have nd : H d = none := hd
          have dk2 : DK (putK kvs (.inl x) (.int (kvs.length : Nat))) (dist (ns.take (i + 1))) := by
            rw [ed]
            exact dk.put m
          have hd3 : (upd H2 d (.dK (putK kvs (.inl x) (.int (kvs.length : Nat))))) d = some (.dK (putK kvs (.inl x) (.int (kvs.length : Nat)))) := upd_same
          have hD3 : (upd H2 d (.dK (putK kvs (.inl x) (.int (kvs.length : Nat))))) D = some (.lst ((numsOf (ns.take i)).map V.int)) := by rw [upd_ne ndD.symm]; exact hD2
          refine iteT ⟨_, rfl, d, rfl, .inl ⟨kvs, hd2, _, rfl, _, rfl, d, _, rfl, .inl (DPut.k hd2 (k := .inl x) (by rw [dk.len]; omega)), ?_⟩⟩
          refine ⟨_, rfl, .inl ⟨rfl, _, SqL.of hD3⟩, _, rfl, _, rfl, d, .int ((dist (ns.take (i + 1))).idxOf x : Nat), rfl, .inl (by have q := DGet.k hd3 (k := .inl x); rw [dk2.at_, if_pos mem] at q; exact q), D, _, _, rfl, rfl, hD3, by rw [List.length_map]; omega, _, some (.int x), fun e o q => ?_, ?_, dk2, ?_, rfl⟩
          · rw [upd_ne (ne_of_none q nD), upd_ne (ne_of_none q nd)]
            exact S2 _ _ q
          · rw [upd_ne ndD]
            exact hd3
          · rw [upd_same, en]
      · rintro σ H2 ⟨kvs, x3, S2, hd2, dk, hD2, rfl⟩
        rw [List.length_map, List.take_length] at hD2
        exact ⟨_, rfl, k D H2 nD S2 hD2⟩
    · refine .inr fun d hd => ⟨by show 0 ≤ sizeLine; decide, fun D hD => ?_⟩
      have nD : H D = none := by
        cases e : H D with
        | none => rfl
        | some o => rw [same_upd hd _ _ e] at hD; cases hD
      have ndD : d ≠ D := ne_of_none upd_same hD
      have lk := hk.len
      refine ⟨_, rfl, c, rfl, ⟨_, SqL.of (same_upd hD _ _ (same_upd hd _ _ hc))⟩, ?_⟩
      refine for_list (xs := us) (fun i σ H2 => ∃ (es : List NEnt) (x3 : Option V), Same H H2 ∧ H2 d = some (nO P w d es) ∧ KeysN H2 es ∧ DN es (dist (ks.take i)) ∧ H2 D = some (.lst ((numsOf (ks.take i)).map V.int)) ∧ σ = [some (.ref c), some (.ref d), some (.ref D), x3]) ⟨[], none, (same_upd hd).trans (same_upd hD), same_upd hD _ _ upd_same, dn_empty_keys, ⟨rfl, fun _ => rfl⟩, upd_same, rfl⟩ (fun i σ H2 _ ⟨_, _, S2, _⟩ => SqL.of (S2 _ _ hc)) ?_ ?_
      · rintro i y σ H2 hy ⟨es, x3, S2, hd2, hkeys, dk, hD2, rfl⟩
        obtain ⟨b, x, rfl, hx, hnk⟩ := (hk.of fun _ _ e => S2 _ _ e).at hy
        have tl := take_oneT hx
        have ed : dist (ks.take (i + 1)) = addD (dist (ks.take i)) x := by rw [tl, dist_snoc]
        have mem : x ∈ dist (ks.take (i + 1)) := by rw [ed]; exact mem_addD.mpr (.inr rfl)
        have ln := nums_len (ks.take i)
        have lt : (ks.take i).length ≤ 1000 := by rw [List.length_take]; omega
        have ld := dist_le (ks.take i)
        have bigs : (2000 : Nat) ≤ sizeLine := by decide
        have en : (numsOf (ks.take i)).map V.int ++ [V.int (ix (dist (ks.take (i + 1))) x : Nat)] = (numsOf (ks.take (i + 1))).map V.int := by
          rw [tl, nums_snoc, List.map_append]
          rfl
        refine ⟨_, rfl, _, rfl, d, _, rfl, .inr ⟨es, x, b, hd2, hkeys, rfl, hnk, rfl⟩, _, rfl, ?_⟩
        rw [dk.at_]
        by_cases m : x ∈ dist (ks.take i)
        · rw [if_pos m]
          have dk2 : DN es (dist (ks.take (i + 1))) := by
            rw [ed]
            unfold addD
            rw [if_pos m]
            exact dk
          have kT : ∀ e xs, H2 e = some (.tup xs) → upd H2 D (.lst ((numsOf (ks.take i)).map V.int ++ [V.int (ix (dist (ks.take (i + 1))) x : Nat)])) e = some (.tup xs) := fun e xs q => by
            rw [upd_ne (ne_of q hD2 (by intro z; cases z))]
            exact q
          refine iteF ⟨_, rfl, .inl ⟨rfl, _, SqL.of hD2⟩, _, rfl, _, rfl, d, .int (ix (dist (ks.take (i + 1))) x : Nat), rfl, .inr ⟨es, x, b, hd2, hkeys, rfl, hnk, by rw [dk2.at_, if_pos mem]; rfl⟩, D, _, _, rfl, rfl, hD2, by rw [List.length_map]; omega, es, some (.ref b), fun e o q => ?_, ?_, fun z hz => NkAt.of kT (hkeys z hz), dk2, ?_, rfl⟩
          · rw [upd_ne (ne_of_none q nD)]
            exact S2 _ _ q
          · rw [upd_ne ndD]
            exact hd2
          · rw [upd_same, en]
        · rw [if_neg m]
          have nd : H d = none := hd
          have hn : nVal es x = none := by rw [dk.at_, if_neg m]
          have dk2 : DN (es ++ [(x, b, (es.length : Int))]) (dist (ks.take (i + 1))) := by
            rw [ed]
            exact dk.put m b
          have kT1 : ∀ e xs, H2 e = some (.tup xs) → upd H2 d (nO P w d (es ++ [(x, b, (es.length : Int))])) e = some (.tup xs) := fun e xs q => by
            rw [upd_ne (ne_of q hd2 (by intro z; cases z))]
            exact q
          have hd3 : (upd H2 d (nO P w d (es ++ [(x, b, (es.length : Int))]))) d = some (nO P w d (es ++ [(x, b, (es.length : Int))])) := upd_same
          have hD3 : (upd H2 d (nO P w d (es ++ [(x, b, (es.length : Int))]))) D = some (.lst ((numsOf (ks.take i)).map V.int)) := by rw [upd_ne ndD.symm]; exact hD2
          have hkeys3 : KeysN (upd H2 d (nO P w d (es ++ [(x, b, (es.length : Int))]))) (es ++ [(x, b, (es.length : Int))]) := fun z hz => by
            rcases List.mem_append.mp hz with q | q
            · exact NkAt.of kT1 (hkeys z q)
            · rw [List.mem_singleton.mp q]
              exact NkAt.of kT1 hnk
          have hnk3 := NkAt.of kT1 hnk
          refine iteT ⟨_, rfl, d, rfl, .inr ⟨es, hd2, hkeys, _, rfl, _, rfl, d, upd H2 d (nO P w d (es ++ [(x, b, (es.length : Int))])), rfl, .inr ⟨es, x, b, (es.length : Int), hd2, hkeys, rfl, hnk, hn, by rw [dk.len]; omega, rfl, rfl⟩, ?_⟩⟩
          have S3 : Same H (upd H2 d (nO P w d (es ++ [(x, b, (es.length : Int))]))) := fun e o q => by
            rw [upd_ne (ne_of_none q nd)]
            exact S2 _ _ q
          generalize upd H2 d (nO P w d (es ++ [(x, b, (es.length : Int))])) = H3 at *
          have kT : ∀ e xs, H3 e = some (.tup xs) → upd H3 D (.lst ((numsOf (ks.take i)).map V.int ++ [V.int (ix (dist (ks.take (i + 1))) x : Nat)])) e = some (.tup xs) := fun e xs q => by
            rw [upd_ne (ne_of q hD3 (by intro z; cases z))]
            exact q
          refine ⟨_, rfl, .inl ⟨rfl, _, SqL.of hD3⟩, _, rfl, _, rfl, d, .int (ix (dist (ks.take (i + 1))) x : Nat), rfl, .inr ⟨_, x, b, hd3, hkeys3, rfl, hnk3, by rw [dk2.at_, if_pos mem]; rfl⟩, D, _, _, rfl, rfl, hD3, by rw [List.length_map]; omega, _, some (.ref b), fun e o q => ?_, ?_, fun z hz => NkAt.of kT (hkeys3 z hz), dk2, ?_, rfl⟩
          · rw [upd_ne (ne_of_none q nD)]
            exact S3 _ _ q
          · rw [upd_ne ndD]
            exact hd3
          · rw [upd_same, en]
      · rintro σ H2 ⟨es, x3, S2, hd2, hkeys, dk, hD2, rfl⟩
        rw [hk.len, List.take_length] at hD2
        exact ⟨_, rfl, k D H2 nD S2 hD2⟩

/-! ### the numbers tell the things apart -/
section
variable {α : Type} [DecidableEq α]
theorem ix_at {R : List α} {x : α} (h : x ∈ R) : R[ix R x]? = some x := by
  unfold ix
  have l := List.idxOf_lt_length_of_mem h
  rw [List.getElem?_eq_getElem l, List.getElem_idxOf]
theorem ix_inj {R : List α} {x y : α} (hx : x ∈ R) (hy : y ∈ R) (e : ix R x = ix R y) : x = y := by
  have h := ix_at hx
  rw [e, ix_at hy] at h
  exact (Option.some.inj h).symm
theorem ix_addD {R : List α} {x y : α} (h : x ∈ R) : ix (addD R y) x = ix R x := addD_idx h
theorem ix_fold {x : α} : ∀ (l R : List α), x ∈ R → ix (l.foldl addD R) x = ix R x
  | [], _, _ => rfl
  | y :: l, R, h => by
    show ix (l.foldl addD (addD R y)) x = ix R x
    rw [ix_fold l _ (mem_addD.mpr (.inl h)), ix_addD h]
theorem mem_fold {x : α} : ∀ (l R : List α), x ∈ l.foldl addD R ↔ x ∈ R ∨ x ∈ l
  | [], _ => by simp
  | y :: l, R => by
    show x ∈ l.foldl addD (addD R y) ↔ _
    rw [mem_fold l, mem_addD, List.mem_cons, or_assoc]
theorem mem_dist {x : α} {l : List α} : x ∈ dist l ↔ x ∈ l := by
  unfold dist
  rw [mem_fold]
  simp
theorem numsL_at : ∀ (l R : List α) (i : Nat) (x : α), l[i]? = some x → (numsL R l)[i]? = some (ix (l.foldl addD R) x : Int)
  | [], _, i, x, h => by cases h
  | y :: l, R, 0, x, h => by
    cases h
    show some ((ix (addD R y) y : Nat) : Int) = some (ix (l.foldl addD (addD R y)) y : Int)
    rw [ix_fold l _ (mem_addD.mpr (.inr rfl))]
  | y :: l, R, i + 1, x, h => numsL_at l (addD R y) i x h
theorem nums_at {l : List α} {i : Nat} {x : α} (h : l[i]? = some x) : (numsOf l)[i]? = some (ix (dist l) x : Int) := numsL_at l [] i x h
/-- equal numbers, equal things -/
theorem nums_same {l : List α} {i j : Nat} {x y : α} (hx : l[i]? = some x) (hy : l[j]? = some y) : (numsOf l)[i]? = (numsOf l)[j]? ↔ x = y := by
  rw [nums_at hx, nums_at hy]
  constructor
  · intro e
    exact ix_inj (mem_dist.mpr (List.mem_of_getElem? hx)) (mem_dist.mpr (List.mem_of_getElem? hy)) (by have := Option.some.inj e; omega)
  · intro e
    rw [e]
end
section
variable {α β : Type} [DecidableEq α] [DecidableEq β]
theorem ix_map (f : α → β) {x : α} : ∀ R : List α, (∀ z ∈ R, f z = f x → z = x) → ix (R.map f) (f x) = ix R x
  | [], _ => rfl
  | y :: R, h => by
    have ih := ix_map f R fun z hz => h z (List.mem_cons_of_mem _ hz)
    unfold ix at *
    rw [List.map_cons, List.idxOf_cons, List.idxOf_cons, ih]
    by_cases e : y = x
    · rw [e]
      simp
    · have e2 : ¬ f y = f x := fun q => e (h y List.mem_cons_self q)
      rw [show (f y == f x) = false from beq_eq_false_iff_ne.mpr e2, show (y == x) = false from beq_eq_false_iff_ne.mpr e]
/-- what is alike in the same places is numbered alike -/
theorem numsL_alike (f : α → β) : ∀ (l R : List α), (∀ x ∈ R ++ l, ∀ y ∈ R ++ l, f x = f y → x = y) → numsL (R.map f) (l.map f) = numsL R l
  | [], _, _ => rfl
  | x :: l, R, h => by
    have hm : ∀ {z : α}, z ∈ R ++ x :: l → (f z ∈ R.map f ↔ z ∈ R) := fun {z} hz => by
      rw [List.mem_map]
      constructor
      · rintro ⟨w, hw, e⟩
        rw [← h w (List.mem_append_left _ hw) z hz e]
        exact hw
      · exact fun q => ⟨z, q, rfl⟩
    have hx : x ∈ R ++ x :: l := List.mem_append_right _ List.mem_cons_self
    have e1 : addD (R.map f) (f x) = (addD R x).map f := by
      unfold addD
      by_cases m : x ∈ R
      · rw [if_pos m, if_pos ((hm hx).mpr m)]
      · rw [if_neg m, if_neg (fun q => m ((hm hx).mp q)), List.map_append]
        rfl
    have sub : ∀ z ∈ addD R x ++ l, z ∈ R ++ x :: l := fun z hz => by
      rcases List.mem_append.mp hz with q | q
      · rcases mem_addD.mp q with q | q
        · exact List.mem_append_left _ q
        · rw [q]; exact hx
      · exact List.mem_append_right _ (List.mem_cons_of_mem _ q)
    have ih := numsL_alike f l (addD R x) fun z hz y hy => h z (sub z hz) y (sub y hy)
    have e2 : ix ((addD R x).map f) (f x) = ix (addD R x) x := by
      exact ix_map f _ fun z hz e => h z (sub z (List.mem_append_left _ hz)) x hx e
    show ((ix (addD (R.map f) (f x)) (f x) : Nat) : Int) :: numsL (addD (R.map f) (f x)) (l.map f) = ((ix (addD R x) x : Nat) : Int) :: numsL (addD R x) l
    rw [e1, e2, ih]
end
/-- things that are alike at the same places have the same numbers -/
theorem nums_alike {α β : Type} [DecidableEq α] [DecidableEq β] (f : α → β) {l : List α} (h : ∀ x ∈ l, ∀ y ∈ l, f x = f y → x = y) : numsOf (l.map f) = numsOf l :=
  numsL_alike f l [] fun x hx y hy => h x (by simpa using hx) y (by simpa using hy)

/-! ### classes of states, made finer -/
theorem dist_nodup {α : Type} [DecidableEq α] (l : List α) : (dist l).Nodup := by
  have key : ∀ (l R : List α), R.Nodup → (l.foldl addD R).Nodup := by
    intro l
    induction l with
    | nil => exact fun _ h => h
    | cons x l ih => exact fun R h => ih _ (addD_nodup h x)
  exact key l [] List.nodup_nil
def keyOf (S : List (List Int)) (found : List Int) (i : Nat) : NKey := (found.getD i 0, (S.getD i []).map fun j => found.getD j.toNat 0)
def keysOf (S : List (List Int)) (found : List Int) : List NKey := (List.range S.length).map (keyOf S found)
def partS (S : List (List Int)) (told : List Int) : Nat → List Int
  | 0 => numsOf told
  | t + 1 => numsOf (keysOf S (partS S told t))
theorem keys_len (S : List (List Int)) (found : List Int) : (keysOf S found).length = S.length := by
  unfold keysOf
  rw [List.length_map, List.length_range]
theorem part_len {S : List (List Int)} {told : List Int} (h : told.length = S.length) : ∀ t, (partS S told t).length = S.length
  | 0 => (nums_len told).trans h
  | t + 1 => (nums_len _).trans (keys_len S _)
theorem keys_fst {S : List (List Int)} {found : List Int} (h : found.length = S.length) : (keysOf S found).map (·.1) = found := by
  unfold keysOf
  rw [List.map_map]
  refine List.ext_getElem (by rw [List.length_map, List.length_range, h]) fun i h1 h2 => ?_
  rw [List.getElem_map, List.getElem_range]
  show found.getD i 0 = found[i]
  rw [List.getD_eq_getElem?_getD, List.getElem?_eq_getElem h2]
  rfl
/-- numbers of things: once more numbered they stay -/
theorem nums_map {α : Type} [DecidableEq α] (l : List α) : numsOf l = l.map fun x => (ix (dist l) x : Int) := by
  refine List.ext_getElem? fun i => ?_
  rw [List.getElem?_map]
  cases e : l[i]? with
  | none =>
    rw [List.getElem?_eq_none_iff] at e
    rw [List.getElem?_eq_none_iff.mpr (by rw [nums_len]; exact e)]
    rfl
  | some x => rw [nums_at e]; rfl
theorem nums_twice {α : Type} [DecidableEq α] (l : List α) : numsOf (numsOf l) = numsOf l := by
  have h := nums_alike (fun x => (ix (dist l) x : Int)) (l := l) fun x hx y hy e => ix_inj (mem_dist.mpr hx) (mem_dist.mpr hy) (by omega)
  rw [← nums_map] at h
  exact h
theorem part_twice (S : List (List Int)) (told : List Int) : ∀ t, numsOf (partS S told t) = partS S told t
  | 0 => nums_twice told
  | _ + 1 => nums_twice _
theorem nums_dist {α : Type} [DecidableEq α] (l : List α) : (dist (numsOf l)).length = (dist l).length := by
  refine Nat.le_antisymm ?_ ?_
  · have := pigL ((dist l).map fun x => (ix (dist l) x : Int)) (dist (numsOf l)) (dist_nodup _) fun q hq => by
      have hq := mem_dist.mp hq
      rw [nums_map] at hq
      obtain ⟨x, hx, rfl⟩ := List.mem_map.mp hq
      exact List.mem_map.mpr ⟨x, mem_dist.mpr hx, rfl⟩
    rwa [List.length_map] at this
  · have := pigL (dist (numsOf l)) ((dist l).map fun x => (ix (dist l) x : Int)) (List.pairwise_map.mpr (List.Pairwise.imp_of_mem (fun {x y} hx hy z q => z (ix_inj hx hy (by omega))) (dist_nodup l))) fun q hq => by
      obtain ⟨x, hx, rfl⟩ := List.mem_map.mp hq
      refine mem_dist.mpr ?_
      rw [nums_map]
      exact List.mem_map.mpr ⟨x, mem_dist.mp hx, rfl⟩
    rwa [List.length_map] at this
/-- a round makes more classes, or it changes nothing -/
theorem part_grows {S : List (List Int)} {told : List Int} (h : told.length = S.length) {t : Nat} (ne : partS S told (t + 1) ≠ partS S told t) : (dist (partS S told t)).length < (dist (partS S told (t + 1))).length := by
  have hl := part_len h t
  have hf := keys_fst (S := S) hl
  generalize hP : partS S told t = found at *
  have ep : partS S told (t + 1) = numsOf (keysOf S found) := by
    show numsOf (keysOf S (partS S told t)) = _
    rw [hP]
  have tw : numsOf found = found := by rw [← hP]; exact part_twice S told t
  rw [ep] at ne ⊢
  rw [nums_dist]
  have two : ∃ x ∈ keysOf S found, ∃ y ∈ keysOf S found, x.1 = y.1 ∧ x ≠ y := by
    refine Classical.byContradiction fun c => ne ?_
    have := nums_alike (fun k : NKey => k.1) (l := keysOf S found) fun x hx y hy e => Classical.byContradiction fun z => c ⟨x, hx, y, hy, e, z⟩
    rw [hf, tw] at this
    exact this.symm
  obtain ⟨x, hx, y, hy, e, z⟩ := two
  have b := pigL (((dist (keysOf S found)).erase y).map fun k : NKey => k.1) (dist found) (dist_nodup _) fun q hq => by
    have hq := mem_dist.mp hq
    rw [← hf] at hq
    obtain ⟨k, hk, rfl⟩ := List.mem_map.mp hq
    by_cases g : k = y
    · refine List.mem_map.mpr ⟨x, (List.mem_erase_of_ne z).mpr (mem_dist.mpr hx), ?_⟩
      rw [g]
      exact e
    · exact List.mem_map.mpr ⟨k, (List.mem_erase_of_ne g).mpr (mem_dist.mpr hk), rfl⟩
  rw [List.length_map, List.length_erase_of_mem (mem_dist.mpr hy)] at b
  have p : 0 < (dist (keysOf S found)).length := List.length_pos_of_mem (mem_dist.mpr hy)
  omega

end
end Rt
namespace L2
open PySem PySem.Spec PyProof.Rows
theorem call_tuple_ofK {X : Cx} {K : PySem.W.Frag} (e : X.K = K) : CallR X (.type "tuple") (fun xs H Q => ∃ p ys, xs = [.ref p] ∧ ((SqL K H p ys ∧ ∀ l, H l = none → Q (.ref l) (upd H l (.tup ys))) ∨ (SqT K H p ys ∧ Q (.ref p) H))) := by
  subst e
  exact call_tuple_of
theorem pi_listK {X : Cx} {K : PySem.W.Frag} {tg l : Expr} {tl : TE} (hK : X.K = K) (hl : PE X l tl) : PI X tg l (iList K tl) := by
  subst hK
  exact pi_list hl
end L2
namespace Rt
open PySem L2 PySem.Spec PyProof.Rows
section
variable {P : Program} {w : World} {K : PySem.W.Frag} {mg : Str → Option Value} {base : Heap}
/-! ### classes -/
theorem MachAt.rowC {H : Hp} {q : Addr} {told : List Int} {S : List (List Int)} (h : MachAt H q told S) : ∃ (x y : Addr) (rs : List Addr), H q = some (.tup [.ref x, .ref y]) ∧ H x = some (.lst (told.map V.int)) ∧ H y = some (.lst (rs.map V.ref)) ∧ rs.length = S.length ∧
    ∀ (i : Nat) (row : List Int), S[i]? = some row → ∃ r, (rs.map V.ref)[i]? = some (.ref r) ∧ H r = some (.lst (row.map V.int)) := by
  obtain ⟨x, y, rs, h1, h2, h3, h4, h5⟩ := h
  refine ⟨x, y, rs, h1, h2, h3, h4, fun i row hi => ?_⟩
  have li : i < rs.length := by rw [h4]; exact (List.getElem?_eq_some_iff.mp hi).1
  exact ⟨rs[i], by rw [List.getElem?_map, List.getElem?_eq_getElem li]; rfl, h5 _ _ _ (List.getElem?_eq_getElem li) hi⟩
theorem KeyRefs.snoc {H : Hp} {b : Addr} {k : NKey} (hb : NkAt H b k) : ∀ {vs : List V} {ks : List NKey}, KeyRefs H vs ks → KeyRefs H (vs ++ [.ref b]) (ks ++ [k])
  | [], [], _ => ⟨⟨b, rfl, hb⟩, trivial⟩
  | _ :: _, _ :: _, ⟨h1, h3⟩ => ⟨h1, h3.snoc hb⟩
  | [], _ :: _, h => h.elim
  | _ :: _, [], h => h.elim
theorem fold_map {α β : Type} [DecidableEq α] [DecidableEq β] {f : α → β} (hf : ∀ a b, f a = f b → a = b) : ∀ l R : List α, (l.map f).foldl addD (R.map f) = (l.foldl addD R).map f
  | [], _ => rfl
  | x :: l, R => by
    have e : addD (R.map f) (f x) = (addD R x).map f := by
      unfold addD
      by_cases m : x ∈ R
      · rw [if_pos m, if_pos (List.mem_map_of_mem m)]
      · rw [if_neg m, if_neg (fun q => by
          obtain ⟨z, hz, e⟩ := List.mem_map.mp q
          exact m (hf _ _ e ▸ hz)), List.map_append]
        rfl
    show (l.map f).foldl addD (addD (R.map f) (f x)) = _
    rw [e, fold_map hf l]
    rfl
theorem dist_int (l : List Int) : (dist (l.map V.int)).length = (dist l).length := by
  have := fold_map (f := V.int) (fun a b e => by injection e) l []
  show ((l.map V.int).foldl addD ([].map V.int)).length = _
  rw [this, List.length_map]
  rfl
def spClasses (K : PySem.W.Frag) : Sp := fun vs H Q _ => ∃ (q : Addr) (told : List Int) (S : List (List Int)), vs = [.ref q] ∧ MachAt H q told S ∧ (∀ row ∈ S, row.length ≤ 16 ∧ ∀ j ∈ row, 0 ≤ j ∧ j < (S.length : Int)) ∧ told.length = S.length ∧ S.length ≤ 400 ∧
  ∀ (t : Nat) (D : Addr) (H' : Hp), partS S told (t + 1) = partS S told t → Same H H' → H' D = some (.lst ((partS S told t).map V.int)) → Q (.ref D) H'
theorem ok_classes (T : Tx P K mg) : FnOk P w K mg base CX0 lv_classes T.a_classes T.d_classes ["machine"] (spClasses K) := by
  refine T.F_classes.ok sc_classes (fun vs H Q E h => ?_) (fun cdv A outer s H vs Q E hr h => ?_)
  · obtain ⟨q, told, S, rfl, _⟩ := h
    rfl
  · obtain ⟨q, told, S, rfl, m, g, tl, sl, k⟩ := h
    obtain ⟨x, y, rs, m1, m2, m3, rl, m4⟩ := m.rowC
    refine ⟨_, (pss_cons (ps_asg (pv 0) (pg_tup rfl (pgs_cons (pg_name (i := 1) sc_classes.nd rfl (Or.inl rfl)) (pgs_cons (pg_name (i := 2) sc_classes.nd rfl (Or.inl rfl)) pgs_nil))))
      (pss_cons (ps_set (i := 3) sc_classes.nd rfl (Or.inr rfl) (pe_call (ok_numbered T) (hr.mono (by decide)) rfl T.g_numbered T.F_numbered.kp T.b_numbered .nil pass0 (pa_cons (pv 1) pa_nil)))
      (pss_one (ps_while PassesOwn.never (pt_val pe_bl) (pss_cons (ps_set (i := 4) sc_classes.nd rfl (Or.inl rfl) (pe_call (ok_numbered T) (hr.mono (by decide)) rfl T.g_numbered T.F_numbered.kp T.b_numbered .nil pass0 (pa_cons (pe_lc (own := [("state", 5), ("row", 6)]) (tt := tYes) (g := gTup K 2 (gCons (gName 5) (gCons (gName 6) gNil))) rfl sc_classes.nd (pi_enum (by rfl) T.n_enumerate (pa_cons (pv 2) pa_nil)) (blkOk_by (own := [("state", 5), ("row", 6)]) (N := ["machine", "told", "steps", "found", "finer", "state", "row", "later"]) (sc := defScope s_classes) (by decide +kernel)) (fun _ _ _ _ _ => pg_tup rfl (pgs_cons (pg_name (i := 5) sc_classes.nd rfl (Or.inl rfl)) (pgs_cons (pg_name (i := 6) sc_classes.nd rfl (Or.inl rfl)) pgs_nil))) (fun _ _ _ _ _ => pts_nil) (fun _ _ _ _ _ => (pe_tup (pa_cons (pe_ix (ix_lK (K := K) rfl) (pv 3) (pv 5) (fun _ _ => rfl)) (pa_cons (pe_callTy (call_tuple_ofK (K := K) rfl) (by rfl) T.n_tuple (by decide +kernel) (pa_cons (pe_lc (own := [("later", 7)]) (g := gName 7) (tt := tYes) rfl sc_classes.nd (pi_listK (K := K) rfl (pv 6)) (blkIn (own := [("later", 7)]) (N := ["machine", "told", "steps", "found", "finer", "state", "row", "later"]) (by decide +kernel)) (fun _ _ _ _ _ => pg_name (i := 7) sc_classes.nd rfl (Or.inl rfl)) (fun _ _ _ _ _ => pts_nil) (fun _ _ _ _ _ => (pe_ix (ix_lK (K := K) rfl) (pv 3) (pv 7) (fun _ _ => rfl)))) pa_nil)) pa_nil))))) pa_nil)))
      (pss_cons (ps_if (pt_cmpR (op_eqD hr.units) (pv 4) (pv 3) (nomark _)) (pss_one (ps_ret (pv 3))) pss_nil)
      (pss_one (ps_set (i := 3) sc_classes.nd rfl (Or.inr rfl) (pv 4))))))))), ?_⟩
    refine ⟨_, rfl, q, _, rfl, SqT.of m1, rfl, _, _, rfl, _, _, rfl, rfl, ?_⟩
    refine ⟨_, rfl, x, rfl, .inl ⟨told, m2, by omega, fun F H1 nF S1 hF => ?_⟩⟩
    dsimp only [gName, tSeq]
    refine while_by (fun σ H2 => ∃ (t : Nat) (F : Addr) (x4 x5 x6 x7 : Option V), Same H H2 ∧ H2 F = some (.lst ((partS S told t).map V.int)) ∧ σ = [some (.ref q), some (.ref x), some (.ref y), some (.ref F), x4, x5, x6, x7])
      (fun (σ : L2.St) (H2 : Hp) => match (σ[3]? : Option (Option V)) with | some (some (V.ref a2)) => (match H2 a2 with | some (.lst xs) => 401 - (dist xs).length | _ => 0) | _ => 0) ?_ ?_ ?_
    · exact ⟨0, F, none, none, none, none, S1, hF, rfl⟩
    · rintro σ H2 ⟨t, F, x4, x5, x6, x7, S2, hF2, rfl⟩
      refine ⟨true, rfl, iteT ?_⟩
      refine ⟨_, rfl, y, _, rfl, SqL.of (S2 _ _ m3), fun L hL => ?_⟩
      refine lc_it walk_enum (fun i H3 => Same H2 H3 ∧ ∃ us, H3 L = some (.lst us) ∧ KeyRefs H3 us ((keysOf S (partS S told t)).take i)) ⟨same_upd hL, [], upd_same, trivial⟩ (fun i H3 _ ⟨S3, _⟩ => SqL.of (S3 _ _ (S2 _ _ m3))) ?_ ?_
      · rintro i xx H3 H4 hi ⟨S3, us, hL3, hk⟩ yy
        obtain ⟨Tt, x5', x6', rfl, nT, rfl, ex, ey⟩ := yy
        cases (show some (V.int (i : Nat)) = some x5' from ex)
        have ey : (rs.map V.ref)[i]? = some x6' := ey
        rw [List.length_map, rl] at hi
        have hrow : S[i]? = some S[i] := List.getElem?_eq_getElem hi
        obtain ⟨r, hr1, hr2⟩ := m4 i _ hrow
        rw [hr1] at ey
        cases ey
        have S4 := same_upd (o := .tup [.int (i : Nat), .ref r]) nT
        refine ⟨Tt, _, rfl, SqT.of upd_same, rfl, _, _, rfl, _, _, rfl, rfl, rfl, ?_⟩
        have hl := part_len tl t
        generalize hfd : partS S told t = found at *
        have at_ : ∀ n : Nat, n < S.length → atI (found.map V.int) (n : Int) = some (.int (found.getD n 0)) := fun n h => atI_nat (xs := found.map V.int) (j := n) (v := .int (found.getD n 0)) (by rw [List.getElem?_map, List.getD_eq_getElem?_getD, List.getElem?_eq_getElem (by omega)]; rfl)
        have hF4 := S4 _ _ (S3 _ _ hF2)
        have hr4 := S4 _ _ (S3 _ _ (S2 _ _ hr2))
        have hL4 := S4 _ _ hL3
        have dom := (g _ (List.getElem_mem hi)).2
        have rl16 := (g _ (List.getElem_mem hi)).1
        have ul := hk.len
        rw [List.length_take, keys_len] at ul
        have bigs : (2000 : Nat) ≤ sizeLine := by decide
        refine ⟨_, rfl, _, rfl, F, _, _, _, rfl, rfl, SqL.of hF4, at_ i hi, ?_⟩
        have hkk : (keysOf S found)[i]? = some (keyOf S found i) := by
          unfold keysOf
          rw [List.getElem?_map, List.getElem?_range hi]
          rfl
        have eS : S.getD i [] = S[i] := by rw [List.getD_eq_getElem?_getD, hrow]; rfl
        have hrow2 : keyOf S found i = (found.getD i 0, S[i].map fun z => found.getD z.toNat 0) := by unfold keyOf; rw [eS]
        generalize S[i] = row at *
        generalize upd H3 Tt (.tup [.int (i : Nat), .ref r]) = H5 at *
        refine ⟨_, rfl, r, rfl, ⟨_, SqL.of hr4⟩, fun D2 hD2 => ?_⟩
        refine lc_it walk_list (fun j H6 => Same H5 H6 ∧ H6 D2 = some (.lst (((row.take j).map fun z => found.getD z.toNat 0).map V.int))) ⟨same_upd hD2, upd_same⟩ (fun j H6 _ ⟨S6, _⟩ => SqL.of (S6 _ _ hr4)) ?_ ?_
        · rintro j z H6 H7 hj ⟨S6, hD6⟩ ⟨rfl, hz⟩
          rw [List.getElem?_map] at hz
          obtain ⟨v, hv, rfl⟩ := Option.map_eq_some_iff.mp hz
          obtain ⟨v0, v1⟩ := dom v (List.mem_of_getElem? hv)
          have av := at_ v.toNat (by omega)
          rw [Int.toNat_of_nonneg v0] at av
          refine ⟨rfl, _, rfl, _, rfl, F, _, _, _, rfl, rfl, SqL.of (S6 _ _ hF4), av, _, hD6, by rw [List.length_map, List.length_map, List.length_take]; omega, fun e o q => ?_, ?_⟩
          · rw [upd_ne (ne_of_none q hD2)]
            exact S6 _ _ q
          · rw [upd_same, take_oneT hv, List.map_append, List.map_append]
            rfl
        · rintro H6 ⟨S6, hD6⟩
          rw [List.length_map, List.take_length] at hD6
          refine ⟨D2, _, rfl, .inl ⟨SqL.of hD6, fun tp htp => ⟨by show 2 ≤ sizeLine; decide, fun kp hkp => ?_⟩⟩⟩
          have S7 := S6.trans (same_upd (o := .tup ((row.map fun z => found.getD z.toNat 0).map V.int)) htp)
          have S8 := S7.trans (same_upd (o := .tup [.int (found.getD i 0), .ref tp]) hkp)
          have hL8 := S8 _ _ hL4
          have nLn : H2 L = none := hL
          have h1 := same_upd (o := .tup [.int (found.getD i 0), .ref tp]) hkp _ _ (upd_same (H := H6) (a := tp) (o := .tup ((row.map fun z => found.getD z.toNat 0).map V.int)))
          have h2 := upd_same (H := upd H6 tp (.tup ((row.map fun z => found.getD z.toNat 0).map V.int))) (a := kp) (o := .tup [.int (found.getD i 0), .ref tp])
          generalize upd (upd H6 tp (.tup ((row.map fun z => found.getD z.toNat 0).map V.int))) kp (.tup [.int (found.getD i 0), .ref tp]) = H9 at *
          have kT : ∀ e xs, H9 e = some (.tup xs) → upd H9 L (.lst (us ++ [.ref kp])) e = some (.tup xs) := fun e xs q => by
            rw [upd_ne (ne_of q hL8 (by intro z; cases z))]
            exact q
          refine ⟨us, hL8, by omega, fun e o q => ?_, _, upd_same, ?_⟩
          · rw [upd_ne (ne_of_none q nLn)]
            exact S8 _ _ (S4 _ _ (S3 _ _ q))
          · rw [take_oneT hkk]
            refine (hk.of fun _ _ q => kT _ _ (S8 _ _ (S4 _ _ q))).snoc ?_
            rw [hrow2]
            exact ⟨tp, kT _ _ h2, kT _ _ h1⟩
      · rintro H3 ⟨S3, us, hL3, hk⟩
        have kl := keys_len S (partS S told t)
        rw [List.length_map, rl, ← kl, List.take_length] at hk
        have hul := hk.len
        refine ⟨L, rfl, .inr ⟨us, _, hL3, hk, by omega, fun G H4 nG S4 hG => ?_⟩⟩
        have hF4 := S4 _ _ (S3 _ _ hF2)
        refine ⟨_, rfl, _, rfl, _, _, dp_ints (SqL.of hG), dp_ints (SqL.of hF4), shaped_lints _, shaped_lints _, _, rfl, ?_⟩
        rw [eqv_ints]
        have St := (S2.trans S3).trans S4
        refine ite2 (fun e => ?_) (fun e => ?_)
        · exact ⟨_, rfl, k t F H4 (of_decide_eq_true e) St hF4⟩
        · have ne : partS S told (t + 1) ≠ partS S told t := fun z => e (decide_eq_true z)
          have gr := part_grows tl ne
          refine ⟨_, rfl, ⟨t + 1, G, _, _, _, _, St, hG, rfl⟩, ?_⟩
          show (match H4 G with | some (.lst xs) => 401 - (dist xs).length | _ => 0) < (match H2 F with | some (.lst xs) => 401 - (dist xs).length | _ => 0)
          have hG2 : H4 G = some (.lst ((partS S told (t + 1)).map V.int)) := hG
          rw [hG2, hF2]
          show 401 - (dist ((partS S told (t + 1)).map V.int)).length < 401 - (dist ((partS S told t).map V.int)).length
          rw [dist_int, dist_int]
          have b1 := dist_le (partS S told (t + 1))
          have b2 := part_len tl (t + 1)
          omega
    · exact fun σ H Q Q' h ⟨b, e, q⟩ => ⟨b, e, h _ _ q⟩

/-! ### max of a tuple of numbers -/
end
end Rt
namespace L2
open PySem PySem.Spec PyProof.Rows
section
variable {prog : Program} {w : World} {A : Around} {E : Value → Shared → Prop} {s : Shared} {l : Addr} {its : List Value} {ns : List Int} {Q : Value → Shared → Prop}
theorem max_rawT (hh : A.handled = none) (hl : s.heap.IsTuple l its.toArray) (hi : IntsAre its ns) (hne : 0 < ns.length)
    (h : ∀ h' tk M t', (∀ b o, s.heap.get? b = some o → h'.get? b = some o) → M ∈ ns → (∀ a, a ∈ ns → a ≤ M) → Q (.int M t') { s with heap := h', toks := tk }) : wpAny (model prog w) A (call (.builtin "max") [.ref l]) Q E s := by
  obtain ⟨xs, e⟩ := hi.allInts.items
  have hn : numsOf (intItems xs).toList = ns := by rw [← e]; exact hi.numsOf
  rw [nums_intItems] at hn
  subst hn
  rw [e] at hl
  have hsz : 0 < xs.size := by simpa using hne
  have hlt : l < s.heap.objs.size := by obtain ⟨_, e, _⟩ := hl; exact Heap.lt_size e
  refine call_max_walk (wpAny_pyIter_tuple hl ?_)
  refine ⟨_, _, _, _, _, _, _, rfl, Walks.tuple (A := A.in1) hh _ l (Nat.ne_of_lt hlt) (intItems xs), ⟨⟨_, Heap.get?_push_size _ rfl, rfl, rfl⟩, hl.push _⟩, (fun b hb => ?_), by simpa [intItems] using hsz, CmpOf.ints_gt (numAt xs) (fun _ _ => intItems_at), fun v h' tk hv hk => ?_⟩
  · show b < (s.heap.push _).objs.size
    rw [Heap.size_push]
    rcases List.mem_cons.mp hb with rfl | hb
    · exact Nat.lt_succ_self _
    · rcases List.mem_cons.mp hb with rfl | hb
      · exact Nat.lt_succ_of_lt hlt
      · cases hb
  · have hv : (intItems xs)[argBest (fun i j => decide (numAt xs i > numAt xs j)) (xs.size - 1)]? = some v := by simpa [intItems] using hv
    obtain ⟨t, rfl⟩ := intItems_at hv
    obtain ⟨h1, h2⟩ := argBest_gt (numAt xs) (xs.size - 1)
    refine h h' tk _ t (fun b o e => ?_) ?_ fun a ha => ?_
    · refine hk b o (fun hm => ?_) (Heap.get?_push_of_some _ e)
      rcases List.mem_cons.mp hm with e1 | hm
      · exact absurd (e1 ▸ Heap.lt_size e) (Nat.lt_irrefl _)
      · cases hm
    · rw [numAt_eq]; exact PySem.getD_mem (by rw [List.length_map, Array.length_toList]; omega)
    · obtain ⟨j, hj, rfl⟩ := mem_getD ha
      rw [List.length_map, Array.length_toList] at hj
      rw [← numAt_eq]; exact h2 j (by omega)
end
section
variable {X : Cx}
def rMaxT (K : PySem.W.Frag) : List V → Hp → VK → Prop := fun vs H Q => ∃ (a : Addr) (ns : List Int), vs = [V.ref a] ∧ SqT K H a (ns.map V.int) ∧ 0 < ns.length ∧ ∀ m, m ∈ ns → (∀ y, y ∈ ns → y ≤ m) → Q (.int m) H
theorem cr_maxT (hc : X.calm = true) : CallR X (.builtin "max") (rMaxT X.K) := by
  intro pins s σ H vs us Q I r h
  obtain ⟨a, ns, rfl, hs, hne, q⟩ := h
  obtain ⟨its, rv, hl, _⟩ := I.tuple hs
  rw [Vals.ref1 r]
  exact max_rawT (I.ok.hd hc) hl rv.ints hne fun h' tk m t' hk h1 h2 => ⟨.int _, H, I.kept hk, ⟨_, rfl⟩, q m h1 h2⟩
end
end L2
namespace Rt
open PySem L2 PySem.Spec PyProof.Rows
section
variable {P : Program} {w : World} {K : PySem.W.Frag} {mg : Str → Option Value} {base : Heap}

/-! ### where the classes come to rest -/
def FixP (S : List (List Int)) (told F : List Int) : Prop := ∃ t, partS S told (t + 1) = partS S told t ∧ F = partS S told t
section
variable {S : List (List Int)} {told F G : List Int}
theorem part_stay {t : Nat} (h : partS S told (t + 1) = partS S told t) : ∀ k, partS S told (t + k) = partS S told t
  | 0 => rfl
  | k + 1 => by
    show numsOf (keysOf S (partS S told (t + k))) = _
    rw [part_stay h k]
    exact h
theorem FixP.uniq (a : FixP S told F) (b : FixP S told G) : F = G := by
  obtain ⟨t, h1, rfl⟩ := a
  obtain ⟨u, h2, rfl⟩ := b
  rw [← part_stay h1 u, ← part_stay h2 t, Nat.add_comm]
theorem FixP.twice (a : FixP S told F) : numsOf F = F := by
  obtain ⟨t, _, rfl⟩ := a
  exact part_twice S told t
theorem FixP.len (tl : told.length = S.length) (a : FixP S told F) : F.length = S.length := by
  obtain ⟨t, _, rfl⟩ := a
  exact part_len tl t
theorem getD_iff {l : List Int} {i j : Nat} (hi : i < l.length) (hj : j < l.length) : l.getD i 0 = l.getD j 0 ↔ l[i]? = l[j]? := by
  rw [List.getD_eq_getElem?_getD, List.getD_eq_getElem?_getD, List.getElem?_eq_getElem hi, List.getElem?_eq_getElem hj]
  simp
theorem key_at {i : Nat} (h : i < S.length) (F : List Int) : (keysOf S F)[i]? = some (keyOf S F i) := by
  unfold keysOf
  rw [List.getElem?_map, List.getElem?_range h]
  rfl
/-- what is of one class has one label -/
theorem part_label (tl : told.length = S.length) : ∀ (t i j : Nat), i < S.length → j < S.length → (partS S told t).getD i 0 = (partS S told t).getD j 0 → told.getD i 0 = told.getD j 0
  | 0, i, j, hi, hj, h => by
    have pl := part_len tl 0
    rw [getD_iff (by omega) (by omega)] at h
    have e := (nums_same (List.getElem?_eq_getElem (show i < told.length by omega)) (List.getElem?_eq_getElem (show j < told.length by omega))).mp h
    rw [getD_iff (by omega) (by omega), List.getElem?_eq_getElem (show i < told.length by omega), List.getElem?_eq_getElem (show j < told.length by omega), e]
  | t + 1, i, j, hi, hj, h => by
    have pl := part_len tl (t + 1)
    rw [getD_iff (by omega) (by omega)] at h
    have e := (nums_same (key_at hi _) (key_at hj _)).mp h
    exact part_label tl t i j hi hj (congrArg Prod.fst e)
theorem FixP.label (tl : told.length = S.length) (a : FixP S told F) {i j : Nat} (hi : i < S.length) (hj : j < S.length) (h : F.getD i 0 = F.getD j 0) : told.getD i 0 = told.getD j 0 := by
  obtain ⟨t, _, rfl⟩ := a
  exact part_label tl t i j hi hj h
theorem nums_ix (h : numsOf F = F) {x : Int} (hx : x ∈ F) : x = (ix (dist F) x : Int) := by
  obtain ⟨i, hi⟩ := List.mem_iff_getElem?.mp hx
  have := nums_at hi
  rw [h, hi] at this
  exact Option.some.inj this
theorem nums_bd (h : numsOf F = F) {x : Int} (hx : x ∈ F) : 0 ≤ x ∧ x < ((dist F).length : Int) := by
  have e := nums_ix h hx
  have := List.idxOf_lt_length_of_mem (mem_dist.mpr hx)
  unfold ix at e
  omega
theorem nums_max (h : numsOf F = F) {M : Int} (hm : M ∈ F) (hM : ∀ y ∈ F, y ≤ M) : M + 1 = ((dist F).length : Int) := by
  have b := nums_bd h hm
  have p := pigL ((List.range (M + 1).toNat).map fun n : Nat => (n : Int)) (dist F) (dist_nodup F) fun q hq => by
    have hq := mem_dist.mp hq
    have b1 := nums_bd h hq
    have b2 := hM q hq
    exact List.mem_map.mpr ⟨q.toNat, List.mem_range.mpr (by omega), by omega⟩
  rw [List.length_map, List.length_range] at p
  omega
theorem dist_uniq {ks : List Int} (nd : ks.Nodup) (h : ∀ k, k ∈ ks ↔ k ∈ F) : ks.length = (dist F).length := by
  refine Nat.le_antisymm (pigL (dist F) ks nd fun q hq => mem_dist.mpr ((h q).mp hq)) (pigL ks (dist F) (dist_nodup F) fun q hq => (h q).mpr (mem_dist.mp hq))
end
theorem good_rows {b : Nat} {S : List (List Int)} (hb : b ≤ 16) (g : GoodS (b : Int) S) : ∀ row ∈ S, row.length ≤ 16 ∧ ∀ j ∈ row, 0 ≤ j ∧ j < (S.length : Int) := fun row hr => by
  have := g.len row hr
  exact ⟨by omega, g.dom row hr⟩

/-! ### which words tell two states apart -/
/-- a word of at most so many figures leads the two to unlike labels -/
def dif (told : List Int) (S : List (List Int)) (b : Nat) : Nat → Nat → Nat → Bool
  | 0, i, j => decide (told.getD i 0 ≠ told.getD j 0)
  | t + 1, i, j => dif told S b t i j || (List.range b).any fun f => dif told S b t (goS S i (f : Int)) (goS S j (f : Int))
/-- the length of the shortest one, if it is at most T -/
def mkL (told : List Int) (S : List (List Int)) (b : Nat) (T i j : Nat) : Option Nat := (List.range (T + 1)).find? fun t => dif told S b t i j
section
variable {told : List Int} {S : List (List Int)} {b : Nat}
theorem dif_succ {t i j : Nat} : dif told S b (t + 1) i j = true ↔ dif told S b t i j = true ∨ ∃ f, f < b ∧ dif told S b t (goS S i (f : Int)) (goS S j (f : Int)) = true := by
  show (dif told S b t i j || (List.range b).any fun f => dif told S b t (goS S i (f : Int)) (goS S j (f : Int))) = true ↔ _
  rw [Bool.or_eq_true, List.any_eq_true]
  constructor
  · rintro (h | ⟨f, h1, h2⟩)
    · exact .inl h
    · exact .inr ⟨f, List.mem_range.mp h1, h2⟩
  · rintro (h | ⟨f, h1, h2⟩)
    · exact .inl h
    · exact .inr ⟨f, List.mem_range.mpr h1, h2⟩
theorem dif_mono {s t i j : Nat} (h : s ≤ t) (d : dif told S b s i j = true) : dif told S b t i j = true := by
  induction h with
  | refl => exact d
  | step _ ih => exact dif_succ.mpr (.inl ih)
theorem mkL_some {T i j t : Nat} : mkL told S b T i j = some t ↔ t ≤ T ∧ dif told S b t i j = true ∧ ∀ s, s < t → dif told S b s i j = false := by
  unfold mkL
  rw [List.find?_range_eq_some]
  constructor
  · rintro ⟨h1, h2, h3⟩
    exact ⟨by have := List.mem_range.mp h2; omega, h1, fun s hs => by simpa using h3 s hs⟩
  · rintro ⟨h1, h2, h3⟩
    exact ⟨h2, List.mem_range.mpr (by omega), fun s hs => by rw [h3 s hs]; rfl⟩
theorem mkL_none {T i j : Nat} : mkL told S b T i j = none ↔ dif told S b T i j = false := by
  unfold mkL
  rw [List.find?_eq_none]
  constructor
  · exact fun h => by simpa using h T (List.mem_range.mpr (Nat.lt_succ_self T))
  · intro h t ht d
    have := dif_mono (show t ≤ T by have := List.mem_range.mp ht; omega) d
    rw [h] at this
    cases this
theorem mkL_succ (T i j : Nat) : mkL told S b (T + 1) i j = (mkL told S b T i j).or (if dif told S b (T + 1) i j = true then some (T + 1) else none) := by
  unfold mkL
  rw [List.range_succ, List.find?_append]
  congr 1
  rw [List.find?_cons]
  by_cases h : dif told S b (T + 1) i j = true
  · rw [h]
    rfl
  · rw [Bool.not_eq_true] at h
    rw [h]
    rfl
/-- the pairs of a round: those that a figure leads to a pair of the round before -/
theorem mkL_new {T i j : Nat} (h : mkL told S b T i j = none) : dif told S b (T + 1) i j = true ↔ ∃ f, f < b ∧ mkL told S b T (goS S i (f : Int)) (goS S j (f : Int)) = some T := by
  have h0 := mkL_none.mp h
  constructor
  · intro d
    rcases dif_succ.mp d with q | ⟨f, hf, q⟩
    · rw [h0] at q; cases q
    · refine ⟨f, hf, mkL_some.mpr ⟨Nat.le_refl _, q, fun s hs => ?_⟩⟩
      cases z : dif told S b s (goS S i (f : Int)) (goS S j (f : Int)) with
      | false => rfl
      | true =>
        have := dif_mono (show s + 1 ≤ T from hs) (dif_succ.mpr (.inr ⟨f, hf, z⟩))
        rw [h0] at this
        cases this
  · rintro ⟨f, hf, q⟩
    exact dif_succ.mpr (.inr ⟨f, hf, (mkL_some.mp q).2.1⟩)
/-- a round that brings nothing new is the last -/
theorem dif_stay {T : Nat} (g : GoodS (b : Int) S) (h : ∀ i j, i < S.length → j < S.length → dif told S b (T + 1) i j = true → dif told S b T i j = true) : ∀ (k i j : Nat), i < S.length → j < S.length → dif told S b (T + k) i j = true → dif told S b T i j = true
  | 0, _, _, _, _, d => d
  | k + 1, i, j, hi, hj, d => by
    rcases dif_succ.mp (show dif told S b (T + k + 1) i j = true from d) with q | ⟨f, hf, q⟩
    · exact dif_stay g h k i j hi hj q
    · obtain ⟨_, _, _, g1⟩ := g.go hi (f := (f : Int)) (by omega) (by omega)
      obtain ⟨_, _, _, g2⟩ := g.go hj (f := (f : Int)) (by omega) (by omega)
      exact h i j hi hj (dif_succ.mpr (.inr ⟨f, hf, dif_stay g h k _ _ g1 g2 q⟩))
theorem dif_all {T : Nat} (g : GoodS (b : Int) S) (h : ∀ i j, i < S.length → j < S.length → dif told S b (T + 1) i j = true → dif told S b T i j = true) {t i j : Nat} (hi : i < S.length) (hj : j < S.length) (d : dif told S b t i j = true) : dif told S b T i j = true :=
  dif_stay g h t i j hi hj (dif_mono (Nat.le_add_left _ _) d)
/-- by words -/
theorem dif_word : ∀ {t i j : Nat}, dif told S b t i j = true ↔ ∃ fs : List Int, fs.length ≤ t ∧ (∀ f ∈ fs, 0 ≤ f ∧ f < (b : Int)) ∧ told.getD (runS S i fs) 0 ≠ told.getD (runS S j fs) 0
  | 0, i, j => by
    show decide _ = true ↔ _
    rw [decide_eq_true_iff]
    constructor
    · exact fun h => ⟨[], Nat.le_refl _, fun _ q => (nomatch q), h⟩
    · rintro ⟨fs, h1, _, h3⟩
      rw [List.length_eq_zero_iff.mp (Nat.le_zero.mp h1)] at h3
      exact h3
  | t + 1, i, j => by
    rw [dif_succ]
    constructor
    · rintro (h | ⟨f, hf, h⟩)
      · obtain ⟨fs, h1, h2, h3⟩ := dif_word.mp h
        exact ⟨fs, by omega, h2, h3⟩
      · obtain ⟨fs, h1, h2, h3⟩ := dif_word.mp h
        refine ⟨(f : Int) :: fs, by rw [List.length_cons]; omega, fun g hg => ?_, h3⟩
        rcases List.mem_cons.mp hg with e | e
        · rw [e]; omega
        · exact h2 g e
    · rintro ⟨fs, h1, h2, h3⟩
      cases fs with
      | nil => exact .inl (dif_word.mpr ⟨[], Nat.zero_le _, fun _ q => (nomatch q), h3⟩)
      | cons f fs =>
        have hf := h2 f List.mem_cons_self
        refine .inr ⟨f.toNat, by omega, ?_⟩
        rw [Int.toNat_of_nonneg hf.1]
        exact dif_word.mpr ⟨fs, by rw [List.length_cons] at h1; omega, fun g hg => h2 g (List.mem_cons_of_mem _ hg), h3⟩
end

/-! ### the classes are those that no word tells apart -/
section
variable {told F : List Int} {S : List (List Int)} {b : Nat}
theorem row_map (g : GoodS (b : Int) S) {i : Nat} (hi : i < S.length) (F : List Int) : ((S.getD i []).map fun j => F.getD j.toNat 0) = (List.range b).map fun f : Nat => F.getD (goS S i (f : Int)) 0 := by
  have hr : S[i]? = some S[i] := List.getElem?_eq_getElem hi
  have e1 : S.getD i [] = S[i] := by
    rw [List.getD_eq_getElem?_getD, hr]
    rfl
  have hl := g.len _ (List.getElem_mem hi)
  refine List.ext_getElem (by rw [List.length_map, List.length_map, List.length_range, e1, hl]; exact Int.toNat_natCast b) fun f h1 h2 => ?_
  rw [List.getElem_map, List.getElem_map, List.getElem_range]
  have lf : f < S[i].length := by rw [List.length_map, e1] at h1; exact h1
  have e2 : goS S i (f : Int) = ((S.getD i [])[f]'(by rw [e1]; exact lf)).toNat := by
    unfold goS
    rw [Int.toNat_natCast, List.getD_eq_getElem?_getD (l := S.getD i []), List.getElem?_eq_getElem (by rw [e1]; exact lf)]
    rfl
  rw [e2]
theorem key_iff (g : GoodS (b : Int) S) {i j : Nat} (hi : i < S.length) (hj : j < S.length) (F : List Int) : keyOf S F i = keyOf S F j ↔ F.getD i 0 = F.getD j 0 ∧ ∀ f : Nat, f < b → F.getD (goS S i (f : Int)) 0 = F.getD (goS S j (f : Int)) 0 := by
  unfold keyOf
  rw [row_map g hi, row_map g hj, Prod.mk.injEq, List.map_inj_left]
  constructor
  · exact fun ⟨h1, h2⟩ => ⟨h1, fun f hf => h2 f (List.mem_range.mpr hf)⟩
  · exact fun ⟨h1, h2⟩ => ⟨h1, fun f hf => h2 f (List.mem_range.mp hf)⟩
theorem part_dif (g : GoodS (b : Int) S) (tl : told.length = S.length) : ∀ (t i j : Nat), i < S.length → j < S.length → ((partS S told t).getD i 0 = (partS S told t).getD j 0 ↔ dif told S b t i j = false)
  | 0, i, j, hi, hj => by
    have pl := part_len tl 0
    have e := nums_same (List.getElem?_eq_getElem (show i < told.length by omega)) (List.getElem?_eq_getElem (show j < told.length by omega))
    rw [getD_iff (by omega) (by omega)]
    show (numsOf told)[i]? = (numsOf told)[j]? ↔ decide (told.getD i 0 ≠ told.getD j 0) = false
    rw [e, decide_eq_false_iff_not, Decidable.not_not, getD_iff (by omega) (by omega), List.getElem?_eq_getElem (show i < told.length by omega), List.getElem?_eq_getElem (show j < told.length by omega)]
    exact ⟨fun h => congrArg some h, fun h => Option.some.inj h⟩
  | t + 1, i, j, hi, hj => by
    have pl := part_len tl (t + 1)
    have ih := part_dif g tl t
    rw [getD_iff (by omega) (by omega)]
    show (numsOf (keysOf S (partS S told t)))[i]? = (numsOf (keysOf S (partS S told t)))[j]? ↔ _
    rw [nums_same (key_at hi _) (key_at hj _), key_iff g hi hj, ih i j hi hj]
    constructor
    · rintro ⟨h1, h2⟩
      cases e : dif told S b (t + 1) i j with
      | false => rfl
      | true =>
        rcases dif_succ.mp e with q | ⟨f, hf, q⟩
        · rw [h1] at q; cases q
        · obtain ⟨_, _, _, g1⟩ := g.go hi (f := (f : Int)) (by omega) (by omega)
          obtain ⟨_, _, _, g2⟩ := g.go hj (f := (f : Int)) (by omega) (by omega)
          rw [(ih _ _ g1 g2).mp (h2 f hf)] at q
          cases q
    · intro h
      refine ⟨?_, fun f hf => ?_⟩
      · cases e : dif told S b t i j with
        | false => rfl
        | true =>
          rw [dif_succ.mpr (.inl e)] at h
          cases h
      · obtain ⟨_, _, _, g1⟩ := g.go hi (f := (f : Int)) (by omega) (by omega)
        obtain ⟨_, _, _, g2⟩ := g.go hj (f := (f : Int)) (by omega) (by omega)
        refine (ih _ _ g1 g2).mpr ?_
        cases e : dif told S b t (goS S i (f : Int)) (goS S j (f : Int)) with
        | false => rfl
        | true =>
          rw [dif_succ.mpr (.inr ⟨f, hf, e⟩)] at h
          cases h
theorem FixP.dif (fx : FixP S told F) (g : GoodS (b : Int) S) (tl : told.length = S.length) {i j : Nat} (hi : i < S.length) (hj : j < S.length) : F.getD i 0 = F.getD j 0 ↔ ∀ t, Rt.dif told S b t i j = false := by
  obtain ⟨t, h1, rfl⟩ := fx
  constructor
  · intro h u
    rw [← part_stay h1 u] at h
    have := (part_dif g tl (t + u) i j hi hj).mp h
    cases e : Rt.dif told S b u i j with
    | false => rfl
    | true =>
      rw [dif_mono (Nat.le_add_left u t) e] at this
      cases this
  · exact fun h => (part_dif g tl t i j hi hj).mpr (h t)
/-- behind the last round -/
def LastR (told : List Int) (S : List (List Int)) (b z : Nat) : Prop := ∀ i j, i < S.length → j < S.length → dif told S b (z + 1) i j = true → dif told S b z i j = true
theorem LastR.none {z : Nat} (h : LastR told S b z) (g : GoodS (b : Int) S) {i j : Nat} (hi : i < S.length) (hj : j < S.length) : mkL told S b z i j = Option.none ↔ ∀ t, dif told S b t i j = false := by
  rw [mkL_none]
  constructor
  · intro q t
    cases e : dif told S b t i j with
    | false => rfl
    | true =>
      rw [dif_all g h hi hj e] at q
      cases q
  · exact fun q => q z
theorem FixP.mark (fx : FixP S told F) {z : Nat} (h : LastR told S b z) (g : GoodS (b : Int) S) (tl : told.length = S.length) {i j : Nat} (hi : i < S.length) (hj : j < S.length) : F.getD i 0 = F.getD j 0 ↔ mkL told S b z i j = none := by
  rw [fx.dif g tl hi hj, h.none g hi hj]
end

/-! ### the least word, figure by figure -/
theorem nx_lex {b : Nat} {w : List Int} {f0 f : Int} (h0 : 0 ≤ f0) (h : f0 < f) : ∀ (k : Nat) (u gs : List Int), u.length = k → gs.length = k → (∀ x ∈ u, 0 ≤ x ∧ x < (b : Int)) → nxN b (w ++ f0 :: u) < nxN b (w ++ f :: gs)
  | 0, u, gs, h1, h2, _ => by
    rw [List.length_eq_zero_iff.mp h1, List.length_eq_zero_iff.mp h2, nxN_snoc, nxN_snoc]
    omega
  | k + 1, u, gs, h1, h2, hu => by
    rcases List.eq_nil_or_concat u with e | ⟨u', x, e⟩
    · rw [e] at h1
      cases h1
    · rcases List.eq_nil_or_concat gs with e2 | ⟨gs', y, e2⟩
      · rw [e2] at h2
        cases h2
      · have e3 : u'.concat x = u' ++ [x] := List.concat_eq_append
        have e4 : gs'.concat y = gs' ++ [y] := List.concat_eq_append
        rw [e3] at e
        rw [e4] at e2
        subst e
        subst e2
        have ih := nx_lex (b := b) (w := w) h0 h k u' gs' (by simpa using h1) (by simpa using h2) fun z hz => hu z (List.mem_append_left _ hz)
        have hx := hu x (List.mem_append_right _ List.mem_cons_self)
        rw [show w ++ f0 :: (u' ++ [x]) = (w ++ f0 :: u') ++ [x] by simp, show w ++ f :: (gs' ++ [y]) = (w ++ f :: gs') ++ [y] by simp, nxN_snoc, nxN_snoc]
        have := Nat.mul_le_mul_left b ih
        rw [Nat.mul_succ] at this
        omega
/-- the word leads the two states to unlike labels -/
def UnW (told : List Int) (S : List (List Int)) (i j : Nat) (fs : List Int) : Prop := told.getD (runS S i fs) 0 ≠ told.getD (runS S j fs) 0
def FgW (b : Nat) (fs : List Int) : Prop := ∀ f ∈ fs, 0 ≤ f ∧ f < (b : Int)
def LeastW (told : List Int) (S : List (List Int)) (b i j : Nat) : Option (List Int) → Prop
  | none => ∀ fs, FgW b fs → ¬ UnW told S i j fs
  | some w => FgW b w ∧ UnW told S i j w ∧ ∀ fs, FgW b fs → UnW told S i j fs → nxN b w ≤ nxN b fs
section
variable {told : List Int} {S : List (List Int)} {b : Nat}
theorem runS_app' (S : List (List Int)) : ∀ (s : Nat) (fs gs : List Int), runS S s (fs ++ gs) = runS S (runS S s fs) gs
  | _, [], _ => rfl
  | s, f :: fs, gs => runS_app' S (goS S s f) fs gs
theorem least_none {z i j : Nat} (h : LastR told S b z) (g : GoodS (b : Int) S) (hi : i < S.length) (hj : j < S.length) {r : Option (List Int)} (lw : LeastW told S b i j r) : mkL told S b z i j = none ↔ r = none := by
  rw [h.none g hi hj]
  cases r with
  | none =>
    refine ⟨fun _ => rfl, fun _ t => ?_⟩
    cases e : dif told S b t i j with
    | false => rfl
    | true =>
      obtain ⟨fs, _, h2, h3⟩ := dif_word.mp e
      exact absurd h3 (lw fs h2)
  | some w =>
    refine ⟨fun q => ?_, fun q => by cases q⟩
    have := dif_word.mpr ⟨w, Nat.le_refl _, lw.1, lw.2.1⟩
    rw [q] at this
    cases this
theorem least_len (hb : 0 < b) {z i j t : Nat} {w : List Int} (lw : LeastW told S b i j (some w)) (h : mkL told S b z i j = some t) : w.length = t := by
  obtain ⟨_, h2, h3⟩ := mkL_some.mp h
  refine Nat.le_antisymm (Nat.le_of_not_lt fun q => ?_) (Nat.le_of_not_lt fun q => ?_)
  · obtain ⟨u, u1, u2, u3⟩ := dif_word.mp h2
    have a := lw.2.2 u u2 u3
    have c := nx_le_len hb _ u w (Nat.le_refl _) u2 lw.1 (by omega)
    omega
  · have := dif_word.mpr ⟨w, Nat.le_refl _, lw.1, lw.2.1⟩
    rw [h3 _ q] at this
    cases this
/-- the next figure is the first one that leads to a pair with a shorter word -/
theorem least_next (hb : 0 < b) {z i j t : Nat} {w gs : List Int} {f : Int} (lw : LeastW told S b i j (some (w ++ f :: gs))) (hg : gs.length = t) (h : mkL told S b z (runS S i w) (runS S j w) = some (t + 1)) :
    (List.range b).find? (fun g : Nat => decide (mkL told S b z (goS S (runS S i w) (g : Int)) (goS S (runS S j w) (g : Int)) = some t)) = some f.toNat := by
  obtain ⟨h1, h2, h3⟩ := mkL_some.mp h
  obtain ⟨fw, uw, mn⟩ := lw
  have hf := fw f (List.mem_append_right _ List.mem_cons_self)
  have hgs : FgW b gs := fun x hx => fw x (List.mem_append_right _ (List.mem_cons_of_mem _ hx))
  have hw : FgW b w := fun x hx => fw x (List.mem_append_left _ hx)
  have ef : ((f.toNat : Nat) : Int) = f := Int.toNat_of_nonneg hf.1
  rw [List.find?_range_eq_some]
  refine ⟨decide_eq_true ?_, List.mem_range.mpr (by omega), fun g hg2 => ?_⟩
  · rw [ef]
    refine mkL_some.mpr ⟨by omega, ?_, fun s hs => ?_⟩
    · refine dif_word.mpr ⟨gs, by omega, hgs, ?_⟩
      unfold UnW at uw
      rw [runS_app', runS_app'] at uw
      exact uw
    · cases e : dif told S b s (goS S (runS S i w) f) (goS S (runS S j w) f) with
      | false => rfl
      | true =>
        rw [← ef] at e
        have := dif_succ.mpr (.inr ⟨f.toNat, by omega, e⟩)
        rw [h3 _ (by omega)] at this
        cases this
  · rw [Bool.not_eq_true', decide_eq_false_iff_not]
    intro q
    obtain ⟨_, q2, _⟩ := mkL_some.mp q
    obtain ⟨u, u1, u2, u3⟩ := dif_word.mp q2
    have fu : FgW b (w ++ (g : Int) :: u) := fun x hx => by
      rcases List.mem_append.mp hx with e | e
      · exact hw x e
      · rcases List.mem_cons.mp e with e | e
        · rw [e]; omega
        · exact u2 x e
    have uu : UnW told S i j (w ++ (g : Int) :: u) := by
      unfold UnW
      rw [runS_app', runS_app']
      exact u3
    have a := mn _ fu uu
    rcases Nat.lt_or_ge u.length t with y | y
    · have := nx_le_len hb _ (w ++ (g : Int) :: u) (w ++ f :: gs) (Nat.le_refl _) fu fw (by simp; omega)
      omega
    · have := nx_lex (b := b) (w := w) (f0 := (g : Int)) (f := f) (by omega) (by omega) t u gs (by omega) hg u2
      omega
theorem least_uniq (hb : 0 < b) {i j : Nat} {r q : Option (List Int)} (h : LeastW told S b i j r) (k : LeastW told S b i j q) : r = q := by
  cases r with
  | none =>
    cases q with
    | none => rfl
    | some w => exact absurd k.2.1 (h _ k.1)
  | some v =>
    cases q with
    | none => exact absurd h.2.1 (k _ h.1)
    | some w =>
      have e : nxN b v = nxN b w := Nat.le_antisymm (h.2.2 _ k.1 k.2.1) (k.2.2 _ h.1 h.2.1)
      have e1 := wdN_nx hb _ v rfl h.1
      have e2 := wdN_nx hb _ w rfl k.1
      rw [← e1, ← e2, e]
end

/-! ### the law's marks: the dict -/
def StepsAt (H : Hp) (y : Addr) (S : List (List Int)) : Prop := ∃ rs : List Addr, H y = some (.lst (rs.map V.ref)) ∧ rs.length = S.length ∧ ∀ (i : Nat) (row : List Int), S[i]? = some row → ∃ r, (rs.map V.ref)[i]? = some (.ref r) ∧ H r = some (.lst (row.map V.int))
theorem StepsAt.same {H H2 : Hp} {y : Addr} {S : List (List Int)} (h : StepsAt H y S) (s : Same H H2) : StepsAt H2 y S := by
  obtain ⟨rs, h1, h2, h3⟩ := h
  exact ⟨rs, s _ _ h1, h2, fun i row hi => let ⟨r, a, c⟩ := h3 i row hi; ⟨r, a, s _ _ c⟩⟩
/-- the pairs that are marked, each with its mark -/
structure MD (N : Nat) (kvs : List (List Key × V)) (f : Nat → Nat → Option Nat) : Prop where
  keys : ∃ R : List Pr, R.Nodup ∧ (∀ q ∈ R, 0 ≤ q.1 ∧ q.1 < (N : Int) ∧ 0 ≤ q.2 ∧ q.2 < (N : Int)) ∧ kvs.length = R.length ∧ ∀ q, (valV kvs (kp q)).isSome = decide (q ∈ R)
  at_ : ∀ i j : Nat, i < N → j < N → valV kvs (kp ((i : Int), (j : Int))) = (f i j).map fun t => V.int (t : Nat)
section
variable {N : Nat} {kvs : List (List Key × V)} {f g g0 g1 : Nat → Nat → Option Nat}
theorem MD.le (h : MD N kvs f) : kvs.length ≤ N * N := by
  obtain ⟨R, r1, r2, r3, _⟩ := h.keys
  have q := pigL (boxN N) R r1 fun q hq => mem_boxN (r2 q hq)
  unfold boxN at q
  rw [List.length_map, List.length_range] at q
  omega
theorem MD.nil : MD N [] fun _ _ => Option.none := ⟨⟨[], List.nodup_nil, fun _ h => (nomatch h), rfl, fun _ => rfl⟩, fun _ _ _ _ => rfl⟩
theorem MD.congr (h : MD N kvs f) (e : ∀ i j, i < N → j < N → g i j = f i j) : MD N kvs g := ⟨h.keys, fun i j hi hj => by rw [h.at_ i j hi hj, e i j hi hj]⟩
theorem pr_inj {a c i j : Nat} : (((a : Int), (c : Int)) : Pr) = ((i : Int), (j : Int)) ↔ a = i ∧ c = j := by
  rw [Prod.mk.injEq]
  omega
theorem MD.put (h : MD N kvs f) {i j t : Nat} (hi : i < N) (hj : j < N) (hn : f i j = Option.none) : MD N (putK kvs (kp ((i : Int), (j : Int))) (.int (t : Nat))) (fun a c => if a = i ∧ c = j then Option.some t else f a c) ∧ (putK kvs (kp ((i : Int), (j : Int))) (.int (t : Nat))).length = kvs.length + 1 := by
  have hv : valV kvs (kp ((i : Int), (j : Int))) = Option.none := by rw [h.at_ i j hi hj, hn]; rfl
  obtain ⟨R, r1, r2, r3, r4⟩ := h.keys
  have nR : ((i : Int), (j : Int)) ∉ R := fun q => by
    have := r4 ((i : Int), (j : Int))
    rw [hv, decide_eq_true q] at this
    cases this
  refine ⟨⟨⟨R ++ [((i : Int), (j : Int))], ?_, fun q hq => ?_, ?_, fun q => ?_⟩, fun a c ha hc => ?_⟩, by rw [putK_new _ hv, List.length_append]; rfl⟩
  · exact List.nodup_append.mpr ⟨r1, List.nodup_cons.mpr ⟨List.not_mem_nil, List.nodup_nil⟩, fun x hx y hy => by
      rw [List.mem_singleton.mp hy]
      exact fun z => nR (z ▸ hx)⟩
  · rcases List.mem_append.mp hq with e | e
    · exact r2 q e
    · rw [List.mem_singleton.mp e]
      exact ⟨by show 0 ≤ (i : Int); omega, by show (i : Int) < N; omega, by show 0 ≤ (j : Int); omega, by show (j : Int) < N; omega⟩
  · rw [putK_new _ hv, List.length_append, List.length_append, r3]
    rfl
  · rw [valV_put]
    by_cases e : q = ((i : Int), (j : Int))
    · subst e
      rw [if_pos rfl, decide_eq_true (List.mem_append_right _ List.mem_cons_self)]
      rfl
    · rw [if_neg (fun z => e (kp_inj z)), r4, decide_eq_decide, List.mem_append, List.mem_singleton]
      exact ⟨.inl, fun z => z.elim id fun y => absurd y e⟩
  · rw [valV_put]
    by_cases e : a = i ∧ c = j
    · obtain ⟨rfl, rfl⟩ := e
      rw [if_pos rfl, if_pos ⟨rfl, rfl⟩]
      rfl
    · rw [if_neg (fun z => e (pr_inj.mp (kp_inj z))), if_neg e]
      exact h.at_ a c ha hc
theorem MD.again (h : MD N kvs f) {i j t : Nat} (hi : i < N) (hj : j < N) (hs : f i j = Option.some t) : MD N (putK kvs (kp ((i : Int), (j : Int))) (.int (t : Nat))) f ∧ (putK kvs (kp ((i : Int), (j : Int))) (.int (t : Nat))).length = kvs.length := by
  have hv : valV kvs (kp ((i : Int), (j : Int))) = Option.some (.int (t : Nat)) := by rw [h.at_ i j hi hj, hs]; rfl
  have el : (putK kvs (kp ((i : Int), (j : Int))) (.int (t : Nat))).length = kvs.length := by
    unfold putK
    rw [valV_any, hv, if_pos (show (some (V.int (t : Nat))).isSome = true from rfl), List.length_map]
  have ev : ∀ q, valV (putK kvs (kp ((i : Int), (j : Int))) (.int (t : Nat))) (kp q) = valV kvs (kp q) := fun q => by
    rw [valV_put]
    by_cases e : kp q = kp ((i : Int), (j : Int))
    · rw [if_pos e, e, hv]
    · rw [if_neg e]
  obtain ⟨R, r1, r2, r3, r4⟩ := h.keys
  exact ⟨⟨⟨R, r1, r2, el.trans r3, fun q => by rw [ev]; exact r4 q⟩, fun a c ha hc => by rw [ev]; exact h.at_ a c ha hc⟩, el⟩
/-- the first n pairs are as g1 tells, the others as g0 -/
def fP (N n : Nat) (g0 g1 : Nat → Nat → Option Nat) (a c : Nat) : Option Nat := if a * N + c < n then g1 a c else g0 a c
theorem idx_inj {a c i j : Nat} (hc : c < N) (hj : j < N) (e : a * N + c = i * N + j) : a = i ∧ c = j := by
  rcases Nat.lt_trichotomy a i with q | q | q
  · have := Nat.mul_le_mul_right N (show a + 1 ≤ i from q)
    rw [Nat.succ_mul] at this
    omega
  · subst q
    exact ⟨rfl, by omega⟩
  · have := Nat.mul_le_mul_right N (show i + 1 ≤ a from q)
    rw [Nat.succ_mul] at this
    omega
theorem fP_step {a c i j : Nat} (hc : c < N) (hj : j < N) : fP N (i * N + j + 1) g0 g1 a c = if a = i ∧ c = j then g1 i j else fP N (i * N + j) g0 g1 a c := by
  unfold fP
  by_cases e : a = i ∧ c = j
  · obtain ⟨rfl, rfl⟩ := e
    rw [if_pos (Nat.lt_succ_self _), if_pos ⟨rfl, rfl⟩]
  · rw [if_neg e]
    have : a * N + c ≠ i * N + j := fun z => e (idx_inj hc hj z)
    by_cases q : a * N + c < i * N + j
    · rw [if_pos (by omega), if_pos q]
    · rw [if_neg (by omega), if_neg q]
theorem fP_at {i j : Nat} : fP N (i * N + j) g0 g1 i j = g0 i j := if_neg (Nat.lt_irrefl _)
theorem fP_zero {a c : Nat} : fP N 0 g0 g1 a c = g0 a c := if_neg (Nat.not_lt_zero _)
theorem idx_lt {a c : Nat} (ha : a < N) (hc : c < N) : a * N + c < N * N := by
  have := Nat.mul_le_mul_right N (show a + 1 ≤ N from ha)
  rw [Nat.succ_mul] at this
  omega
theorem fP_all {a c : Nat} (ha : a < N) (hc : c < N) : fP N (N * N) g0 g1 a c = g1 a c := if_pos (idx_lt ha hc)
end
section
variable {told : List Int} {S : List (List Int)} {b : Nat}
theorem mkL_zero (i j : Nat) : mkL told S b 0 i j = if told.getD i 0 = told.getD j 0 then none else some 0 := by
  by_cases e : told.getD i 0 = told.getD j 0
  · rw [if_pos e, mkL_none]
    exact decide_eq_false (fun z => z e)
  · rw [if_neg e, mkL_some]
    exact ⟨Nat.le_refl _, decide_eq_true e, fun s hs => absurd hs (Nat.not_lt_zero _)⟩
theorem mkL_keep {z i j t : Nat} (h : mkL told S b z i j = some t) : mkL told S b (z + 1) i j = some t := by
  rw [mkL_succ, h]
  rfl
/-- so many figures are looked at -/
def hitF (told : List Int) (S : List (List Int)) (b z i j n : Nat) : Bool := (List.range n).any fun f => decide (mkL told S b z (goS S i (f : Int)) (goS S j (f : Int)) = some z)
theorem hit_succ (z i j n : Nat) : hitF told S b z i j (n + 1) = (hitF told S b z i j n || decide (mkL told S b z (goS S i (n : Int)) (goS S j (n : Int)) = some z)) := by
  unfold hitF
  rw [List.range_succ, List.any_append]
  simp
theorem hit_all {z i j : Nat} (h : mkL told S b z i j = none) : mkL told S b (z + 1) i j = if hitF told S b z i j b = true then some (z + 1) else none := by
  rw [mkL_succ, h]
  have e : hitF told S b z i j b = dif told S b (z + 1) i j := by
    rw [Bool.eq_iff_iff, mkL_new h]
    unfold hitF
    rw [List.any_eq_true]
    constructor
    · rintro ⟨f, h1, h2⟩
      exact ⟨f, List.mem_range.mp h1, of_decide_eq_true h2⟩
    · rintro ⟨f, h1, h2⟩
      exact ⟨f, List.mem_range.mpr h1, decide_eq_true h2⟩
  rw [e]
  rfl
/-- what stands while the pair i, j is looked at -/
def atG (told : List Int) (S : List (List Int)) (b z i j : Nat) (h : Bool) (a c : Nat) : Option Nat := if a = i ∧ c = j then (if h = true then some (z + 1) else none) else fP S.length (i * S.length + j) (mkL told S b z) (mkL told S b (z + 1)) a c
theorem at_look {z i j a c : Nat} {h : Bool} (hn : mkL told S b z i j = none) : ∃ v : Nat, ((atG told S b z i j h a c).map fun t => V.int (t : Nat)).getD (.int ((z + 1 : Nat) : Int)) = .int (v : Nat) ∧ (v = z ↔ mkL told S b z a c = some z) := by
  have key : ∀ o : Option Nat, (∀ t, o = some t → (t = z ↔ mkL told S b z a c = some z)) → (o = none → mkL told S b z a c ≠ some z) → ∃ v : Nat, (o.map fun t => V.int (t : Nat)).getD (.int ((z + 1 : Nat) : Int)) = .int (v : Nat) ∧ (v = z ↔ mkL told S b z a c = some z) := fun o h1 h2 => by
    cases o with
    | none => exact ⟨z + 1, rfl, ⟨fun q => by omega, fun q => absurd q (h2 rfl)⟩⟩
    | some t => exact ⟨t, rfl, h1 t rfl⟩
  refine key _ (fun t ht => ?_) fun ht => ?_
  · unfold atG fP at ht
    split at ht
    · rename_i e
      obtain ⟨rfl, rfl⟩ := e
      rw [hn]
      split at ht
      · have := Option.some.inj ht
        exact ⟨fun q => by omega, fun q => by cases q⟩
      · cases ht
    · split at ht
      · rw [mkL_succ] at ht
        cases q : mkL told S b z a c with
        | some s =>
          rw [q] at ht
          have := Option.some.inj ht
          subst this
          exact ⟨fun e => by rw [e], fun e => Option.some.inj e⟩
        | none =>
          rw [q] at ht
          have ht : (if dif told S b (z + 1) a c = true then some (z + 1) else none) = some t := ht
          split at ht
          · have := Option.some.inj ht
            exact ⟨fun e => by omega, fun e => by cases e⟩
          · cases ht
      · rw [ht]
        exact ⟨fun e => by rw [e], fun e => Option.some.inj e⟩
  · unfold atG fP at ht
    split at ht
    · rename_i e
      obtain ⟨rfl, rfl⟩ := e
      rw [hn]
      exact fun q => by cases q
    · split at ht
      · rw [mkL_succ] at ht
        cases q : mkL told S b z a c with
        | some s =>
          rw [q] at ht
          cases ht
        | none => exact fun q => by cases q
      · rw [ht]
        exact fun q => by cases q
end

/-! ### the law's marks -/
def mzM (D : Addr) (σ : L2.St) (H : Hp) : Nat := match H D, σ[6]? with
  | some (.dT kvs), some (some (V.bl true)) => 2 * (1297 - kvs.length) + 1
  | some (.dT kvs), _ => 2 * (1297 - kvs.length)
  | _, _ => 0
theorem mz_t {D : Addr} {σ : L2.St} {H : Hp} {kvs : List (List Key × V)} (h : H D = some (.dT kvs)) (e : σ[6]? = some (some (.bl true))) : mzM D σ H = 2 * (1297 - kvs.length) + 1 := by
  unfold mzM
  rw [h, e]
theorem mz_f {D : Addr} {σ : L2.St} {H : Hp} {kvs : List (List Key × V)} (h : H D = some (.dT kvs)) (e : σ[6]? = some (some (.bl false))) : mzM D σ H = 2 * (1297 - kvs.length) := by
  unfold mzM
  rw [h, e]
def spMarks (K : PySem.W.Frag) : Sp := fun vs H Q _ => ∃ (c y : Addr) (told : List Int) (S : List (List Int)) (b : Nat), vs = [.ref c, .ref y] ∧ H c = some (.lst (told.map V.int)) ∧ StepsAt H y S ∧ GoodS (b : Int) S ∧ told.length = S.length ∧ S.length ≤ 36 ∧ 2 ≤ b ∧ b ≤ 16 ∧
  ∀ (z : Nat) (D : Addr) (kvs : List (List Key × V)) (H' : Hp), z ≤ 1296 → LastR told S b z → MD S.length kvs (mkL told S b z) → Same H H' → H' D = some (.dT kvs) → Q (.ref D) H'
theorem ok__law_marks (T : Tx P K mg) : FnOk P w K mg base CX0 lv__law_marks T.a__law_marks T.d__law_marks ["_law_labels_here", "_law_nexts"] (spMarks K) := by
  refine T.F__law_marks.ok sc__law_marks (fun vs H Q E h => ?_) (fun cdv A outer s H vs Q E hr h => ?_)
  · obtain ⟨c, y, told, S, b, rfl, _⟩ := h
    rfl
  · obtain ⟨c, y, told, S, b, rfl, hc, hy, g, tl, nl, b2, bl, kk⟩ := h
    have n1 := g.pos
    have sq : S.length * S.length ≤ 1296 := Nat.mul_le_mul nl nl
    refine ⟨_, (Evl.pss_cut (ps_par (i := 2) (j := 3) rfl sc__law_marks.nd rfl rfl (by decide) rfl rfl (pa_cons (pe_callB call_len_seq (by rfl) T.n_len (by decide +kernel) (pa_cons (pv 0) pa_nil)) (pa_cons pe_dnewT pa_nil)) (by rfl))
      (Evl.pss_cut (ps_for PassesOwn.never rfl (pi_range1 (by rfl) T.n_range (pa_cons (pv 2) pa_nil)) (pg_name (i := 4) sc__law_marks.nd rfl (Or.inl rfl)) (pss_one (ps_for PassesOwn.never rfl (pi_range1 (by rfl) T.n_range (pa_cons (pv 2) pa_nil)) (pg_name (i := 5) sc__law_marks.nd rfl (Or.inl rfl)) (pss_one (ps_if (pt_cmpR op_ne (pe_ix ix_list (pv 0) (pv 4) (fun _ _ => rfl)) (pe_ix ix_list (pv 0) (pv 5) (fun _ _ => rfl)) (nomark _)) (pss_one (ps_dput (hu_of hr) (pv 3) (pe_tup (pa_cons (pv 4) (pa_cons (pv 5) pa_nil))) pe_int rfl)) pss_nil)))))
      (Evl.pss_cut (ps_asg (pe_tup (pa_cons pe_bl (pa_cons pe_int pa_nil))) (pg_tup rfl (pgs_cons (pg_name (i := 6) sc__law_marks.nd rfl (Or.inl rfl)) (pgs_cons (pg_name (i := 7) sc__law_marks.nd rfl (Or.inl rfl)) pgs_nil))))
      (Evl.pss_cut (ps_while PassesOwn.never (pt_val (pv 6)) (Evl.pss_cut (ps_par (i := 6) (j := 7) rfl sc__law_marks.nd rfl rfl (by decide) rfl rfl (pa_cons pe_bl (pa_cons (pe_op op_add (pv 7) pe_int) pa_nil)) (by rfl))
      (pss_one (ps_for PassesOwn.never rfl (pi_range1 (by rfl) T.n_range (pa_cons (pv 2) pa_nil)) (pg_name (i := 4) sc__law_marks.nd rfl (Or.inl rfl)) (pss_one (ps_for PassesOwn.never rfl (pi_range1 (by rfl) T.n_range (pa_cons (pv 2) pa_nil)) (pg_name (i := 5) sc__law_marks.nd rfl (Or.inl rfl)) (pss_one (ps_if (pt_cmp (pc_dnotin (hu_of hr) (pe_tup (pa_cons (pv 4) (pa_cons (pv 5) pa_nil))) (pv 3))) (pss_one (ps_for PassesOwn.never rfl (pi_range1 (by rfl) T.n_range (pa_cons (pe_callB call_len_seq (by rfl) T.n_len (by decide +kernel) (pa_cons (pe_ix ix_list (pv 1) (pv 4) (fun _ _ => rfl)) pa_nil)) pa_nil)) (pg_name (i := 8) sc__law_marks.nd rfl (Or.inl rfl)) (pss_one (ps_if (pt_cmpR op_eq (pe_dget2 (Nat.lt_of_le_of_lt (Nat.add_le_add_left (by decide) _) hr.units) (pv 3) (pe_tup (pa_cons (pe_ix ix_list (pe_ix ix_list (pv 1) (pv 4) (fun _ _ => rfl)) (pv 8) (fun _ _ => rfl)) (pa_cons (pe_ix ix_list (pe_ix ix_list (pv 1) (pv 5) (fun _ _ => rfl)) (pv 8) (fun _ _ => rfl)) pa_nil))) (pv 7) ⟨rfl, rfl, rfl, rfl⟩) (pe_op op_sub (pv 7) pe_int) (nomark _)) (pss_cons (ps_dput (hu_of hr) (pv 3) (pe_tup (pa_cons (pv 4) (pa_cons (pv 5) pa_nil))) (pv 7) rfl)
      (pss_one (ps_set (i := 6) sc__law_marks.nd rfl (Or.inl rfl) pe_bl))) pss_nil)))) pss_nil))))))))
      (pss_one (ps_ret (pv 3))))))), ?_⟩
    have tlk : ∀ (i : Nat), i < S.length → atI (told.map V.int) (i : Int) = some (.int (told.getD i 0)) := fun i hi => atI_nat (by rw [List.getElem?_map, List.getD_eq_getElem?_getD, List.getElem?_eq_getElem (by omega)]; rfl)
    have gok : ∀ (i f : Nat), i < S.length → f < b → goS S i (f : Int) < S.length := fun i f hi hf => (g.go hi (f := (f : Int)) (by omega) (by omega)).choose_spec.2.2
    obtain ⟨rs, y1, y2, y3⟩ := id hy
    have bigs : (2000 : Nat) ≤ sizeLine := by decide
    refine ⟨fun σ H1 => ∃ D : Addr, H D = none ∧ Same H H1 ∧ H1 D = some (.dT []) ∧ σ = [some (.ref c), some (.ref y), some (.int (S.length : Nat)), some (.ref D), none, none, none, none, none], ?_, ?_⟩
    · refine ⟨_, rfl, c, _, rfl, .inl (SqL.of hc), fun D hD => ⟨_, _, rfl, D, hD, same_upd hD, upd_same, ?_⟩⟩
      rw [List.length_map, tl]
      rfl
    rintro σ H1 ⟨D, nD, S1, hD1, rfl⟩
    -- pairs of unlike labels
    refine ⟨fun σ H2 => ∃ (kvs : List (List Key × V)) (x4 x5 : Option V), Same H H2 ∧ H2 D = some (.dT kvs) ∧ MD S.length kvs (mkL told S b 0) ∧ σ = [some (.ref c), some (.ref y), some (.int (S.length : Nat)), some (.ref D), x4, x5, none, none, none], ?_, ?_⟩
    · refine ⟨_, rfl, ((S.length : Nat) : Int), rfl, by omega, by omega, ?_⟩
      refine for_range (lo := 0) (n := ((S.length : Nat) : Int).toNat) (fun i σ H2 => ∃ (kvs : List (List Key × V)) (x4 x5 : Option V), Same H H2 ∧ H2 D = some (.dT kvs) ∧ MD S.length kvs (fP S.length (i * S.length) (fun _ _ => none) (mkL told S b 0)) ∧ σ = [some (.ref c), some (.ref y), some (.int (S.length : Nat)), some (.ref D), x4, x5, none, none, none]) ⟨[], none, none, S1, hD1, ?_, rfl⟩ ?_ ?_
      · exact MD.nil.congr fun i j _ _ => by rw [Nat.zero_mul, fP_zero]
      · rintro i σ H2 hi ⟨kvs, x4, x5, S2, hD2, md, rfl⟩
        have hi : i < S.length := by omega
        rw [show (0 : Int) + (i : Int) = (i : Int) from Int.zero_add _]
        refine ⟨_, rfl, ((S.length : Nat) : Int), rfl, by omega, by omega, ?_⟩
        refine for_range (lo := 0) (n := ((S.length : Nat) : Int).toNat) (fun j σ H3 => ∃ (kvs : List (List Key × V)) (x5 : Option V), Same H H3 ∧ H3 D = some (.dT kvs) ∧ MD S.length kvs (fP S.length (i * S.length + j) (fun _ _ => none) (mkL told S b 0)) ∧ σ = [some (.ref c), some (.ref y), some (.int (S.length : Nat)), some (.ref D), some (.int (i : Int)), x5, none, none, none]) ⟨kvs, x5, S2, hD2, md, rfl⟩ ?_ ?_
        · clear S2 hD2 md x5
          clear kvs
          rintro j σ H3 hj ⟨kvs, x5, S3, hD3, md, rfl⟩
          have hj : j < S.length := by omega
          rw [show (0 : Int) + (j : Int) = (j : Int) from Int.zero_add _]
          have hc3 := S3 _ _ hc
          refine ⟨_, rfl, _, rfl, c, _, _, _, rfl, rfl, SqL.of hc3, tlk i hi, _, rfl, _, rfl, c, _, _, _, rfl, rfl, SqL.of hc3, tlk j hj, rfl, _, rfl, ?_⟩
          rw [dec_i]
          have stp := fun {a c : Nat} (hc : c < S.length) => fP_step (N := S.length) (g0 := fun _ _ => none) (g1 := mkL told S b 0) (a := a) (i := i) hc hj
          by_cases e : told.getD i 0 = told.getD j 0
          · rw [decide_eq_true e]
            refine iteF ⟨kvs, _, S3, hD3, md.congr fun a c ha hc => ?_, rfl⟩
            rw [← Nat.add_assoc, stp hc]
            split
            · rename_i q
              obtain ⟨rfl, rfl⟩ := q
              rw [mkL_zero, if_pos e, fP_at]
            · rfl
          · rw [decide_eq_false e]
            refine iteT ⟨_, rfl, _, rfl, _, rfl, by show 2 ≤ sizeLine; decide, fun p hp => ?_⟩
            have Sp := same_upd (o := .tup [.int (i : Int), .int (j : Int)]) hp
            have hD4 := Sp _ _ hD3
            obtain ⟨m1, m2⟩ := md.put hi hj (t := 0) fP_at
            have le := md.le
            refine ⟨D, _, rfl, DPut.t hD4 (k := kp ((i : Int), (j : Int))) upd_same (by omega), putK kvs (kp ((i : Int), (j : Int))) (.int 0), _, fun e o q => ?_, upd_same, m1.congr fun a c ha hc => ?_, rfl⟩
            · rw [upd_ne (ne_of_none q nD)]
              exact Sp _ _ (S3 _ _ q)
            · rw [← Nat.add_assoc, stp hc, mkL_zero, if_neg e]
        · rintro σ H3 ⟨kvs, x5, S3, hD3, md, rfl⟩
          rw [Int.toNat_natCast] at md
          refine ⟨kvs, _, _, S3, hD3, ?_, rfl⟩
          rw [Nat.succ_mul]
          exact md
      · rintro σ H2 ⟨kvs, x4, x5, S2, hD2, md, rfl⟩
        rw [Int.toNat_natCast] at md
        exact ⟨kvs, x4, x5, S2, hD2, md.congr fun a c ha hc => (fP_all ha hc).symm, rfl⟩
    clear S1 hD1
    rintro σ H2 ⟨kvs, x4, x5, S2, hD2, md, rfl⟩
    refine ⟨fun σ H3 => Same H2 H3 ∧ σ = [some (.ref c), some (.ref y), some (.int (S.length : Nat)), some (.ref D), x4, x5, some (.bl true), some (.int 0), none], ?_, ?_⟩
    · exact ⟨by show 2 ≤ sizeLine; decide, fun p hp => ⟨p, _, rfl, SqT.of upd_same, rfl, _, _, rfl, _, _, rfl, rfl, same_upd hp, rfl⟩⟩
    rintro σ H3 ⟨S3, rfl⟩
    replace S2 := S2.trans S3
    replace hD2 := S3 _ _ hD2
    clear S3
    -- rounds
    refine ⟨fun σ H4 => ∃ (z : Nat) (kvs : List (List Key × V)) (x4 x5 x6 x7 x8 : Option V), Same H H4 ∧ H4 D = some (.dT kvs) ∧ MD S.length kvs (mkL told S b z) ∧ z ≤ 1296 ∧ LastR told S b z ∧ σ = [some (.ref c), some (.ref y), some (.int (S.length : Nat)), some (.ref D), x4, x5, x6, x7, x8], ?_, ?_⟩
    · refine while_by (fun σ H4 => ∃ (z sz : Nat) (ch : Bool) (kvs : List (List Key × V)) (x4 x5 x8 : Option V), Same H H4 ∧ H4 D = some (.dT kvs) ∧ MD S.length kvs (mkL told S b z) ∧ z ≤ kvs.length ∧ (ch = true → sz = z) ∧ (ch = false → LastR told S b z) ∧ σ = [some (.ref c), some (.ref y), some (.int (S.length : Nat)), some (.ref D), x4, x5, some (.bl ch), some (.int (sz : Nat)), x8])
        (mzM D) ⟨0, 0, true, kvs, x4, x5, none, S2, hD2, md, Nat.zero_le _, fun _ => rfl, fun q => (nomatch q), rfl⟩ ?_ ?_
      · clear S2 hD2 md x4 x5
        clear kvs
        rintro σ H4 ⟨z, sz, ch, kvs, x4, x5, x8, S4, hD4, md, zl, c1, c2, rfl⟩
        have le0 := md.le
        refine ⟨_, rfl, ch, rfl, ?_⟩
        cases ch with
        | false => exact iteF ⟨z, kvs, _, _, _, _, _, S4, hD4, md, by omega, c2 rfl, rfl⟩
        | true =>
          have ez := c1 rfl
          subst ez
          clear c1 c2
          refine iteT ?_
          refine ⟨fun σ H5 => H5 = H4 ∧ σ = [some (.ref c), some (.ref y), some (.int (S.length : Nat)), some (.ref D), x4, x5, some (.bl false), some (.int ((sz + 1 : Nat) : Int)), x8], ⟨_, rfl, _, _, rfl, rfl, _, _, rfl, rfl, rfl⟩, ?_⟩
          rintro σ H5 ⟨rfl, rfl⟩
          have M0 := mz_t (σ := [some (V.ref c), some (V.ref y), some (V.int (S.length : Nat)), some (V.ref D), x4, x5, some (V.bl true), some (V.int (sz : Nat)), x8]) hD4 rfl
          generalize mzM D [some (V.ref c), some (V.ref y), some (V.int (S.length : Nat)), some (V.ref D), x4, x5, some (V.bl true), some (V.int (sz : Nat)), x8] H5 = M at M0 ⊢
          refine ⟨_, rfl, ((S.length : Nat) : Int), rfl, by omega, by omega, ?_⟩
          refine for_range (lo := 0) (n := ((S.length : Nat) : Int).toNat) (fun i σ H6 => ∃ (kv : List (List Key × V)) (ch : Bool) (x4 x5 x8 : Option V), Same H H6 ∧ H6 D = some (.dT kv) ∧ MD S.length kv (fP S.length (i * S.length) (mkL told S b sz) (mkL told S b (sz + 1))) ∧ kvs.length ≤ kv.length ∧ (ch = true → kvs.length < kv.length) ∧
            (ch = false → ∀ a c, a < S.length → c < S.length → a * S.length + c < i * S.length → mkL told S b (sz + 1) a c = mkL told S b sz a c) ∧ σ = [some (.ref c), some (.ref y), some (.int (S.length : Nat)), some (.ref D), x4, x5, some (.bl ch), some (.int ((sz + 1 : Nat) : Int)), x8]) ⟨kvs, false, x4, x5, x8, S4, hD4, md.congr fun a c _ _ => by rw [Nat.zero_mul, fP_zero], Nat.le_refl _, fun q => (nomatch q), fun _ a c _ _ q => by rw [Nat.zero_mul] at q; exact absurd q (Nat.not_lt_zero _), rfl⟩ ?_ ?_
          · clear S4 hD4 md x4 x5 x8
            rintro i σ H6 hi ⟨kv, ch, x4, x5, x8, S6, hD6, md, L1, L2, ne, rfl⟩
            have hi : i < S.length := by omega
            rw [show (0 : Int) + (i : Int) = (i : Int) from Int.zero_add _]
            obtain ⟨row1, ir1, gr1, _⟩ := g.go hi (f := 0) (by omega) (by omega)
            refine ⟨_, rfl, ((S.length : Nat) : Int), rfl, by omega, by omega, ?_⟩
            refine for_range (lo := 0) (n := ((S.length : Nat) : Int).toNat) (fun j σ H7 => ∃ (kv : List (List Key × V)) (ch : Bool) (x5 x8 : Option V), Same H H7 ∧ H7 D = some (.dT kv) ∧ MD S.length kv (fP S.length (i * S.length + j) (mkL told S b sz) (mkL told S b (sz + 1))) ∧ kvs.length ≤ kv.length ∧ (ch = true → kvs.length < kv.length) ∧
              (ch = false → ∀ a c, a < S.length → c < S.length → a * S.length + c < i * S.length + j → mkL told S b (sz + 1) a c = mkL told S b sz a c) ∧ σ = [some (.ref c), some (.ref y), some (.int (S.length : Nat)), some (.ref D), some (.int (i : Int)), x5, some (.bl ch), some (.int ((sz + 1 : Nat) : Int)), x8]) ⟨kv, ch, x5, x8, S6, hD6, md, L1, L2, ne, rfl⟩ ?_ ?_
            · clear S6 hD6 md x5 x8 L1 L2 ne
              clear kv ch
              rintro j σ H7 hj ⟨kv, ch, x5, x8, S7, hD7, md, L1, L2, ne, rfl⟩
              have hj : j < S.length := by omega
              rw [show (0 : Int) + (j : Int) = (j : Int) from Int.zero_add _]
              have stp := fun {a c : Nat} (hc : c < S.length) => fP_step (N := S.length) (g0 := mkL told S b sz) (g1 := mkL told S b (sz + 1)) (a := a) (i := i) hc hj
              refine ⟨_, rfl, _, rfl, by show 2 ≤ sizeLine; decide, fun p hp => ?_⟩
              have Sp := same_upd (o := .tup [.int (i : Int), .int (j : Int)]) hp
              have hD8 := Sp _ _ hD7
              have S8 := S7.trans Sp
              refine ⟨_, rfl, D, _, rfl, DGet.t hD8 (k := kp ((i : Int), (j : Int))) upd_same, _, rfl, ?_⟩
              rw [md.at_ i j hi hj, fP_at]
              generalize upd H7 p (.tup [.int (i : Int), .int (j : Int)]) = H8 at *
              cases hm : mkL told S b sz i j with
              | some t =>
                refine iteF ⟨kv, ch, _, _, S8, hD8, md.congr fun a c ha hc => ?_, L1, L2, fun q a c ha hc l => ?_, rfl⟩
                · rw [← Nat.add_assoc, stp hc]
                  split
                  · rename_i q
                    obtain ⟨rfl, rfl⟩ := q
                    rw [mkL_keep hm, fP_at, hm]
                  · rfl
                · rcases Nat.lt_or_ge (a * S.length + c) (i * S.length + j) with y | y
                  · exact ne q a c ha hc y
                  · obtain ⟨rfl, rfl⟩ := idx_inj hc hj (show a * S.length + c = i * S.length + j by omega)
                    rw [mkL_keep hm, hm]
              | none =>
                refine iteT ?_
                obtain ⟨r1, er1, hr1⟩ := y3 i row1 ir1
                obtain ⟨row2, ir2, gr2, _⟩ := g.go hj (f := 0) (by omega) (by omega)
                obtain ⟨r2, er2, hr2⟩ := y3 j row2 ir2
                have rl1 := g.len _ (List.mem_of_getElem? ir1)
                rw [Int.toNat_natCast] at rl1
                have ix1 : atI (rs.map V.ref) (i : Int) = some (.ref r1) := atI_nat er1
                have ix2 : atI (rs.map V.ref) (j : Int) = some (.ref r2) := atI_nat er2
                refine ⟨_, rfl, _, rfl, y, _, _, .ref r1, rfl, rfl, SqL.of (S8 _ _ y1), ix1, r1, _, rfl, .inl (SqL.of (S8 _ _ hr1)), ((b : Nat) : Int), by rw [List.length_map, rl1], by omega, by omega, ?_⟩
                refine for_range (lo := 0) (n := ((b : Nat) : Int).toNat) (fun n σ H9 => ∃ (kv' : List (List Key × V)) (x8 : Option V), Same H H9 ∧ H9 D = some (.dT kv') ∧ MD S.length kv' (atG told S b sz i j (hitF told S b sz i j n)) ∧ kv'.length = kv.length + (if hitF told S b sz i j n = true then 1 else 0) ∧
                  σ = [some (.ref c), some (.ref y), some (.int (S.length : Nat)), some (.ref D), some (.int (i : Int)), some (.int (j : Int)), some (.bl (ch || hitF told S b sz i j n)), some (.int ((sz + 1 : Nat) : Int)), x8]) ⟨kv, x8, S8, hD8, md.congr fun a c ha hc => ?_, rfl, by rw [show hitF told S b sz i j 0 = false from rfl, Bool.or_false]; rfl⟩ ?_ ?_
                · unfold atG
                  split
                  · rename_i q
                    obtain ⟨rfl, rfl⟩ := q
                    rw [fP_at, hm]
                    rfl
                  · rfl
                · rintro n σ H9 hn ⟨kv', x8', S9, hD9, md9, L9, rfl⟩
                  have hn : n < b := by omega
                  rw [show (0 : Int) + (n : Int) = (n : Int) from Int.zero_add _]
                  obtain ⟨rw1, jr1, q1, l1⟩ := g.go hi (f := (n : Int)) (by omega) (by omega)
                  obtain ⟨rw2, jr2, q2, l2⟩ := g.go hj (f := (n : Int)) (by omega) (by omega)
                  rw [ir1] at jr1
                  cases jr1
                  rw [ir2] at jr2
                  cases jr2
                  rw [Int.toNat_natCast] at q1 q2
                  have hs := hit_succ (told := told) (S := S) (b := b) sz i j n
                  have lk := at_look (told := told) (S := S) (b := b) (a := goS S i (n : Int)) (c := goS S j (n : Int)) (h := hitF told S b sz i j n) hm
                  have vw := md9.at_ _ _ l1 l2
                  generalize goS S i (n : Int) = gi at *
                  generalize goS S j (n : Int) = gj at *
                  obtain ⟨v, hv, hvz⟩ := lk
                  have af1 : atI (row1.map V.int) (n : Int) = some (.int (gi : Nat)) := atI_nat (by rw [List.getElem?_map, q1]; rfl)
                  have af2 : atI (row2.map V.int) (n : Int) = some (.int (gj : Nat)) := atI_nat (by rw [List.getElem?_map, q2]; rfl)
                  refine ⟨_, rfl, D, rfl, .inr ⟨kv', .inl hD9⟩, _, rfl, _, rfl, y, _, _, .ref r1, rfl, rfl, SqL.of (S9 _ _ y1), ix1, _, rfl, r1, _, _, _, rfl, rfl, SqL.of (S9 _ _ hr1), af1, _, rfl, _, rfl, y, _, _, .ref r2, rfl, rfl, SqL.of (S9 _ _ y1), ix2, _, rfl, r2, _, _, _, rfl, rfl, SqL.of (S9 _ _ hr2), af2, by show 2 ≤ sizeLine; decide, fun p2 hp2 => ?_⟩
                  have Sq := same_upd (o := .tup [.int (gi : Nat), .int (gj : Nat)]) hp2
                  have hDa := Sq _ _ hD9
                  have Sa := S9.trans Sq
                  refine ⟨_, rfl, _, DGet.t hDa (k := kp ((gi : Int), (gj : Int))) upd_same, ?_⟩
                  rw [vw, hv]
                  generalize upd H9 p2 (.tup [.int (gi : Nat), .int (gj : Nat)]) = Ha at *
                  refine ⟨_, rfl, _, _, rfl, rfl, rfl, _, rfl, ?_⟩
                  rw [dec_i, show decide ((v : Int) = ((sz + 1 : Nat) : Int) - 1) = decide (mkL told S b sz gi gj = some sz) from by rw [decide_eq_decide, ← hvz]; omega]
                  by_cases hq : mkL told S b sz gi gj = some sz
                  · rw [decide_eq_true hq]
                    rw [decide_eq_true hq, Bool.or_true] at hs
                    refine iteT ⟨_, rfl, _, rfl, _, rfl, _, rfl, by show 2 ≤ sizeLine; decide, fun p3 hp3 => ?_⟩
                    have Sr := same_upd (o := .tup [.int (i : Int), .int (j : Int)]) hp3
                    have le9 := md9.le
                    refine ⟨D, _, rfl, DPut.t (Sr _ _ hDa) (k := kp ((i : Int), (j : Int))) upd_same (by omega), putK kv' (kp ((i : Int), (j : Int))) (.int ((sz + 1 : Nat) : Int)), _, fun e o q => ?_, upd_same, ?_, ?_, by rw [hs, Bool.or_true]; rfl⟩
                    · rw [upd_ne (ne_of_none q nD)]
                      exact Sr _ _ (Sa _ _ q)
                    · rw [hs]
                      cases hh : hitF told S b sz i j n with
                      | true =>
                        rw [hh] at md9
                        exact (md9.again hi hj (t := sz + 1) (by unfold atG; rw [if_pos ⟨rfl, rfl⟩, if_pos rfl])).1
                      | false =>
                        rw [hh] at md9
                        refine (md9.put hi hj (t := sz + 1) (by unfold atG; rw [if_pos ⟨rfl, rfl⟩]; rfl)).1.congr fun a c ha hc => ?_
                        unfold atG
                        split <;> rfl
                    · rw [hs, if_pos rfl]
                      cases hh : hitF told S b sz i j n with
                      | true =>
                        rw [hh] at md9 L9
                        rw [(md9.again hi hj (t := sz + 1) (by unfold atG; rw [if_pos ⟨rfl, rfl⟩, if_pos rfl])).2, L9]
                        rfl
                      | false =>
                        rw [hh] at md9 L9
                        rw [(md9.put hi hj (t := sz + 1) (by unfold atG; rw [if_pos ⟨rfl, rfl⟩]; rfl)).2, L9]
                        rfl
                  · rw [decide_eq_false hq]
                    rw [decide_eq_false hq, Bool.or_false] at hs
                    exact iteF ⟨kv', _, Sa, hDa, by rw [hs]; exact md9, by rw [hs]; exact L9, by rw [hs]; rfl⟩
                · rintro σ H9 ⟨kv', x8', S9, hD9, md9, L9, rfl⟩
                  rw [Int.toNat_natCast] at *
                  have ha := hit_all hm
                  refine ⟨kv', ch || hitF told S b sz i j b, _, _, S9, hD9, md9.congr fun a c ha' hc => ?_, by omega, fun q => ?_, fun q a c ha' hc l => ?_, rfl⟩
                  · rw [← Nat.add_assoc, stp hc]
                    unfold atG
                    split
                    · exact ha
                    · rfl
                  · cases hh : hitF told S b sz i j b with
                    | true =>
                      rw [hh, if_pos rfl] at L9
                      omega
                    | false =>
                      rw [hh, Bool.or_false] at q
                      have := L2 q
                      omega
                  · have q := Bool.or_eq_false_iff.mp q
                    rcases Nat.lt_or_ge (a * S.length + c) (i * S.length + j) with y | y
                    · exact ne q.1 a c ha' hc y
                    · obtain ⟨rfl, rfl⟩ := idx_inj hc hj (show a * S.length + c = i * S.length + j by omega)
                      rw [ha, q.2, hm]
                      rfl
            · rintro σ H7 ⟨kv, ch, x5, x8, S7, hD7, md, L1, L2, ne, rfl⟩
              rw [Int.toNat_natCast] at md ne
              refine ⟨kv, ch, _, _, _, S7, hD7, ?_, L1, L2, ?_, rfl⟩
              · rw [Nat.succ_mul]
                exact md
              · rw [Nat.succ_mul]
                exact ne
          · rintro σ H6 ⟨kv, ch, x4, x5, x8, S6, hD6, md', L1, L2, ne, rfl⟩
            rw [Int.toNat_natCast] at md' ne
            have md2 : MD S.length kv (mkL told S b (sz + 1)) := md'.congr fun a c ha hc => (fP_all ha hc).symm
            have le1 := md2.le
            cases ch with
            | true =>
              have lt := L2 rfl
              refine ⟨⟨sz + 1, sz + 1, true, kv, _, _, _, S6, hD6, md2, by omega, fun _ => rfl, fun q => (nomatch q), rfl⟩, ?_⟩
              rw [mz_t hD6 rfl, M0]
              omega
            | false =>
              have ne := fun a c ha hc => ne rfl a c ha hc (idx_lt ha hc)
              refine ⟨⟨sz, sz + 1, false, kv, _, _, _, S6, hD6, md2.congr fun a c ha hc => (ne a c ha hc).symm, by omega, fun q => (nomatch q), fun _ i j hi hj d => ?_, rfl⟩, ?_⟩
              · have e := ne i j hi hj
                cases q : dif told S b sz i j with
                | true => rfl
                | false =>
                  rw [mkL_none.mpr q, mkL_none, d] at e
                  cases e
              · rw [mz_f hD6 rfl, M0]
                omega
      · exact fun σ H Q Q' h ⟨v, e, k, ek, q⟩ => ⟨v, e, k, ek, h _ _ q⟩
    rintro σ H4 ⟨z, kvs, x4, x5, x6, x7, x8, S4, hD4, md, zl, last, rfl⟩
    exact ⟨_, rfl, kk z D kvs H4 zl last md S4 hD4⟩

/-! ### the law's least word -/
theorem catA_to {K : PySem.W.Frag} {H : Hp} {a b : Addr} {xs ys : List V} {Q : VK} (ha : H a = some (.tup xs)) (hb : H b = some (.tup ys)) (hl : xs.length + ys.length ≤ sizeLine) (h : ∀ t H', Same H H' → H' t = some (.tup (xs ++ ys)) → Q (.ref t) H') : rCatA K (.ref a) (.ref b) H Q :=
  ⟨a, b, xs, ys, rfl, rfl, SqT.of ha, SqT.of hb, hl, fun e => h b H (Same.refl _) (by rw [e]; exact hb), fun _ e => h a H (Same.refl _) (by rw [e, List.append_nil]; exact ha), fun _ _ p hp => h p _ (same_upd hp) upd_same⟩
def mzW (σ : L2.St) (H : Hp) : Nat := match σ[4]? with
  | some (some (V.ref u)) => (match H u with
    | some (HO.tup xs) => 2000 - xs.length
    | _ => 0)
  | _ => 0
theorem mzW_at {σ : L2.St} {H : Hp} {u : Addr} {xs : List V} (e : σ[4]? = some (some (V.ref u))) (h : H u = some (.tup xs)) : mzW σ H = 2000 - xs.length := by
  unfold mzW
  rw [e]
  show (match H u with | some (HO.tup xs) => 2000 - xs.length | _ => 0) = _
  rw [h]
theorem filt_first {p : Nat → Bool} {l : List Nat} {n : Nat} (h : l.find? p = some n) : (l.filter p)[0]? = some n := by
  rw [← List.head?_eq_getElem?, List.head?_filter]
  exact h
theorem m_dgetT {i j k : Nat} : TEMono (tDGet (tVar i) (tTup (tCons (tVar j) (tCons (tVar k) tNil)))) := fun σ H Q Q' h ⟨v, e, w1, e1, w2, e2, l, q⟩ => ⟨v, e, w1, e1, w2, e2, l, fun p hp => let ⟨a, x, ex, dg, qq⟩ := q p hp; ⟨a, x, ex, dg, h _ _ qq⟩⟩
def spLW (K : PySem.W.Frag) : Sp := fun vs H Q _ => ∃ (y D : Addr) (i0 j0 z b : Nat) (told : List Int) (S : List (List Int)) (kvs : List (List Key × V)) (r : Option (List Int)), vs = [.ref y, .ref D, .int (i0 : Nat), .int (j0 : Nat)] ∧ StepsAt H y S ∧ GoodS (b : Int) S ∧ H D = some (.dT kvs) ∧ MD S.length kvs (mkL told S b z) ∧ LastR told S b z ∧ z ≤ 1296 ∧ 2 ≤ b ∧ b ≤ 16 ∧ i0 < S.length ∧ j0 < S.length ∧ LeastW told S b i0 j0 r ∧
  ∀ v H', Same H H' → (r = none → v = .non) → (∀ w, r = some w → ∃ u : Addr, v = .ref u ∧ H' u = some (.tup (w.map V.int))) → Q v H'
theorem ok__law_least_word (T : Tx P K mg) : FnOk P w K mg base CX0 lv__law_least_word T.a__law_least_word T.d__law_least_word ["_law_nexts", "_law_marks_here", "_law_one", "_law_other"] (spLW K) := by
  refine T.F__law_least_word.ok sc__law_least_word (fun vs H Q E h => ?_) (fun cdv A outer s H vs Q E hr h => ?_)
  · obtain ⟨y, D, i0, j0, z, b, told, S, kvs, r, rfl, _⟩ := h
    rfl
  · obtain ⟨y, D, i0, j0, z, b, told, S, kvs, r, rfl, hy, g, hD, md, last, zl, b2, b16, hi0, hj0, lw, kk⟩ := h
    obtain ⟨rs, y1, y2, y3⟩ := id hy
    have bigs : (2000 : Nat) ≤ sizeLine := by decide
    refine ⟨_, (pss_cons (ps_if (pt_cmp (pc_dnotin (hu_of hr) (pe_tup (pa_cons (pv 2) (pa_cons (pv 3) pa_nil))) (pv 1))) (pss_one (ps_ret pe_non)) pss_nil)
      (pss_cons (ps_set (i := 4) sc__law_least_word.nd rfl (Or.inl rfl) (pe_tup pa_nil))
      (pss_cons (ps_while PassesOwn.never (pt_cmpR op_gt (pe_dget (hu_of hr) (pv 1) (pe_tup (pa_cons (pv 2) (pa_cons (pv 3) pa_nil))) (fun _ _ => rfl)) pe_int (nomark _)) (pss_cons (ps_set (i := 5) sc__law_least_word.nd rfl (Or.inl rfl) (pe_dget (hu_of hr) (pv 1) (pe_tup (pa_cons (pv 2) (pa_cons (pv 3) pa_nil))) (fun _ _ => rfl)))
      (pss_cons (ps_set (i := 6) sc__law_least_word.nd rfl (Or.inl rfl) (pe_lst pa_nil))
      (pss_cons (ps_for PassesOwn.never rfl (pi_range1 (by rfl) T.n_range (pa_cons (pe_callB call_len_seq (by rfl) T.n_len (by decide +kernel) (pa_cons (pe_ix ix_list (pv 0) (pv 2) (fun _ _ => rfl)) pa_nil)) pa_nil)) (pg_name (i := 7) sc__law_least_word.nd rfl (Or.inl rfl)) (pss_one (ps_if (pt_cmpR op_eq (pe_dget2 (Nat.lt_of_le_of_lt (Nat.add_le_add_left (by decide) _) hr.units) (pv 1) (pe_tup (pa_cons (pe_ix ix_list (pe_ix ix_list (pv 0) (pv 2) (fun _ _ => rfl)) (pv 7) (fun _ _ => rfl)) (pa_cons (pe_ix ix_list (pe_ix ix_list (pv 0) (pv 3) (fun _ _ => rfl)) (pv 7) (fun _ _ => rfl)) pa_nil))) (pv 5) ⟨rfl, rfl, rfl, rfl⟩) (pe_op op_sub (pv 5) pe_int) (nomark _)) (pss_one (ps_expr (pe_bm PySem.F.plainAttrs_list PySem.F.slot_list_append PySem.F.type_list_append mt_append (pv 6) (pa_cons (pv 7) pa_nil)))) pss_nil)))
      (pss_cons (ps_set (i := 4) sc__law_least_word.nd rfl (Or.inl rfl) (pe_op op_catA (pv 4) (pe_tup (pa_cons (pe_ix ix_list (pv 6) pe_int (fun _ _ => rfl)) pa_nil))))
      (pss_one (ps_par (i := 2) (j := 3) rfl sc__law_least_word.nd rfl rfl (by decide) rfl rfl (pa_cons (pe_ix ix_list (pe_ix ix_list (pv 0) (pv 2) (fun _ _ => rfl)) (pe_ix ix_list (pv 6) pe_int (fun _ _ => rfl)) (fun _ _ => rfl)) (pa_cons (pe_ix ix_list (pe_ix ix_list (pv 0) (pv 3) (fun _ _ => rfl)) (pe_ix ix_list (pv 6) pe_int (fun _ _ => rfl)) (fun _ _ => rfl)) pa_nil)) (by rfl))))))))
      (pss_one (ps_ret (pv 4)))))), ?_⟩
    refine ⟨_, rfl, _, rfl, by show 2 ≤ sizeLine; decide, fun p hp => ?_⟩
    have Sp := same_upd (o := .tup [.int (i0 : Int), .int (j0 : Int)]) hp
    refine ⟨_, rfl, D, _, rfl, DGet.t (Sp _ _ hD) (k := kp ((i0 : Int), (j0 : Int))) upd_same, _, rfl, ?_⟩
    rw [md.at_ i0 j0 hi0 hj0]
    generalize upd H p (.tup [.int (i0 : Int), .int (j0 : Int)]) = H1 at *
    have ln := least_none last g hi0 hj0 lw
    cases hm : mkL told S b z i0 j0 with
    | none =>
      have er := ln.mp hm
      exact iteT (kk .non H1 Sp (fun _ => rfl) fun w ew => by rw [er] at ew; cases ew)
    | some t0 =>
      refine iteF ⟨by show 0 ≤ sizeLine; decide, fun u0 hu0 => ?_⟩
      obtain ⟨w0, rfl⟩ : ∃ w0, r = some w0 := by
        cases r with
        | none => rw [ln.mpr rfl] at hm; cases hm
        | some w0 => exact ⟨w0, rfl⟩
      have len0 := least_len (by omega) lw hm
      have zl0 := (mkL_some.mp hm).1
      refine while_by (fun σ H2 => ∃ (w1 rest : List Int) (u : Addr) (x5 x6 x7 : Option V), w0 = w1 ++ rest ∧ mkL told S b z (runS S i0 w1) (runS S j0 w1) = some rest.length ∧ Same H H2 ∧ H2 u = some (.tup (w1.map V.int)) ∧ σ = [some (.ref y), some (.ref D), some (.int (runS S i0 w1 : Nat)), some (.int (runS S j0 w1 : Nat)), some (.ref u), x5, x6, x7])
        mzW ⟨[], w0, u0, none, none, none, rfl, by rw [len0]; exact hm, Sp.trans (same_upd hu0), upd_same, rfl⟩ ?_ ?_
      · rintro σ H2 ⟨w1, rest, u, x5, x6, x7, ew, hmk, S2, hu, rfl⟩
        have M0 := mzW_at (σ := [some (V.ref y), some (V.ref D), some (V.int (runS S i0 w1 : Nat)), some (V.int (runS S j0 w1 : Nat)), some (V.ref u), x5, x6, x7]) rfl hu
        generalize mzW [some (V.ref y), some (V.ref D), some (V.int (runS S i0 w1 : Nat)), some (V.int (runS S j0 w1 : Nat)), some (V.ref u), x5, x6, x7] H2 = M at M0 ⊢
        have fw1 : FgW b w1 := fun f hf => lw.1 f (by rw [ew]; exact List.mem_append_left _ hf)
        have hi := runS_lt g hi0 (fs := w1) fw1
        have hj := runS_lt g hj0 (fs := w1) fw1
        have lw2 := lw
        rw [ew] at lw2
        have l12 : w1.length + rest.length = t0 := by rw [← len0, ew, List.length_append]
        obtain ⟨i, ei⟩ : ∃ i, i = runS S i0 w1 := ⟨_, rfl⟩
        obtain ⟨j, ej⟩ : ∃ j, j = runS S j0 w1 := ⟨_, rfl⟩
        rw [← ei] at hi hmk ⊢
        rw [← ej] at hj hmk ⊢
        have hv : valV kvs (kp ((i : Int), (j : Int))) = some (.int (rest.length : Nat)) := by
          rw [md.at_ i j hi hj, hmk]
          rfl
        refine ⟨_, rfl, _, rfl, _, rfl, by show 2 ≤ sizeLine; decide, fun p hp => ?_⟩
        have Sq := same_upd (o := .tup [.int (i : Int), .int (j : Int)]) hp
        have gd : ∀ {Hx : Hp} {p : Addr}, Same H Hx → Hx p = some (.tup [.int (i : Int), .int (j : Int)]) → DGet Hx D (.ref p) (some (.int (rest.length : Nat))) := fun {Hx p} Sx e => by
          rw [← hv]
          exact DGet.t (Sx _ _ hD) (k := kp ((i : Int), (j : Int))) e
        refine ⟨D, _, rfl, gd (S2.trans Sq) upd_same, _, _, rfl, rfl, _, rfl, ?_⟩
        have S3 := S2.trans Sq
        have hu3 := Sq _ _ hu
        generalize upd H2 p (.tup [.int (i : Int), .int (j : Int)]) = H3 at *
        clear S2 hu
        cases rest with
        | nil =>
          refine iteF ⟨_, rfl, kk (.ref u) H3 S3 (fun q => by cases q) fun w ewq => ?_⟩
          cases ewq
          rw [ew, List.append_nil]
          exact ⟨u, rfl, hu3⟩
        | cons f gs =>
          rw [show decide ((0 : Int) < (((f :: gs).length : Nat) : Int)) = true from decide_eq_true (by rw [List.length_cons]; omega)]
          refine iteT ?_
          obtain ⟨t, et⟩ : ∃ t, t = gs.length := ⟨_, rfl⟩
          have lf : (f :: gs).length = t + 1 := by rw [List.length_cons, et]
          rw [lf] at hmk l12 gd
          clear hv
          have ft := fw1
          have nxt := least_next (by omega) lw2 et.symm (z := z) (by rw [← ei, ← ej]; exact hmk)
          rw [← ei, ← ej] at nxt
          have hff : 0 ≤ f ∧ f < (b : Int) := lw2.1 f (List.mem_append_right _ List.mem_cons_self)
          obtain ⟨row1, ir1, gr1, gi2⟩ := g.go hi hff.1 hff.2
          obtain ⟨row2, ir2, gr2, gj2⟩ := g.go hj hff.1 hff.2
          obtain ⟨r1, er1, hr1⟩ := y3 i row1 ir1
          obtain ⟨r2, er2, hr2⟩ := y3 j row2 ir2
          have rl1 := g.len _ (List.mem_of_getElem? ir1)
          rw [Int.toNat_natCast] at rl1
          have ix1 : atI (rs.map V.ref) (i : Int) = some (.ref r1) := atI_nat er1
          have ix2 : atI (rs.map V.ref) (j : Int) = some (.ref r2) := atI_nat er2
          refine ⟨_, rfl, _, rfl, _, rfl, by show 2 ≤ sizeLine; decide, fun p hp => ?_⟩
          have Sr := same_upd (o := .tup [.int (i : Int), .int (j : Int)]) hp
          refine ⟨D, _, rfl, gd (S3.trans Sr) upd_same, ?_⟩
          have S4 := S3.trans Sr
          have hu4 := Sr _ _ hu3
          generalize upd H3 p (.tup [.int (i : Int), .int (j : Int)]) = H4 at *
          clear S3 hu3 Sr hp
          refine ⟨by show 0 ≤ sizeLine; decide, fun G hG => ?_⟩
          have SG := same_upd (o := .lst []) hG
          have nG0 : H G = none := by
            rcases q : H G with _ | o
            · rfl
            · rw [S4 _ _ q] at hG; cases hG
          refine ⟨_, rfl, _, rfl, y, _, _, .ref r1, rfl, rfl, SqL.of (SG _ _ (S4 _ _ y1)), ix1, r1, _, rfl, .inl (SqL.of (SG _ _ (S4 _ _ hr1))), ((b : Nat) : Int), by rw [List.length_map, rl1], by omega, by omega, ?_⟩
          refine for_range (lo := 0) (n := ((b : Nat) : Int).toNat) (fun n σ H9 => ∃ (x7 : Option V), Same H4 H9 ∧ H9 G = some (.lst (((List.range n).filter fun g : Nat => decide (mkL told S b z (goS S i (g : Int)) (goS S j (g : Int)) = some t)).map fun g : Nat => V.int (g : Nat))) ∧
            σ = [some (.ref y), some (.ref D), some (.int (i : Nat)), some (.int (j : Nat)), some (.ref u), some (.int ((t + 1 : Nat) : Int)), some (.ref G), x7]) ⟨x7, SG, upd_same, rfl⟩ ?_ ?_
          · rintro n σ H9 hn ⟨x7, S9, hG9, rfl⟩
            have hn : n < b := by omega
            rw [show (0 : Int) + (n : Int) = (n : Int) from Int.zero_add _]
            obtain ⟨rw1, jr1, q1, l1⟩ := g.go hi (f := (n : Int)) (by omega) (by omega)
            obtain ⟨rw2, jr2, q2, l2⟩ := g.go hj (f := (n : Int)) (by omega) (by omega)
            rw [ir1] at jr1
            cases jr1
            rw [ir2] at jr2
            cases jr2
            rw [Int.toNat_natCast] at q1 q2
            have vw := md.at_ _ _ l1 l2
            have S9' := S4.trans S9
            have fs : ((List.range (n + 1)).filter fun g : Nat => decide (mkL told S b z (goS S i (g : Int)) (goS S j (g : Int)) = some t)) = ((List.range n).filter fun g : Nat => decide (mkL told S b z (goS S i (g : Int)) (goS S j (g : Int)) = some t)) ++ (if mkL told S b z (goS S i (n : Int)) (goS S j (n : Int)) = some t then [n] else []) := by
              rw [List.range_succ, List.filter_append]
              congr 1
              rw [List.filter_cons, List.filter_nil]
              by_cases q : mkL told S b z (goS S i (n : Int)) (goS S j (n : Int)) = some t
              · rw [if_pos q, decide_eq_true q]; rfl
              · rw [if_neg q, decide_eq_false q]; rfl
            have fl := List.length_filter_le (fun g : Nat => decide (mkL told S b z (goS S i (g : Int)) (goS S j (g : Int)) = some t)) (List.range n)
            rw [List.length_range] at fl
            rw [fs]
            clear fs
            have af1 : atI (row1.map V.int) (n : Int) = some (.int (goS S i (n : Int) : Nat)) := atI_nat (by rw [List.getElem?_map, q1]; rfl)
            have af2 : atI (row2.map V.int) (n : Int) = some (.int (goS S j (n : Int) : Nat)) := atI_nat (by rw [List.getElem?_map, q2]; rfl)
            generalize ((List.range n).filter fun g : Nat => decide (mkL told S b z (goS S i (g : Int)) (goS S j (g : Int)) = some t)) = L at *
            generalize goS S i (n : Int) = gi at *
            generalize goS S j (n : Int) = gj at *
            obtain ⟨v, hv, hvz⟩ : ∃ v : Nat, ((mkL told S b z gi gj).map fun t => V.int (t : Nat)).getD (.int ((t + 1 : Nat) : Int)) = .int (v : Nat) ∧ (v = t ↔ mkL told S b z gi gj = some t) := by
              cases mkL told S b z gi gj with
              | none => exact ⟨t + 1, rfl, fun q => by omega, fun q => by cases q⟩
              | some s => exact ⟨s, rfl, fun q => by rw [q], fun q => Option.some.inj q⟩
            refine ⟨_, rfl, D, rfl, .inr ⟨kvs, .inl (S9' _ _ hD)⟩, _, rfl, _, rfl, y, _, _, .ref r1, rfl, rfl, SqL.of (S9' _ _ y1), ix1, _, rfl, r1, _, _, _, rfl, rfl, SqL.of (S9' _ _ hr1), af1, _, rfl, _, rfl, y, _, _, .ref r2, rfl, rfl, SqL.of (S9' _ _ y1), ix2, _, rfl, r2, _, _, _, rfl, rfl, SqL.of (S9' _ _ hr2), af2, by show 2 ≤ sizeLine; decide, fun p2 hp2 => ?_⟩
            have Sa := same_upd (o := .tup [.int (gi : Nat), .int (gj : Nat)]) hp2
            refine ⟨_, rfl, _, DGet.t (Sa _ _ (S9' _ _ hD)) (k := kp ((gi : Int), (gj : Int))) upd_same, ?_⟩
            rw [vw, hv]
            have hGa := Sa _ _ hG9
            have Sb := S9.trans Sa
            generalize upd H9 p2 (.tup [.int (gi : Nat), .int (gj : Nat)]) = Ha at *
            refine ⟨_, rfl, _, _, rfl, rfl, rfl, _, rfl, ?_⟩
            rw [dec_i, show decide ((v : Int) = ((t + 1 : Nat) : Int) - 1) = decide (mkL told S b z gi gj = some t) from by rw [decide_eq_decide, ← hvz]; omega]
            by_cases hq : mkL told S b z gi gj = some t
            · rw [decide_eq_true hq, if_pos hq]
              refine iteT ⟨_, rfl, .inl ⟨rfl, _, SqL.of hGa⟩, _, rfl, G, _, _, rfl, rfl, hGa, by rw [List.length_map]; omega, _, fun e o q => ?_, by rw [upd_same, List.map_append]; rfl, rfl⟩
              by_cases z2 : e = G
              · rw [z2, hG] at q; cases q
              · rw [upd_ne z2]
                exact Sb _ _ q
            · rw [decide_eq_false hq, if_neg hq, List.append_nil]
              exact iteF ⟨_, Sb, hGa, rfl⟩
          · rintro σ H9 ⟨x7, S9, hG9, rfl⟩
            rw [Int.toNat_natCast] at hG9
            have g0 := filt_first nxt
            have ag : atI (((List.range b).filter fun g : Nat => decide (mkL told S b z (goS S i (g : Int)) (goS S j (g : Int)) = some t)).map fun g : Nat => V.int (g : Nat)) 0 = some (.int (f.toNat : Nat)) := atI_nat (j := 0) (by rw [List.getElem?_map, g0]; rfl)
            rw [Int.toNat_of_nonneg hff.1] at ag
            have S9' := S4.trans S9
            have hu9 := S9 _ _ hu4
            refine ⟨_, rfl, _, rfl, G, _, _, _, rfl, rfl, SqL.of hG9, ag, by show 1 ≤ sizeLine; decide, fun p3 hp3 => ?_⟩
            have Sc := same_upd (o := .tup [.int f]) hp3
            refine catA_to (Sc _ _ hu9) upd_same (by rw [List.length_map]; show w1.length + 1 ≤ sizeLine; omega) fun u2 Hb Sd hu2 => ?_
            have hGb := Sd _ _ (Sc _ _ hG9)
            have Sb := S9'.trans (Sc.trans Sd)
            have a1 : atI (row1.map V.int) f = some (.int (goS S i f : Nat)) := at_of (j := f.toNat) (Int.toNat_of_nonneg hff.1).symm (by rw [List.getElem?_map, gr1]; rfl)
            have a2 : atI (row2.map V.int) f = some (.int (goS S j f : Nat)) := at_of (j := f.toNat) (Int.toNat_of_nonneg hff.1).symm (by rw [List.getElem?_map, gr2]; rfl)
            refine ⟨_, rfl, _, rfl, y, _, _, .ref r1, rfl, rfl, SqL.of (Sb _ _ y1), ix1, _, rfl, G, _, _, _, rfl, rfl, SqL.of hGb, ag, r1, _, _, _, rfl, rfl, SqL.of (Sb _ _ hr1), a1, _, rfl, _, rfl, y, _, _, .ref r2, rfl, rfl, SqL.of (Sb _ _ y1), ix2, _, rfl, G, _, _, _, rfl, rfl, SqL.of hGb, ag, r2, _, _, _, rfl, rfl, SqL.of (Sb _ _ hr2), a2, _, _, rfl, ?_⟩
            have hu2' : Hb u2 = some (.tup ((w1 ++ [f]).map V.int)) := by rw [hu2, List.map_append]; rfl
            have tz : mkL told S b z (goS S i f) (goS S j f) = some t := by
              have := (List.find?_range_eq_some.mp nxt).1
              rw [Int.toNat_of_nonneg hff.1] at this
              exact of_decide_eq_true this
            refine ⟨⟨w1 ++ [f], gs, u2, _, _, _, by rw [ew, List.append_assoc]; rfl, by rw [runS_snoc, runS_snoc, ← ei, ← ej, ← et]; exact tz, Sb, hu2', by rw [runS_snoc, runS_snoc, ← ei, ← ej]; rfl⟩, ?_⟩
            rw [mzW_at rfl hu2', M0, List.length_map, List.length_map, List.length_append, List.length_singleton]
            omega
      · exact m_test (m_op m_rI0 m_dgetT m_c)

/-! ### lists of pairs -/
/-- the values vs are the pairs l -/
def Prs (H : Hp) : List V → List (Int × Int) → Prop
  | [], [] => True
  | v :: vs, z :: l => (∃ q, v = .ref q ∧ H q = some (.tup [.int z.1, .int z.2])) ∧ Prs H vs l
  | _, _ => False
theorem Prs.of {H H' : Hp} (e : ∀ q xs, H q = some (.tup xs) → H' q = some (.tup xs)) : ∀ {vs : List V} {l : List (Int × Int)}, Prs H vs l → Prs H' vs l
  | [], [], _ => trivial
  | _ :: _, _ :: _, ⟨⟨q, h1, h2⟩, h3⟩ => ⟨⟨q, h1, e _ _ h2⟩, h3.of e⟩
  | [], _ :: _, h => h.elim
  | _ :: _, [], h => h.elim
theorem Prs.same {H H' : Hp} {vs : List V} {l : List (Int × Int)} (h : Prs H vs l) (S : Same H H') : Prs H' vs l := h.of fun q _ e => S _ _ e
theorem Prs.put {H : Hp} {a : Addr} {ys : List V} {o : HO} {vs : List V} {l : List (Int × Int)} (h : Prs H vs l) (ha : H a = some (.lst ys)) : Prs (upd H a o) vs l := h.of fun q xs e => by
  rw [upd_ne (ne_of e ha (by intro z; cases z))]
  exact e
theorem Prs.but {H H' : Hp} {r : Addr} {ys : List V} {vs : List V} {l : List (Int × Int)} (h : Prs H vs l) (hr : H r = some (.lst ys)) (B : But r H H') : Prs H' vs l := h.of fun q xs e => B _ _ e (ne_of e hr (by intro z; cases z))
theorem Prs.len {H : Hp} : ∀ {vs : List V} {l : List (Int × Int)}, Prs H vs l → vs.length = l.length
  | [], [], _ => rfl
  | _ :: _, _ :: _, ⟨_, h3⟩ => congrArg Nat.succ h3.len
  | [], _ :: _, h => h.elim
  | _ :: _, [], h => h.elim
theorem Prs.snoc {H : Hp} {q : Addr} {z : Int × Int} (hq : H q = some (.tup [.int z.1, .int z.2])) : ∀ {vs : List V} {l : List (Int × Int)}, Prs H vs l → Prs H (vs ++ [.ref q]) (l ++ [z])
  | [], [], _ => ⟨⟨q, rfl, hq⟩, trivial⟩
  | _ :: _, _ :: _, ⟨h1, h3⟩ => ⟨h1, h3.snoc hq⟩
  | [], _ :: _, h => h.elim
  | _ :: _, [], h => h.elim
def pairD (z : Int × Int) : PyData := .tuple [.int z.1, .int z.2]
theorem dp_pair {H : Hp} {q : Addr} {z : Int × Int} (h : H q = some (.tup [.int z.1, .int z.2])) : Dp K H (.ref q) (pairD z) := .tup (SqT.of h) (.cons (.int _) (.cons (.int _) .nil))
theorem Prs.dp {H : Hp} : ∀ {vs : List V} {l : List (Int × Int)}, Prs H vs l → DpAll K H vs (l.map pairD)
  | [], [], _ => .nil
  | _ :: _, _ :: _, ⟨⟨q, h1, h2⟩, h3⟩ => h1 ▸ .cons (dp_pair h2) h3.dp
  | [], _ :: _, h => h.elim
  | _ :: _, [], h => h.elim
theorem eqv_pair (z y : Int × Int) : PyData.eqv (pairD z) (pairD y) = decide (z = y) := by
  show (PyData.eqv (.int z.1) (.int y.1) && (PyData.eqv (.int z.2) (.int y.2) && true)) = _
  show ((z.1 == y.1) && ((z.2 == y.2) && true)) = _
  rw [Bool.eq_iff_iff]
  simp [Prod.ext_iff]
theorem lay_pair (z : Int × Int) : PyData.canLay0 (pairD z) = true ∧ PyData.depth (pairD z) ≤ 2 := ⟨by simp [pairD, PyData.canLay0, PyData.canLayAll0], by simp [pairD, PyData.depth, PyData.depthAll]⟩
theorem shaped_pairs (l : List (Int × Int)) : SeqAt.shaped (.list (l.map pairD)) = true := (shaped_of (lays_map pairD 2 lay_pair l) (by decide)).1
theorem shaped_pair (z : Int × Int) : SeqAt.shaped (pairD z) = true := by
  show (PyData.canLay0 (pairD z) && decide (PyData.depth (pairD z) ≤ 64)) = true
  have := lay_pair z
  rw [Bool.and_eq_true]
  exact ⟨this.1, decide_eq_true (by omega)⟩

/-! ### room -/
theorem room65 {k : Nat} {A : Around} (h : Room k A) : A.units + 65 < cLine := by
  have := h.un
  omega

/-! ### what is reached from behind is told by the number of rounds -/
theorem BRun.det {b d : Int} {R : List Pr} {S : List (List Int)} (h : BRun b d R S) : ∀ {R2 : List Pr} {S2 : List (List Int)}, BRun b d R2 S2 → S.length = S2.length → R = R2 ∧ S = S2 := by
  induction h with
  | start =>
    intro R2 S2 g e
    cases g with
    | start => exact ⟨rfl, rfl⟩
    | step g hp =>
      rw [List.length_append, List.length_singleton] at e
      exact absurd e (by show ¬ 0 = _; omega)
  | @step R S p hr hp ih =>
    intro R2 S2 g e
    cases g with
    | start =>
      rw [List.length_append, List.length_singleton] at e
      exact absurd e (by show ¬ _ = 0; omega)
    | @step R3 S3 p3 g hp3 =>
      rw [List.length_append, List.length_append, List.length_singleton, List.length_singleton] at e
      obtain ⟨rfl, rfl⟩ := ih g (by omega)
      rw [hp] at hp3
      cases hp3
      exact ⟨rfl, rfl⟩
theorem BRun.back {b d : Int} {R : List Pr} {S : List (List Int)} (h : BRun b d R S) : ∀ n, n < S.length → ∃ R2 S2, BRun b d R2 S2 ∧ S2.length = n ∧ ∃ p, R2[n]? = some p := by
  induction h with
  | start => exact fun n hn => absurd hn (Nat.not_lt_zero _)
  | @step R S p hr hp ih =>
    intro n hn
    rw [List.length_append, List.length_singleton] at hn
    rcases Nat.lt_or_ge n S.length with q | q
    · exact ih n q
    · obtain rfl : n = S.length := by omega
      exact ⟨R, S, hr, rfl, p, hp⟩
theorem BRun.uniq {b d : Int} {R R2 : List Pr} {S S2 : List (List Int)} (h : BRun b d R S) (e : S.length = R.length) (g : BRun b d R2 S2) (k : S2.length = R2.length) : R = R2 ∧ S = S2 := by
  have key : ∀ {R R2 : List Pr} {S S2 : List (List Int)}, BRun b d R S → S.length = R.length → BRun b d R2 S2 → S2.length ≤ S.length := fun {R R2 S S2} h e g => by
    refine Nat.le_of_not_lt fun q => ?_
    obtain ⟨R3, S3, r3, l3, p, hp⟩ := g.back S.length q
    obtain ⟨rfl, rfl⟩ := r3.det h l3
    have := (List.getElem?_eq_some_iff.mp hp).1
    omega
  exact h.det g (Nat.le_antisymm (key g k h) (key h e g))
theorem idx_min {R : List Pr} {x : Pr} : ∀ {m : Nat} {p : Pr}, m < R.idxOf x → R[m]? = some p → p ≠ x := by
  induction R with
  | nil => exact fun h _ => absurd h (Nat.not_lt_zero _)
  | cons y R ih =>
    intro m p h hp
    rw [List.idxOf_cons] at h
    by_cases e : y = x
    · rw [show (y == x) = true from beq_iff_eq.mpr e] at h
      exact absurd h (Nat.not_lt_zero _)
    · rw [show (y == x) = false from beq_eq_false_iff_ne.mpr e] at h
      cases m with
      | zero =>
        cases hp
        exact e
      | succ m => exact ih (by have h : m + 1 < R.idxOf x + 1 := h; omega) hp
theorem any_pairs {R : List Pr} {x : Pr} : ((R.map pairD).any fun z => PyData.eqv z (pairD x)) = decide (x ∈ R) := by
  rw [List.any_map, Bool.eq_iff_iff, List.any_eq_true, decide_eq_true_iff]
  constructor
  · rintro ⟨y, hy, e⟩
    have e : PyData.eqv (pairD y) (pairD x) = true := e
    rw [eqv_pair] at e
    exact of_decide_eq_true e ▸ hy
  · exact fun h => ⟨x, h, by show PyData.eqv (pairD x) (pairD x) = true; rw [eqv_pair]; exact decide_eq_true rfl⟩
/-- the law's heap while it looks for what is reached -/
structure LB (H0 H : Hp) (x y z : Addr) (us : List V) (R : List Pr) (S : List (List Int)) : Prop where
  same : Same H0 H
  xy : x ≠ y
  zx : z ≠ x
  new : H0 x = none ∧ H0 y = none ∧ H0 z = none
  at_ : H x = some (.lst us)
  prs : Prs H us R
  stp : ∃ rs : List Addr, H y = some (.lst (rs.map V.ref)) ∧ rs.length = S.length ∧ ∀ (i : Nat) (r : Addr) (s : List Int), rs[i]? = some r → S[i]? = some s → r ≠ x ∧ r ≠ y ∧ r ≠ z ∧ H r = some (.lst (s.map V.int))
section
variable {H0 H H' : Hp} {x y z : Addr} {us : List V} {R : List Pr} {S : List (List Int)}
theorem LB.ext (h : LB H0 H x y z us R S) (s : Same H H') : LB H0 H' x y z us R S := by
  obtain ⟨h1, h2, h3, h4, h5, h6, ⟨rs, r1, r2, r3⟩⟩ := h
  exact ⟨h1.trans s, h2, h3, h4, s _ _ h5, h6.same s, ⟨rs, s _ _ r1, r2, fun i r q g1 g2 => let ⟨n1, n2, n3, g⟩ := r3 i r q g1 g2; ⟨n1, n2, n3, s _ _ g⟩⟩⟩
theorem LB.row (h : LB H0 H x y z us R S) {z2 : Addr} (hz : H z2 = none) : LB H0 (upd H z2 (.lst [])) x y z2 us R S := by
  have g := h.ext (same_upd (o := .lst []) hz)
  obtain ⟨h1, h2, h3, ⟨n1, n2, n3⟩, h5, h6, ⟨rs, r1, r2, r3⟩⟩ := h
  refine ⟨g.same, g.xy, (ne_of_none h5 hz).symm, ⟨n1, n2, ?_⟩, g.at_, g.prs, ⟨rs, by rw [upd_ne (ne_of_none r1 hz)]; exact r1, r2, fun i r q g1 g2 => ?_⟩⟩
  · rcases q : H0 z2 with _ | o
    · rfl
    · rw [h1 _ _ q] at hz; cases hz
  · obtain ⟨m1, m2, m3, m4⟩ := r3 i r q g1 g2
    exact ⟨m1, m2, ne_of_none m4 hz, by rw [upd_ne (ne_of_none m4 hz)]; exact m4⟩
theorem LB.reach (h : LB H0 H x y z us R S) {p : Pr} {t : Addr} (ht : H t = some (.tup [.int p.1, .int p.2])) : LB H0 (upd H x (.lst (us ++ [.ref t]))) x y z (us ++ [.ref t]) (R ++ [p]) S := by
  obtain ⟨h1, h2, h3, ⟨n1, n2, n3⟩, h5, h6, ⟨rs, r1, r2, r3⟩⟩ := h
  refine ⟨fun c o g => by rw [upd_ne (ne_of_none g n1)]; exact h1 _ _ g, h2, h3, ⟨n1, n2, n3⟩, upd_same, ?_, ⟨rs, by rw [upd_ne h2.symm]; exact r1, r2, fun i r q g1 g2 => ?_⟩⟩
  · refine (h6.put h5).snoc ?_
    rw [upd_ne (fun q => by rw [q, h5] at ht; cases ht)]
    exact ht
  · obtain ⟨m1, m2, m3, m4⟩ := r3 i r q g1 g2
    exact ⟨m1, m2, m3, by rw [upd_ne m1]; exact m4⟩
theorem LB.put (h : LB H0 H x y z us R S) (zy : z ≠ y) {l l2 : List V} (hz : H z = some (.lst l)) : LB H0 (upd H z (.lst l2)) x y z us R S := by
  obtain ⟨h1, h2, h3, ⟨n1, n2, n3⟩, h5, h6, ⟨rs, r1, r2, r3⟩⟩ := h
  refine ⟨fun c o g => by rw [upd_ne (ne_of_none g n3)]; exact h1 _ _ g, h2, h3, ⟨n1, n2, n3⟩, by rw [upd_ne h3.symm]; exact h5, h6.put hz, ⟨rs, by rw [upd_ne zy.symm]; exact r1, r2, fun i r q g1 g2 => ?_⟩⟩
  obtain ⟨m1, m2, m3, m4⟩ := r3 i r q g1 g2
  exact ⟨m1, m2, m3, by rw [upd_ne m3]; exact m4⟩
theorem LB.done (h : LB H0 H x y z us R S) (zy : z ≠ y) {row : List Int} (hz : H z = some (.lst (row.map V.int))) {ls : List V} (hy : H y = some (.lst ls)) : LB H0 (upd H y (.lst (ls ++ [.ref z]))) x y y us R (S ++ [row]) := by
  obtain ⟨h1, h2, h3, ⟨n1, n2, n3⟩, h5, h6, ⟨rs, r1, r2, r3⟩⟩ := h
  rw [hy] at r1
  cases r1
  refine ⟨fun c o g => by rw [upd_ne (ne_of_none g n2)]; exact h1 _ _ g, h2, h2.symm, ⟨n1, n2, n2⟩, by rw [upd_ne h2]; exact h5, h6.put hy, ⟨rs ++ [z], by rw [upd_same, List.map_append]; rfl, by rw [List.length_append, List.length_append, r2]; rfl, fun i r q g1 g2 => ?_⟩⟩
  rcases Nat.lt_or_ge i rs.length with l | l
  · rw [List.getElem?_append_left l] at g1
    rw [List.getElem?_append_left (by omega)] at g2
    obtain ⟨m1, m2, m3, m4⟩ := r3 i r q g1 g2
    exact ⟨m1, m2, m2, by rw [upd_ne m2]; exact m4⟩
  · have ei : i = rs.length := by
      have := (List.getElem?_eq_some_iff.mp g1).1
      rw [List.length_append, List.length_singleton] at this
      omega
    rw [ei, List.getElem?_append_right (Nat.le_refl _), Nat.sub_self] at g1
    rw [ei, r2, List.getElem?_append_right (Nat.le_refl _), Nat.sub_self] at g2
    cases g1
    cases g2
    exact ⟨h3, zy, zy, by rw [upd_ne zy]; exact hz⟩
theorem LB.steps (h : LB H0 H x y z us R S) : StepsAt H y S := by
  obtain ⟨rs, r1, r2, r3⟩ := h.stp
  refine ⟨rs, r1, r2, fun i row hi => ?_⟩
  have li : i < rs.length := by
    have := (List.getElem?_eq_some_iff.mp hi).1
    omega
  exact ⟨rs[i], by rw [List.getElem?_map, List.getElem?_eq_getElem li]; rfl, (r3 i _ _ (List.getElem?_eq_getElem li) hi).2.2.2⟩
end
theorem Prs.atP {H : Hp} : ∀ {vs : List V} {l : List (Int × Int)}, Prs H vs l → ∀ {i : Nat} {z : Int × Int}, l[i]? = some z → ∃ q, vs[i]? = some (.ref q) ∧ H q = some (.tup [.int z.1, .int z.2])
  | [], [], _, i, z, h => by cases h
  | _ :: _, _ :: _, ⟨⟨q, h1, h2⟩, _⟩, 0, z, h => by
    cases h
    exact ⟨q, by rw [h1]; rfl, h2⟩
  | _ :: _, _ :: _, ⟨_, h3⟩, i + 1, z, h => h3.atP (i := i) h
  | [], _ :: _, h, _, _, _ => h.elim
  | _ :: _, [], h, _, _, _ => h.elim

/-! ### the law's machine that reads from behind -/
theorem idx_facts {R : List Pr} {q : Pr} (hm : q ∈ R) : (R.map pairD)[R.idxOf q]? = some (pairD q) ∧ PyData.eqv (pairD q) (pairD q) = true ∧ ∀ (m : Nat) (z' : PyData), m < R.idxOf q → (R.map pairD)[m]? = some z' → PyData.eqv z' (pairD q) = false := by
  refine ⟨?_, by rw [eqv_pair]; exact decide_eq_true rfl, fun m z' hm hz' => ?_⟩
  · rw [List.getElem?_map, idx_at hm]
    rfl
  · rw [List.getElem?_map] at hz'
    obtain ⟨p', hp', rfl⟩ := Option.map_eq_some_iff.mp hz'
    rw [eqv_pair]
    exact decide_eq_false (idx_min hm hp')
def spLawBack (K : PySem.W.Frag) : Sp := fun vs H Q _ => ∃ (b : Int) (d : Nat), vs = [.int b, .int (d : Nat)] ∧ 2 ≤ b ∧ b ≤ 16 ∧ 1 ≤ d ∧ d ≤ 20 ∧
  ∀ (q x y : Addr) (us : List V) (R : List Pr) (S : List (List Int)) (H' : Hp), BRun b d R S → S.length = R.length → Same H H' → H' q = some (.lst [.ref x, .ref y]) → H' x = some (.lst us) → Prs H' us R → StepsAt H' y S → Q (.ref q) H'
theorem ok__law_back (T : Tx P K mg) : FnOk P w K mg base CX0 lv__law_back T.a__law_back T.d__law_back ["_law_base", "_law_d"] (spLawBack K) := by
  refine T.F__law_back.ok sc__law_back (fun vs H Q E h => ?_) (fun cdv A outer s H vs Q E hr h => ?_)
  · obtain ⟨b, d, rfl, _⟩ := h
    rfl
  · obtain ⟨b, d, rfl, b1, b2, l1, l2, k⟩ := h
    have dn : ((d : Nat) : Int) ≠ 0 := by omega
    have bigs : (2000 : Nat) ≤ sizeLine := by decide
    refine ⟨_, (pss_cons (ps_par (i := 2) (j := 3) rfl sc__law_back.nd rfl rfl (by decide) rfl rfl (pa_cons (pe_lst (pa_cons (pe_tup (pa_cons pe_int (pa_cons (pe_op op_modN pe_int (pv 1)) pa_nil))) pa_nil)) (pa_cons (pe_lst pa_nil) pa_nil)) (by rfl))
      (pss_cons (ps_set (i := 4) sc__law_back.nd rfl (Or.inl rfl) pe_int)
      (pss_cons (ps_while PassesOwn.never (pt_cmpR op_lt (pv 4) (pe_callB call_len_seq (by rfl) T.n_len (by decide +kernel) (pa_cons (pv 2) pa_nil)) (nomark _)) (pss_cons (ps_asg (pe_ix ix_list (pv 2) (pv 4) (fun _ _ => rfl)) (pg_tup rfl (pgs_cons (pg_name (i := 5) sc__law_back.nd rfl (Or.inl rfl)) (pgs_cons (pg_name (i := 6) sc__law_back.nd rfl (Or.inl rfl)) pgs_nil))))
      (pss_cons (ps_set (i := 7) sc__law_back.nd rfl (Or.inl rfl) (pe_lst pa_nil))
      (pss_cons (ps_for PassesOwn.never rfl (pi_range1 (by rfl) T.n_range (pa_cons (pv 0) pa_nil)) (pg_name (i := 8) sc__law_back.nd rfl (Or.inl rfl)) (pss_cons (ps_set (i := 9) sc__law_back.nd rfl (Or.inl rfl) (pe_op op_modN (pe_op op_add (pv 5) (pe_op op_mul (pv 8) (pv 6))) (pv 1)))
      (pss_cons (ps_set (i := 10) sc__law_back.nd rfl (Or.inl rfl) (pe_tup (pa_cons (pv 9) (pa_cons (pe_op op_modN (pe_op op_mul (pv 6) (pv 0)) (pv 1)) pa_nil))))
      (pss_cons (ps_if (pt_cmpR (op_notInD (room65 hr)) (pv 10) (pv 2) (by with_unfolding_all rfl)) (pss_one (ps_expr (pe_bm PySem.F.plainAttrs_list PySem.F.slot_list_append PySem.F.type_list_append mt_append (pv 2) (pa_cons (pv 10) pa_nil)))) pss_nil)
      (pss_one (ps_expr (pe_bm PySem.F.plainAttrs_list PySem.F.slot_list_append PySem.F.type_list_append mt_append (pv 7) (pa_cons (pe_bm PySem.F.plainAttrs_list PySem.F.slot_list_index PySem.F.type_list_index (mt_indexD (room65 hr)) (pv 2) (pa_cons (pv 10) pa_nil)) pa_nil))))))))
      (pss_cons (ps_expr (pe_bm PySem.F.plainAttrs_list PySem.F.slot_list_append PySem.F.type_list_append mt_append (pv 3) (pa_cons (pv 7) pa_nil)))
      (pss_one (ps_set (i := 4) sc__law_back.nd rfl (Or.inl rfl) (pe_op op_add (pv 4) pe_int))))))))
      (pss_one (ps_ret (pe_lst (pa_cons (pv 2) (pa_cons (pv 3) pa_nil)))))))), ?_⟩
    refine ⟨_, rfl, _, _, rfl, rfl, dn, by show 2 ≤ sizeLine; decide, fun t ht => ⟨by show 1 ≤ sizeLine; decide, fun x hx => ⟨by show 0 ≤ sizeLine; decide, fun y hy => ⟨_, _, rfl, ?_⟩⟩⟩⟩
    have ntx : t ≠ x := ne_of_none upd_same hx
    have nxy : x ≠ y := ne_of_none upd_same hy
    have nty : t ≠ y := ne_of_none (by rw [upd_ne ntx]; exact upd_same) hy
    refine while_by (fun σ H2 => ∃ (R : List Pr) (S : List (List Int)) (us : List V) (v5 v6 v7 v8 v9 v10 : Option V), BRun b d R S ∧ LB H H2 x y y us R S ∧ σ = [some (.int b), some (.int (d : Nat)), some (.ref x), some (.ref y), some (.int (S.length : Nat)), v5, v6, v7, v8, v9, v10])
      (fun _ H2 => match H2 y with | some (.lst xs) => 400 - xs.length | _ => 0) ⟨_, _, [.ref t], none, none, none, none, none, none, .start, ?_, rfl⟩ ?_ (m_test (m_op m_rI0 m_var m_len))
    · have fx : H x = none := by have q := hx; rw [upd_ne ntx.symm] at q; exact q
      have fy : H y = none := by have q := hy; rw [upd_ne nxy.symm, upd_ne nty.symm] at q; exact q
      refine ⟨fun c o g => ?_, nxy, nxy.symm, ⟨fx, fy, fy⟩, ?_, ⟨⟨t, rfl, ?_⟩, trivial⟩, ⟨[], upd_same, rfl, fun i r s g => by cases g⟩⟩
      · rw [upd_ne (ne_of_none g fy), upd_ne (ne_of_none g fx), upd_ne (ne_of_none g ht)]
        exact g
      · rw [upd_ne nxy]
        exact upd_same
      · rw [upd_ne nty, upd_ne ntx, upd_same]
        show some (HO.tup [V.int 0, V.int ((1 : Int).fmod (d : Int))]) = _
        rw [Int.fmod_eq_emod_of_nonneg _ (by omega)]
    · rintro σ H2 ⟨R, S, us, v5, v6, v7, v8, v9, v10, run, at2, rfl⟩
      have lu := at2.prs.len
      obtain ⟨rs, r1, r2, r3⟩ := at2.stp
      refine ⟨_, rfl, _, rfl, x, _, rfl, .inl (SqL.of at2.at_), _, _, rfl, rfl, _, rfl, ?_⟩
      rw [lu]
      refine ite2 (fun g1 => ?_) (fun g1 => ?_)
      · have lt : S.length < R.length := by simpa using g1
        obtain ⟨p, hp⟩ : ∃ p, R[S.length]? = some p := ⟨_, List.getElem?_eq_getElem lt⟩
        obtain ⟨tt, htt, htp⟩ := at2.prs.atP hp
        have pd := (run.rests (by omega)).dom p (List.mem_of_getElem? hp)
        refine ⟨_, rfl, _, rfl, x, _, _, .ref tt, rfl, rfl, SqL.of at2.at_, atI_nat htt, tt, _, rfl, SqT.of htp, rfl, _, _, rfl, _, _, rfl, rfl, Nat.zero_le _, fun z hz => ?_⟩
        refine ⟨_, rfl, b, rfl, by omega, by omega, ?_⟩
        refine for_range (lo := 0) (n := b.toNat) (fun i σ H3 => ∃ (us : List V) (v8 v9 v10 : Option V), LB H H3 x y z us (rowR b d p i R).1 S ∧ H3 z = some (.lst ((rowR b d p i R).2.map V.int)) ∧ σ = [some (.int b), some (.int (d : Nat)), some (.ref x), some (.ref y), some (.int (S.length : Nat)), some (.int p.1), some (.int p.2), some (.ref z), v8, v9, v10]) ⟨us, v8, v9, v10, at2.row hz, upd_same, rfl⟩ ?_ ?_
        · rintro i σ H3 hi ⟨us, v8, v9, v10, at3, hz3, rfl⟩
          have pd2 : -(2 ^ 64) < p.2 ∧ p.2 < 2 ^ 64 := ⟨by omega, by omega⟩
          refine ⟨_, rfl, _, rfl, _, rfl, _, _, rfl, rfl, .inr pd2, _, _, rfl, rfl, _, rfl, _, _, rfl, rfl, dn, _, rfl, _, rfl, _, rfl, _, _, rfl, rfl, .inl pd2, _, rfl, _, _, rfl, rfl, dn, by show 2 ≤ sizeLine; decide, fun t ht => ?_⟩
          have rr := (run.rests (by omega)).row (by omega) b p i
          have rl := rr.le (by omega)
          have hrow : (rowR b d p i R).2.length = i := rowR_len i
          have ht4 : upd H3 t (.tup [V.int ((p.1 + (0 + (i : Int)) * p.2).fmod (d : Int)), V.int ((p.2 * b).fmod (d : Int))]) t = some (.tup [.int (nextR b d p i).1, .int (nextR b d p i).2]) := by
            rw [upd_same, Int.fmod_eq_emod_of_nonneg _ (by omega), Int.fmod_eq_emod_of_nonneg _ (by omega), Int.zero_add]
            rfl
          have at4 := at3.ext (same_upd (o := .tup [V.int ((p.1 + (0 + (i : Int)) * p.2).fmod (d : Int)), V.int ((p.2 * b).fmod (d : Int))]) ht)
          have hz4 := same_upd (o := .tup [V.int ((p.1 + (0 + (i : Int)) * p.2).fmod (d : Int)), V.int ((p.2 * b).fmod (d : Int))]) ht _ _ hz3
          generalize upd H3 t (HO.tup [V.int ((p.1 + (0 + (i : Int)) * p.2).fmod (d : Int)), V.int ((p.2 * b).fmod (d : Int))]) = H4 at ht4 at4 hz4
          have e1 : (rowR b d p (i + 1) R).1 = addR (rowR b d p i R).1 (nextR b d p i) := rfl
          have e2 : (rowR b d p (i + 1) R).2 = (rowR b d p i R).2 ++ [((addR (rowR b d p i R).1 (nextR b d p i)).idxOf (nextR b d p i) : Int)] := rfl
          generalize (rowR b d p (i + 1) R) = RN at e1 e2
          generalize (rowR b d p i R).1 = R' at *
          generalize (rowR b d p i R).2 = row at *
          generalize nextR b d p i = q at *
          have zy : z ≠ y := ne_of_none r1 hz |>.symm
          have lu4 := at4.prs.len
          refine ⟨_, rfl, _, rfl, pairD q, R'.map pairD, dp_pair ht4, .lst (SqL.of at4.at_) at4.prs.dp, shaped_pair _, shaped_pairs _, _, rfl, ?_⟩
          rw [any_pairs]
          by_cases m : q ∈ R'
          · have er : addR R' q = R' := if_pos m
            rw [er] at e1 e2
            rw [decide_eq_true m]
            refine iteF ⟨_, rfl, .inl ⟨rfl, _, SqL.of hz4⟩, _, rfl, .inl ⟨rfl, _, SqL.of at4.at_⟩, _, rfl, ⟨x, .ref t, pairD q, R'.map pairD, R'.idxOf q, pairD q, rfl, rfl, .lst (SqL.of at4.at_) at4.prs.dp, dp_pair ht4, shaped_pairs _, shaped_pair _, (idx_facts m).1, (idx_facts m).2.1, (idx_facts m).2.2, z, _, _, rfl, rfl, hz4, by rw [List.length_map, hrow]; omega, us, _, _, _, ?_, ?_, rfl⟩⟩
            · rw [e1]
              exact at4.put zy hz4
            · rw [e2, upd_same, List.map_append]
              rfl
          · have er : addR R' q = R' ++ [q] := if_neg m
            rw [er] at e1 e2
            rw [decide_eq_false m]
            have at5 := at4.reach ht4
            have mq : q ∈ R' ++ [q] := List.mem_append_right _ List.mem_cons_self
            have hz5 : (upd H4 x (.lst (us ++ [.ref t]))) z = some (.lst (row.map V.int)) := by
              rw [upd_ne at4.zx]
              exact hz4
            have ht5 : (upd H4 x (.lst (us ++ [.ref t]))) t = some (.tup [.int q.1, .int q.2]) := by
              rw [upd_ne (fun e => by rw [e, at4.at_] at ht4; cases ht4)]
              exact ht4
            refine iteT ⟨_, rfl, .inl ⟨rfl, _, SqL.of at4.at_⟩, _, rfl, x, _, _, rfl, rfl, at4.at_, by omega, ?_⟩
            refine ⟨_, rfl, .inl ⟨rfl, _, SqL.of hz5⟩, _, rfl, .inl ⟨rfl, _, SqL.of at5.at_⟩, _, rfl, ⟨x, .ref t, pairD q, (R' ++ [q]).map pairD, (R' ++ [q]).idxOf q, pairD q, rfl, rfl, .lst (SqL.of at5.at_) at5.prs.dp, dp_pair ht5, shaped_pairs _, shaped_pair _, (idx_facts mq).1, (idx_facts mq).2.1, (idx_facts mq).2.2, z, _, _, rfl, rfl, hz5, by rw [List.length_map, hrow]; omega, us ++ [.ref t], _, _, _, ?_, ?_, rfl⟩⟩
            · rw [e1]
              exact at5.put zy hz5
            · rw [e2, upd_same, List.map_append]
              rfl
        · rintro σ H3 ⟨us, v8, v9, v10, at3, hz3, rfl⟩
          obtain ⟨rs', r1', r2', r3'⟩ := at3.stp
          have zy : z ≠ y := ne_of_none r1 hz |>.symm
          have sl : S.length < 400 := Nat.lt_of_lt_of_le lt ((run.rests (by omega)).le (by omega))
          refine ⟨_, rfl, .inl ⟨rfl, _, SqL.of r1'⟩, _, rfl, y, _, _, rfl, rfl, r1', by rw [List.length_map, r2']; omega, _, rfl, _, _, rfl, rfl, ⟨_, _, _, _, _, _, _, _, _, .step run hp, at3.done zy hz3 r1', by rw [List.length_append, List.length_singleton]; rfl⟩, ?_⟩
          rw [upd_same, r1]
          show 400 - (rs'.map V.ref ++ [V.ref z]).length < 400 - (rs.map V.ref).length
          rw [List.length_append, List.length_map, List.length_map, r2, r2', List.length_singleton]
          omega
      · have eq : S.length = R.length := by
          have g2 : ¬ S.length < R.length := by simpa using g1
          have := run.le
          omega
        refine ⟨_, rfl, _, rfl, by show 2 ≤ sizeLine; decide, fun q hq => ?_⟩
        have Sq := same_upd (o := .lst [.ref x, .ref y]) hq
        exact k q x y us R S _ run eq (at2.same.trans Sq) upd_same (Sq _ _ at2.at_) (at2.prs.same Sq) (at2.steps.same Sq)

/-! ### the law's draws: what is drawn lies in its range; nothing but the row of the draws changes -/
theorem fmod_bd (x : Int) {m : Int} (h : 0 < m) : 0 ≤ x.fmod m ∧ x.fmod m < m := by
  rw [Int.fmod_eq_emod_of_nonneg x (by omega)]
  exact ⟨Int.emod_nonneg x (by omega), Int.emod_lt_of_pos x h⟩
abbrev rowL (a : Addr) (i s c : Int) : List V := [.ref a, .int i, .int s, .int c]
/-- the script at a: locked, or of the top's own -/
def Scr (K : PySem.W.Frag) (H : Hp) (a : Addr) (xs : List V) : Prop := (∃ o, H a = some (.frz o (.lst xs))) ∨ SqL K (fun _ => none) a xs
theorem scr_of {H : Hp} {a : Addr} {xs : List V} (hO : ∀ b, H b = none ∨ ∃ o xs, H b = some (.frz o (.lst xs))) (h : SqL K H a xs) : Scr K H a xs := by
  rcases h with (h | h) | h
  · rcases hO a with z | ⟨o, ys, z⟩
    · rw [z] at h; cases h
    · rw [z] at h; cases h
  · exact .inl h
  · exact .inr (.inr h)
theorem Scr.seq {H : Hp} {a : Addr} {xs : List V} (h : Scr K H a xs) : SqL K H a xs := by
  rcases h with h | (h | ⟨o, h⟩) | h
  · exact .inl (.inr h)
  · cases h
  · cases h
  · exact .inr h
theorem Scr.mono {H H' : Hp} {a : Addr} {xs : List V} (h : Scr K H a xs) (k : ∀ b o u, H b = some (.frz o u) → H' b = some (.frz o u)) : Scr K H' a xs := by
  rcases h with ⟨o, h⟩ | h
  · exact .inl ⟨o, k _ _ _ h⟩
  · exact .inr h
/-- at r the row of the draws over the script at a -/
def RowAt (K : PySem.W.Frag) (H : Hp) (r a : Addr) (ns : List Int) : Prop := ∃ i s c : Int, H r = some (.lst (rowL a i s c)) ∧ 0 ≤ i ∧ 0 ≤ c ∧ Scr K H a (ns.map V.int) ∧ ns.length ≤ 63
theorem RowAt.same {H H' : Hp} {r a : Addr} {ns : List Int} (h : RowAt K H r a ns) (e : Same H H') : RowAt K H' r a ns :=
  let ⟨i, s, c, h1, h2, h3, h4, h5⟩ := h
  ⟨i, s, c, e _ _ h1, h2, h3, h4.mono fun _ _ _ z => e _ _ z, h5⟩
/-- another list is changed -/
theorem RowAt.put {H : Hp} {r a q : Addr} {ns : List Int} {ys : List V} {o : HO} (h : RowAt K H r a ns) (hq : H q = some (.lst ys)) (n : q ≠ r) : RowAt K (upd H q o) r a ns :=
  let ⟨i, s, c, h1, h2, h3, h4, h5⟩ := h
  ⟨i, s, c, by rw [upd_ne (Ne.symm n)]; exact h1, h2, h3, h4.mono fun b o' u z => by rw [upd_ne (ne_of z hq (by intro y; cases y))]; exact z, h5⟩
/-- the row as the law lays it -/
theorem RowAt.start {H : Hp} {r a : Addr} {ns : List Int} {i s c : Int} (hr : H r = none) (hS : Scr K H a (ns.map V.int)) (hl : ns.length ≤ 63) (hi : 0 ≤ i) (hc : 0 ≤ c) : RowAt K (upd H r (.lst (rowL a i s c))) r a ns :=
  ⟨i, s, c, upd_same, hi, hc, hS.mono fun b o u z => by rw [upd_ne (ne_of_none z hr)]; exact z, hl⟩
def spTaken (K : PySem.W.Frag) : Sp := fun vs H Q _ => ∃ (r a : Addr) (ns : List Int) (m : Int), vs = [.ref r, .int m] ∧ 0 < m ∧ m ≤ 10 ^ 41 ∧ RowAt K H r a ns ∧
  ∀ (v : Int) (H' : Hp), 0 ≤ v → v < m → RowAt K H' r a ns → But r H H' → Q (.int v) H'
theorem ok__law_taken (T : Tx P K mg) : FnOk P w K mg base CX0 lv__law_taken T.a__law_taken T.d__law_taken ["_law_row", "_law_many"] (spTaken K) := by
  refine T.F__law_taken.ok sc__law_taken (fun vs H Q E h => ?_) (fun cdv A outer s H vs Q E hr h => ?_)
  · obtain ⟨r, a, ns, m, rfl, _⟩ := h
    rfl
  · obtain ⟨r, a, ns, m, rfl, m0, m1, ⟨i, s, c, hR, i0, c0, hK, hlen⟩, k⟩ := h
    have hKB : ∀ H', But r H H' → Scr K H' a (ns.map V.int) := fun H' b => hK.mono fun c o u z => b c _ z (ne_of z hR (by intro y; cases y))
    have hdv : ∀ x : Int, CDivW x m := fun x => wide_div m0 (b := 140) (by omega) (by decide) (by decide)
    have back : ∀ (v : Int) (i' s' c' : Int) (H' : Hp), 0 ≤ v → v < m → 0 ≤ i' → 0 ≤ c' → H' r = some (.lst (rowL a i' s' c')) → But r H H' → Q (.int v) H' := fun v i' s' c' H' v0 v1 z1 z2 e b =>
      k v H' v0 v1 ⟨i', s', c', e, z1, z2, hKB _ b, hlen⟩ b
    refine ⟨_, (pss_cons (ps_if (pt_cmpR op_gt (pe_ix ix_list (pv 0) pe_int (fun _ _ => rfl)) pe_int (nomark _)) (pss_cons (ps_set (i := 2) sc__law_taken.nd rfl (Or.inl rfl) (pe_op op_modN (pe_callTy call_int1 (by rfl) T.n_int (by decide +kernel) (pa_cons (pe_ix ix_list (pv 0) pe_int (fun _ _ => rfl)) pa_nil)) (pv 1)))
      (pss_cons (ps_asg (pe_op op_fdivW (pe_ix ix_list (pv 0) pe_int (fun _ _ => rfl)) (pv 1)) (pg_sub (pv 0) pe_int set_list))
      (pss_one (ps_ret (pv 2))))) pss_nil)
      (pss_cons (ps_asg (pe_op op_add (pe_ix ix_list (pv 0) pe_int (fun _ _ => rfl)) pe_int) (pg_sub (pv 0) pe_int set_list))
      (pss_cons (ps_if (pt_cmpR op_gt (pe_ix ix_list (pv 0) pe_int (fun _ _ => rfl)) (pe_callB call_len_seq (by rfl) T.n_len (by decide +kernel) (pa_cons (pe_ix ix_list (pv 0) pe_int (fun _ _ => rfl)) pa_nil)) (nomark _)) (pss_cons (ps_asg (pe_op op_modN (pe_callTy call_int1 (by rfl) T.n_int (by decide +kernel) (pa_cons (pe_op op_add (pe_op op_mul (pe_ix ix_list (pv 0) pe_int (fun _ _ => rfl)) pe_int) pe_int) pa_nil)) pe_int) (pg_sub (pv 0) pe_int set_list))
      (pss_one (ps_ret (pe_op op_modN (pe_callTy call_int1 (by rfl) T.n_int (by decide +kernel) (pa_cons (pe_op op_fdivW (pe_ix ix_list (pv 0) pe_int (fun _ _ => rfl)) pe_int) pa_nil)) (pv 1))))) pss_nil)
      (pss_cons (ps_set (i := 3) sc__law_taken.nd rfl (Or.inl rfl) (pe_ix ix_list (pe_ix ix_list (pv 0) pe_int (fun _ _ => rfl)) (pe_op op_sub (pe_ix ix_list (pv 0) pe_int (fun _ _ => rfl)) pe_int) (fun _ _ => rfl)))
      (pss_cons (ps_asg (pe_op op_modN (pe_callTy call_int1 (by rfl) T.n_int (by decide +kernel) (pa_cons (pe_op op_add (pe_op op_add (pe_op op_mul (pe_ix ix_list (pv 0) pe_int (fun _ _ => rfl)) pe_int) (pv 3)) pe_int) pa_nil)) pe_int) (pg_sub (pv 0) pe_int set_list))
      (pss_cons (ps_if (pt_cmpR op_ge (pv 3) (pe_op op_pow pe_int pe_int) (nomark _)) (pss_one (ps_asg (pe_op op_fdivW (pv 3) (pv 1)) (pg_sub (pv 0) pe_int set_list))) pss_nil)
      (pss_one (ps_ret (pe_op op_modN (pe_callTy call_int1 (by rfl) T.n_int (by decide +kernel) (pa_cons (pv 3) pa_nil)) (pv 1)))))))))), ?_⟩
    refine ⟨_, rfl, r, _, _, _, rfl, rfl, SqL.of hR, rfl, _, _, rfl, rfl, _, rfl, ?_⟩
    refine ite2 (fun g => ?_) (fun g => ?_)
    · -- a great cell's digits
      obtain ⟨v0, v1⟩ := fmod_bd c m0
      refine ⟨_, rfl, r, _, _, _, rfl, rfl, SqL.of hR, rfl, .inl ⟨_, rfl, _, rfl, _, _, rfl, rfl, by omega, ?_⟩⟩
      refine ⟨_, rfl, r, _, _, _, rfl, rfl, SqL.of hR, rfl, _, rfl, _, _, rfl, rfl, hdv c, _, rfl, r, _, _, _, rfl, rfl, hR, rfl, ?_⟩
      exact ⟨_, rfl, back _ i s (c / m) _ v0 v1 i0 (Int.ediv_nonneg c0 (by omega)) upd_same But.put⟩
    · refine ⟨_, rfl, r, _, _, _, rfl, rfl, SqL.of hR, rfl, _, _, rfl, rfl, _, rfl, r, _, _, _, rfl, rfl, hR, rfl, ?_⟩
      -- behind the script's end?
      have hR1 : upd H r (.lst (rowL a (i + 1) s c)) r = some (.lst (rowL a (i + 1) s c)) := upd_same
      have hB1 : But r H (upd H r (.lst (rowL a (i + 1) s c))) := But.put
      have hS1 : SqL K (upd H r (.lst (rowL a (i + 1) s c))) a (ns.map V.int) := (hKB _ hB1).seq
      refine ⟨_, rfl, r, _, _, _, rfl, rfl, SqL.of hR1, rfl, _, rfl, r, _, _, _, rfl, rfl, SqL.of hR1, rfl, a, _, rfl, .inl hS1, _, _, rfl, rfl, _, rfl, ?_⟩
      refine ite2 (fun g2 => ?_) (fun g2 => ?_)
      · refine ⟨_, rfl, r, _, _, _, rfl, rfl, SqL.of hR1, rfl, _, _, rfl, rfl, .inr ⟨by decide, by decide⟩, _, _, rfl, rfl, .inl ⟨_, rfl, _, _, rfl, rfl, (show (2147483647 : Int) ≠ 0 by decide), ?_⟩⟩
        refine ⟨_, rfl, r, _, _, _, rfl, rfl, hR1, rfl, ?_⟩
        refine ⟨_, rfl, r, _, _, _, rfl, rfl, SqL.of upd_same, rfl, _, _, rfl, rfl, wide_div (by decide) (b := 3) (by decide) (by decide) (by decide), .inl ⟨_, rfl, _, rfl, _, _, rfl, rfl, by omega, ?_⟩⟩
        obtain ⟨v0, v1⟩ := fmod_bd ((s * 48271 + 11).fmod 2147483647 / 7) m0
        exact back _ (i + 1) _ c _ v0 v1 (by omega) c0 upd_same (hB1.trans But.put)
      · have g3 : i + 1 ≤ (ns.length : Int) := by
          simp only [decide_eq_true_eq, List.length_map] at g2
          omega
        obtain ⟨z, hz⟩ : ∃ z, ns[i.toNat]? = some z := ⟨ns[i.toNat]'(by omega), List.getElem?_eq_getElem (by omega)⟩
        have hz1 : atI (ns.map V.int) (i + 1 - 1) = some (V.int z) := at_of (j := i.toNat) (by omega) (by rw [List.getElem?_map, hz]; rfl)
        refine ⟨_, rfl, r, _, _, _, rfl, rfl, SqL.of hR1, rfl, _, rfl, r, _, _, _, rfl, rfl, SqL.of hR1, rfl, _, _, rfl, rfl, a, _, _, _, rfl, rfl, hS1, hz1, ?_⟩
        refine ⟨_, rfl, r, _, _, _, rfl, rfl, SqL.of hR1, rfl, _, _, rfl, rfl, .inr ⟨by decide, by decide⟩, _, rfl, _, _, rfl, rfl, _, _, rfl, rfl, .inl ⟨_, rfl, _, _, rfl, rfl, (show (2147483647 : Int) ≠ 0 by decide), ?_⟩⟩
        refine ⟨_, rfl, r, _, _, _, rfl, rfl, hR1, rfl, ?_⟩
        have hR2 : upd (upd H r (.lst (rowL a (i + 1) s c))) r (.lst (rowL a (i + 1) ((s * 48271 + z + 11).fmod 2147483647) c)) r = some (.lst (rowL a (i + 1) ((s * 48271 + z + 11).fmod 2147483647) c)) := upd_same
        have hB2 : But r H (upd (upd H r (.lst (rowL a (i + 1) s c))) r (.lst (rowL a (i + 1) ((s * 48271 + z + 11).fmod 2147483647) c))) := hB1.trans But.put
        obtain ⟨v0, v1⟩ := fmod_bd z m0
        refine ⟨_, rfl, _, _, rfl, rfl, ⟨by decide, by decide, by decide⟩, _, _, rfl, rfl, _, rfl, ?_⟩
        refine ite2 (fun g4 => ?_) (fun g4 => ?_)
        · refine ⟨_, rfl, _, rfl, _, _, rfl, rfl, hdv z, _, rfl, r, _, _, _, rfl, rfl, hR2, rfl, ?_⟩
          have z0 : 0 ≤ z := by
            have g5 : (10 : Int) ^ 18 ≤ z := by simpa using g4
            exact Int.le_trans (by decide) g5
          refine ⟨_, rfl, .inl ⟨_, rfl, _, rfl, _, _, rfl, rfl, by omega, ?_⟩⟩
          exact back _ (i + 1) _ (z / m) _ v0 v1 (by omega) (Int.ediv_nonneg z0 (by omega)) upd_same (hB2.trans But.put)
        · refine ⟨_, rfl, .inl ⟨_, rfl, _, rfl, _, _, rfl, rfl, by omega, ?_⟩⟩
          exact back _ (i + 1) _ c _ v0 v1 (by omega) c0 hR2 hB2

/-! ### a menu: an item of a written list at a drawn place -/
theorem RowAt.new {H : Hp} {r a p : Addr} {ns : List Int} {o : HO} (h : RowAt K H r a ns) (hp : H p = none) : RowAt K (upd H p o) r a ns := h.same (same_upd hp)
theorem RowAt.ne {H : Hp} {r a p : Addr} {ns : List Int} (h : RowAt K H r a ns) (hp : H p = none) : p ≠ r :=
  let ⟨_, _, _, h1, _⟩ := h
  (ne_of_none h1 hp).symm
theorem But.new {H H1 : Hp} {r p : Addr} {o : HO} (b : But r H H1) (hp : H1 p = none) : But r H (upd H1 p o) := b.trans (Same.but (same_upd hp))
theorem But.free {H H1 : Hp} {r p : Addr} (b : But r H H1) (n : p ≠ r) (hp : H1 p = none) : H p = none := by
  cases q : H p with
  | none => rfl
  | some o =>
    rw [b p o q n] at hp
    cases hp
/-- an item of the list laid at p, at a place that is drawn -/
theorem menu {H1 : Hp} {r a p : Addr} {ns items : List Int} {m : Int} (Pr : Int → Prop) (hP : ∀ z ∈ items, Pr z) (hl : (items.length : Int) = m) (R1 : RowAt K H1 r a ns) (hp : H1 p = none) {Q : VK}
    (k : ∀ (z : Int) (H2 : Hp), Pr z → RowAt K H2 r a ns → But r H1 H2 → H2 p = some (.lst (items.map V.int)) → Q (.int z) H2) (h0 : 0 < m) (h1 : m ≤ 10 ^ 41) :
    spTaken K ([.ref r, .int m] ++ []) (upd H1 p (.lst (items.map V.int))) (fun y H2 => rIxL K (.ref p) y H2 Q) E0 := by
  refine ⟨r, a, ns, m, rfl, h0, h1, R1.new hp, fun w H2 w0 w1 R2 B2 => ?_⟩
  obtain ⟨z, hz, he⟩ := at_some Pr hP w0 (by omega)
  have npr := R1.ne hp
  exact ⟨p, _, _, _, rfl, rfl, SqL.of (B2 _ _ upd_same npr), he, k z H2 hz R2 ((Same.but (same_upd hp)).trans B2) (B2 _ _ upd_same npr)⟩
theorem at_someV (Pr : V → Prop) {xs : List V} (h : ∀ z ∈ xs, Pr z) {i : Int} (h0 : 0 ≤ i) (h1 : i < xs.length) : ∃ z, Pr z ∧ atI xs i = some z := by
  obtain ⟨z, hz⟩ : ∃ z, xs[i.toNat]? = some z := ⟨xs[i.toNat]'(by omega), List.getElem?_eq_getElem (by omega)⟩
  exact ⟨z, h z (List.mem_of_getElem? hz), at_of (j := i.toNat) (by omega) hz⟩
theorem menuV {H1 : Hp} {r a p : Addr} {ns : List Int} {items : List V} {m : Int} (Pr : V → Prop) (hP : ∀ z ∈ items, Pr z) (hl : (items.length : Int) = m) (R1 : RowAt K H1 r a ns) (hp : H1 p = none) {Q : VK}
    (k : ∀ (z : V) (H2 : Hp), Pr z → RowAt K H2 r a ns → But r H1 H2 → H2 p = some (.lst items) → Q z H2) (h0 : 0 < m) (h1 : m ≤ 10 ^ 41) :
    spTaken K ([.ref r, .int m] ++ []) (upd H1 p (.lst items)) (fun y H2 => rIxL K (.ref p) y H2 Q) E0 := by
  refine ⟨r, a, ns, m, rfl, h0, h1, R1.new hp, fun w H2 w0 w1 R2 B2 => ?_⟩
  obtain ⟨z, hz, he⟩ := at_someV Pr hP w0 (by omega)
  have npr := R1.ne hp
  exact ⟨p, _, _, _, rfl, rfl, SqL.of (B2 _ _ upd_same npr), he, k z H2 hz R2 ((Same.but (same_upd hp)).trans B2) (B2 _ _ upd_same npr)⟩
/-- a plain value: None, a bool, an int, a text -/
def flatA : V → Bool
  | .non => true | .bl _ => true | .int _ => true | .str _ => true | _ => false
theorem any_flat {T : Addr → Prop} {H : Hp} {v : V} (h : flatA v = true) : AnyV T H v := by
  cases v with
  | non => exact .non
  | bl b => exact .bl b
  | int i => exact .int i
  | str x => exact .str x
  | _ => cases h

/-! ### the row is a list -/
theorem RowAt.lst {H : Hp} {r a : Addr} {ns : List Int} (h : RowAt K H r a ns) : ∃ ys, H r = some (.lst ys) := let ⟨_, _, _, h1, _⟩ := h; ⟨_, h1⟩

/-! ### tuples cut and joined -/
theorem cutV_take (xs : List V) (k : Nat) : cutV xs none (some (k : Int)) = xs.take k := by
  unfold cutV
  rw [HT.sIx_none, HT.sIx_nat, List.drop_zero, Nat.sub_zero]
  rcases Nat.le_total k xs.length with h | h
  · rw [Nat.min_eq_left h]
  · rw [Nat.min_eq_right h, List.take_of_length_le (Nat.le_refl _), List.take_of_length_le h]
theorem cutV_drop (xs : List V) (k : Nat) : cutV xs (some (k : Int)) none = xs.drop k := by
  unfold cutV
  rw [HT.sIx_none, HT.sIx_nat]
  rcases Nat.le_total k xs.length with h | h
  · rw [Nat.min_eq_left h, List.take_of_length_le (by rw [List.length_drop]; exact Nat.le_refl _)]
  · rw [Nat.min_eq_right h, List.drop_of_length_le (Nat.le_refl _), List.drop_of_length_le h, List.take_nil]
/-- what is before it, then t[k + 1:] -/
theorem tail_cat {σ : L2.St} {H : Hp} {c q : Addr} {ys xs : List V} {k : Nat} {Q : VK} (h6 : σ[6]? = some (some (.ref q))) (h7 : σ[7]? = some (some (.int (k : Int)))) (hq : H q = some (.tup xs)) (hc : H c = some (.tup ys)) (ny : ys ≠ []) (sz : ys.length + xs.length ≤ 1000) (nk : xs ≠ [])
    (hQ : ∀ (w' : Addr) (H2 : Hp), Same H H2 → H2 w' = some (.tup (ys ++ xs.drop (k + 1))) → (w' = c ∨ H w' = none) → Q (.ref w') H2) :
    tSl (rSlT K) (tVar 6) (tPart (tOp (rI0 fun i j => V.int (i + j)) (tVar 7) (tC (V.int 1)))) tNoPart σ H (fun y H2 => rCatA K (.ref c) y H2 Q) := by
  have e1 : ((k : Int) + 1) = ((k + 1 : Nat) : Int) := by omega
  refine ⟨_, h6, _, h7, _, _, rfl, rfl, _, rfl, q, xs, rfl, SqT.of hq, ?_, fun p hp => ?_⟩
  · rintro ⟨z, _⟩
    rw [e1, HT.sIx_nat] at z
    have : 0 < xs.length := List.length_pos_iff.mpr nk
    omega
  · rw [e1, cutV_drop]
    have S := same_upd (o := .tup (xs.drop (k + 1))) hp
    refine ⟨c, p, ys, xs.drop (k + 1), rfl, rfl, SqT.of (S _ _ hc), SqT.of upd_same, ?_, fun e => absurd e ny, fun _ e => ?_, fun _ _ p2 hp2 => ?_⟩
    · have := List.length_drop (l := xs) (i := k + 1)
      have h2 : (1000 : Nat) ≤ sizeLine := by decide
      omega
    · refine hQ c _ S ?_ (.inl rfl)
      have e3 := S _ _ hc
      rw [e] at e3 ⊢
      rw [List.append_nil]
      exact e3
    · refine hQ p2 _ (S.trans (same_upd hp2)) upd_same (.inr ?_)
      by_cases z : p2 = p
      · rw [z]
        exact hp
      · rw [upd_ne z] at hp2
        exact hp2

/-! ### tuple * int, none or one of it too -/
end
end Rt
namespace L2
open PySem PySem.Spec PyProof.Rows
theorem mul_one (l : Addr) (xs : Array Value) (n : Nat) (dd : Option Addr) (sl : Array (Option Value)) (u : Tok) :
    Meets (Builtin.«tuple.__mul__» ⟨[.ref l, .int 1 u], []⟩) (fun _ R s => s.heap.get? l = some ⟨.type "tuple", dd, .seq xs n, sl⟩ ∧ R (.ok (.ret (.ref l))) s) := by
  refine Meets.of_wp fun P w A R s hyp => ?_
  obtain ⟨hp, g, d, tk, os⟩ := s
  obtain ⟨at0, fin⟩ := hyp
  have ix := AutoSeq1.idx_int
  have b0 : (decide ((1 : Int) < -(2 ^ 63)) || decide ((1 : Int) ≥ 2 ^ 63)) = false := by decide
  have b1 : (xs.isEmpty || (1 : Int) == 1) = true := by rw [Bool.or_eq_true]; exact .inr (by decide)
  wp_walk using wpAny_loadPart' at0
  repeat (first
    | (refine wpAny_ite_false (decide_eq_false (by rw [b0]; decide)) ?_; wp_walk using wpAny_loadPart' at0)
    | (refine wpAny_ite_true (decide_eq_true b1) ?_; wp_walk using wpAny_loadPart' at0))
  exact ⟨_, rfl, fin⟩
theorem mul_none (l : Addr) (xs : Array Value) (n : Nat) (dd : Option Addr) (sl : Array (Option Value)) (u : Tok) (ne : xs.isEmpty = false) :
    Meets (Builtin.«tuple.__mul__» ⟨[.ref l, .int 0 u], []⟩) (fun _ R s => s.heap.get? l = some ⟨.type "tuple", dd, .seq xs n, sl⟩ ∧ R (.ok (.ret (.ref s.heap.objs.size))) { s with heap := s.heap.push ⟨.type "tuple", none, .seq #[], #[]⟩ }) := by
  refine Meets.of_wp fun P w A R s hyp => ?_
  obtain ⟨hp, g, d, tk, os⟩ := s
  obtain ⟨at0, fin⟩ := hyp
  have ix := AutoSeq1.idx_int
  have b0 : (decide ((0 : Int) < -(2 ^ 63)) || decide ((0 : Int) ≥ 2 ^ 63)) = false := by decide
  have b1 : (xs.isEmpty || (0 : Int) == 1) = false := by rw [ne]; decide
  have b2 : (decide ((0 : Int) ≤ 0) || xs.isEmpty) = true := by rw [Bool.or_eq_true]; exact .inl (by decide)
  wp_walk using wpAny_loadPart' at0
  repeat (first
    | (refine wpAny_ite_false (decide_eq_false (by rw [b0]; decide)) ?_; wp_walk using wpAny_loadPart' at0)
    | (refine wpAny_ite_false (decide_eq_false (by rw [b1]; decide)) ?_; wp_walk using wpAny_loadPart' at0)
    | (refine wpAny_ite_true (decide_eq_true b2) ?_; wp_walk using wpAny_loadPart' at0))
  exact ⟨_, rfl, fin⟩
def rRepA (K : PySem.W.Frag) : R2 := fun x y H Q => ∃ l k xs, x = .ref l ∧ y = .int k ∧ SqT K H l xs ∧ xs ≠ [] ∧ 0 ≤ k ∧ k ≤ 1000 ∧ xs.length ≤ 1000 ∧
  (k = 1 → Q (.ref l) H) ∧ (k ≠ 1 → ∀ p, H p = none → Q (.ref p) (upd H p (.tup (List.replicate k.toNat xs).flatten)))
theorem op_repA {X : Cx} : OpR X (binaryOp .Mult) (rRepA X.K) := by
  intro pins s σ H x y v u Q I rx ry wish
  obtain ⟨l, k, xs, rfl, rfl, sq, ne, k0, k1, hz, q1, q2⟩ := wish
  by_cases big : 2 ≤ k
  · exact op_repT pins s σ H _ _ v u Q I rx ry ⟨l, k, xs, rfl, rfl, sq, ne, big, k1, hz, q2 (by omega)⟩
  obtain rfl : v = Value.ref l := rx
  obtain ⟨tk, rfl⟩ := ry
  obtain ⟨its, vals, ⟨⟨c, dd, dt, sl⟩, at0, ec, n, ed⟩, _⟩ := I.tuple sq
  simp only at ec ed
  subst ec ed
  have ni : its.toArray.isEmpty = false := by
    cases its with
    | nil => cases vals; exact absurd rfl ne
    | cons a b => rfl
  by_cases one : k = 1
  · subst one
    refine wpAny_binaryOp_repeat_ref (T := "tuple") (U := "int") (by decide) ⟨_, at0, rfl⟩ (fun s2 => typeIs_int s2 _ tk) noFill_tuple_mul F.fills_int_mul F.slot_int_rmul repeat_tuple F.slot_int_index.lookup ?_
    refine call_meets F.slot_int_rmul (typeIs_int s _ tk) F.entry_int_rmul (F.args_int_rmul_2 _ _) (int_rmul_tuple _ tk l its.toArray n dd sl) ⟨at0, rfl, ⟨_, at0, rfl⟩, ?_⟩
    exact call_meets F.slot_tuple_mul ⟨_, at0, rfl⟩ F.entry_tuple_mul (F.args_tuple_mul_2 _ _) (mul_one l its.toArray n dd sl tk) ⟨at0, ⟨.ref l, H, I, rfl, q1 rfl⟩⟩
  · obtain rfl : k = 0 := by omega
    refine wpAny_binaryOp_repeat_ref (T := "tuple") (U := "int") (by decide) ⟨_, at0, rfl⟩ (fun s2 => typeIs_int s2 _ tk) noFill_tuple_mul F.fills_int_mul F.slot_int_rmul repeat_tuple F.slot_int_index.lookup ?_
    refine call_meets F.slot_int_rmul (typeIs_int s _ tk) F.entry_int_rmul (F.args_int_rmul_2 _ _) (int_rmul_tuple _ tk l its.toArray n dd sl) ⟨at0, rfl, ⟨_, at0, rfl⟩, ?_⟩
    refine call_meets F.slot_tuple_mul ⟨_, at0, rfl⟩ F.entry_tuple_mul (F.args_tuple_mul_2 _ _) (mul_none l its.toArray n dd sl tk ni) ⟨at0, ?_⟩
    refine ⟨.ref s.heap.objs.size, _, I.laid (t' := s.toks) (o := .tup []) (fun b ob q => Heap.get?_push_of_some _ q) (Nat.le_refl _) ?_, rfl, q2 (by decide) _ (I.hok.fresh (Nat.le_refl _))⟩
    exact ⟨Nat.zero_le _, [], .nil, IsTup.new _ _⟩
end L2
namespace Rt
open PySem L2 PySem.Spec PyProof.Rows
section
variable {P : Program} {w : World} {K : PySem.W.Frag} {mg : Str → Option Value} {base : Heap}

/-! ### lists of one plain value -/
def datF : V → PyData
  | .bl b => .bool b
  | .int i => .int i
  | .str x => .str x
  | _ => .none
theorem dp_flat {H : Hp} {x : V} (h : flatA x = true) : Dp K H x (datF x) := by
  cases x with
  | non => exact .non
  | bl b => exact .bl b
  | int i => exact .int i
  | str x => exact .str x
  | _ => cases h
theorem dp_flat1 {H : Hp} {a : Addr} {x : V} (h : flatA x = true) (hs : SqL K H a [x]) : Dp K H (.ref a) (.list [datF x]) := .lst hs (.cons (dp_flat h) .nil)
theorem eqv_datF (x : V) : PyData.eqv (datF x) (datF x) = true := by
  cases x <;> simp [datF, PyData.eqv]
theorem eqv_flat1 (x : V) : PyData.eqv (.list [datF x]) (.list [datF x]) = true := by
  show (PyData.eqv (datF x) (datF x) && true) = true
  rw [eqv_datF, Bool.and_true]
/-- a plain value whose list of one is compared at once -/
def flatS (x : V) : Prop := flatA x = true ∧ SeqAt.shaped (.list [datF x]) = true
/-- the same of a list of two, a text first -/
def flatN (x : V) : Prop := flatA x = true ∧ SeqAt.shaped (.list [.str "number", datF x]) = true
theorem dp_num1 {H : Hp} {a : Addr} {x : V} (h : flatA x = true) (hs : SqL K H a [.str "number", x]) : Dp K H (.ref a) (.list [.str "number", datF x]) := .lst hs (.cons (.str _) (.cons (dp_flat h) .nil))
theorem eqv_num1 (x : V) : PyData.eqv (.list [.str "number", datF x]) (.list [.str "number", datF x]) = true := by
  show (PyData.eqv (.str "number") (.str "number") && (PyData.eqv (datF x) (datF x) && true)) = true
  rw [eqv_datF, Bool.and_true, Bool.and_true]
  simp [PyData.eqv]

/-! ### the law's labels -/
theorem But.putN {r p : Addr} {H H1 : Hp} {o : HO} (b : But r H H1) (hp : H p = none) : But r H (upd H1 p o) := fun c o' e n => by
  rw [upd_ne (ne_of_none e hp)]
  exact b c o' e n
def spLawLabels (K : PySem.W.Frag) : Sp := fun vs H Q _ => ∃ (r a : Addr) (ns : List Int) (most : Int), vs = [.ref r, .int most] ∧ 1 ≤ most ∧ most ≤ 20 ∧ RowAt K H r a ns ∧ ∀ (c : Addr) (ls : List Int) (H' : Hp), RowAt K H' r a ns → But r H H' → H' c = some (.tup (ls.map V.int)) → 1 ≤ ls.length → (ls.length : Int) ≤ most → (∀ l ∈ ls, 0 ≤ l ∧ l ≤ 19) → Q (.ref c) H'
theorem ok__law_labels (T : Tx P K mg) : FnOk P w K mg base CX0 lv__law_labels T.a__law_labels T.d__law_labels ["_law_row", "_law_most"] (spLawLabels K) := by
  refine T.F__law_labels.ok sc__law_labels (fun vs H Q E h => ?_) (fun cdv A outer s H vs Q E hr h => ?_)
  · obtain ⟨r, a, ns, most, rfl, _⟩ := h
    rfl
  · obtain ⟨r, a, ns, most, rfl, m1, m2, R0, k⟩ := h
    refine ⟨_, (Evl.pss_cut (ps_asg (pe_tup (pa_cons (pe_op op_add pe_int (pe_call (ok__law_taken T) (hr.mono (by decide)) rfl T.g__law_taken T.F__law_taken.kp T.b__law_taken .nil pass0 (pa_cons (pv 0) (pa_cons (pv 1) pa_nil)))) (pa_cons (pe_call (ok__law_taken T) (hr.mono (by decide)) rfl T.g__law_taken T.F__law_taken.kp T.b__law_taken .nil pass0 (pa_cons (pv 0) (pa_cons pe_int pa_nil))) pa_nil))) (pg_tup rfl (pgs_cons (pg_name (i := 2) sc__law_labels.nd rfl (Or.inl rfl)) (pgs_cons (pg_name (i := 3) sc__law_labels.nd rfl (Or.inr rfl)) pgs_nil))))
      (Evl.pss_cut (ps_if (pt_cmpR op_eq (pv 3) pe_int (nomark _)) (pss_one (ps_ret (pe_op op_catA (pe_tup (pa_cons pe_int pa_nil)) (pe_op op_repA (pe_tup (pa_cons pe_int pa_nil)) (pe_op op_sub (pv 2) pe_int))))) pss_nil)
      (pss_one (ps_ret (pe_callTy call_tuple_of (by rfl) T.n_tuple (by decide +kernel) (pa_cons (pe_lc (own := [("_law_rest", 4)]) (g := gName 4) (tt := tYes) rfl sc__law_labels.nd (pi_range1 (by rfl) T.n_range (pa_cons (pv 2) pa_nil)) (blkOk_by (own := [("_law_rest", 4)]) (N := ["_law_row", "_law_most", "_law_d", "_law_kind", "_law_rest"]) (sc := defScope s__law_labels) (by decide +kernel)) (fun _ _ _ _ _ => pg_name (i := 4) sc__law_labels.nd rfl (Or.inl rfl)) (fun _ _ _ _ _ => pts_nil) (fun _ _ _ _ _ => (pe_call (ok__law_taken T) (hr.mono (by decide)) rfl T.g__law_taken T.F__law_taken.kp T.b__law_taken .nil pass0 (pa_cons (pv 0) (pa_cons (pe_ix (ix_lK (K := K) rfl) (pe_lst (pa_cons pe_int (pa_cons pe_int (pa_cons pe_int pa_nil)))) (pe_op op_sub (pv 3) pe_int) (fun _ _ => rfl)) pa_nil))))) pa_nil)))))), ?_⟩
    refine ⟨fun σ H1 => ∃ d kd : Int, 1 ≤ d ∧ d ≤ most ∧ 0 ≤ kd ∧ kd ≤ 3 ∧ RowAt K H1 r a ns ∧ But r H H1 ∧ σ = [some (.ref r), some (.int most), some (.int d), some (.int kd), none], ?_, ?_⟩
    · refine ⟨_, rfl, _, rfl, r, a, ns, _, rfl, by omega, by omega, R0, fun v H3 v0 v1 R3 B3 => ⟨_, _, rfl, rfl, _, rfl, r, a, ns, _, rfl, by decide, by decide, R3, fun u H4 u0 u1 R4 B4 => ?_⟩⟩
      refine ⟨by show 2 ≤ sizeLine; decide, fun t ht => ⟨t, _, rfl, SqT.of upd_same, rfl, _, _, rfl, _, _, rfl, rfl, 1 + v, u, by omega, by omega, by omega, by omega, R4.new ht, (B3.trans B4).new ht, rfl⟩⟩
    clear R0
    rintro σ H1 ⟨d, kd, d1, d2, k0, k3, R1, B1, rfl⟩
    refine ⟨fun σ H2 => 1 ≤ kd ∧ H2 = H1 ∧ σ = [some (.ref r), some (.int most), some (.int d), some (.int kd), none], ⟨_, rfl, rfl, _, rfl, ?_⟩, ?_⟩
    · refine ite2 (fun g => ?_) (fun g => ⟨?_, rfl, rfl⟩)
      · have fin : ∀ (c : Addr) (H2 : Hp), Same H1 H2 → H2 c = some (.tup ((0 :: List.replicate (d - 1).toNat 1).map V.int)) → Q (.ref c) H2 := fun c H2 S2 hc => by
          refine k c (0 :: List.replicate (d - 1).toNat 1) H2 (R1.same S2) (B1.trans (Same.but S2)) hc (by simp) (by rw [List.length_cons, List.length_replicate]; omega) fun l hl => ?_
          rcases List.mem_cons.mp hl with e | e
          · rw [e]; exact ⟨by decide, by decide⟩
          · rw [List.eq_of_mem_replicate e]; exact ⟨by decide, by decide⟩
        have rep : ∀ n : Nat, (List.replicate n [V.int 1]).flatten = (List.replicate n 1).map V.int := fun n => by
          induction n with
          | zero => rfl
          | succ n ih => rw [List.replicate_succ, List.flatten_cons, ih, List.replicate_succ]; rfl
        refine ⟨by show 1 ≤ sizeLine; decide, fun t ht => ⟨by show 1 ≤ sizeLine; decide, fun u hu => ⟨_, rfl, _, _, rfl, rfl, u, d - 1, [.int 1], rfl, rfl, SqT.of upd_same, (fun z => nomatch z), by omega, by omega, by decide, fun e1 => ?_, fun e1 p hp => ?_⟩⟩⟩
        · refine ⟨t, u, [.int 0], [.int 1], rfl, rfl, SqT.of (same_upd hu _ _ upd_same), SqT.of upd_same, by show 2 ≤ sizeLine; decide, (fun z => nomatch z), (fun _ z => nomatch z), fun _ _ p hp => ?_⟩
          refine fin p _ ((same_upd ht).trans ((same_upd hu).trans (same_upd hp))) ?_
          rw [upd_same, e1]
          rfl
        · refine ⟨t, p, [.int 0], (List.replicate (d - 1).toNat [V.int 1]).flatten, rfl, rfl, SqT.of (same_upd hp _ _ (same_upd hu _ _ upd_same)), SqT.of upd_same, ?_, (fun z => nomatch z), fun _ z => ?_, fun _ _ c hc => ?_⟩
          · rw [rep, List.length_map, List.length_replicate]
            show 1 + _ ≤ sizeLine
            unfold sizeLine
            omega
          · refine fin t _ ((same_upd ht).trans ((same_upd hu).trans (same_upd hp))) (same_upd hp _ _ (same_upd hu _ _ ?_))
            rw [upd_same]
            rw [rep] at z
            rw [List.map_cons, z]
          · refine fin c _ (((same_upd ht).trans ((same_upd hu).trans (same_upd hp))).trans (same_upd hc)) ?_
            rw [upd_same, rep]
            rfl
      · have g2 : ¬ kd = 0 := by simpa using g
        omega
    · rintro σ H2 ⟨kd1, rfl, rfl⟩
      have hz : ∃ z : Int, atI [V.int 2, V.int 3, V.int 20] (kd - 1) = some (.int z) ∧ 1 ≤ z ∧ z ≤ 20 := by
        obtain rfl | rfl | rfl : kd = 1 ∨ kd = 2 ∨ kd = 3 := by omega
        · exact ⟨2, rfl, by decide, by decide⟩
        · exact ⟨3, rfl, by decide, by decide⟩
        · exact ⟨20, rfl, by decide, by decide⟩
      obtain ⟨z, hz, z1, z2⟩ := hz
      refine ⟨_, rfl, d, rfl, by omega, by omega, fun D hD => ?_⟩
      have nDr := R1.ne hD
      have hD0 : H D = none := B1.free nDr hD
      refine lc_range (lo := 0) (n := d.toNat) (fun i H4 => RowAt K H4 r a ns ∧ But r H H4 ∧ ∃ ls : List Int, ls.length = i ∧ (∀ l ∈ ls, 0 ≤ l ∧ l ≤ 19) ∧ H4 D = some (.lst (ls.map V.int))) ⟨R1.new hD, B1.new hD, [], rfl, fun _ z => (nomatch z), upd_same⟩ ?_ ?_
      · rintro i H4 hi ⟨R4, B4, ls, hls, wl, hL⟩
        refine ⟨rfl, _, rfl, by show 3 ≤ sizeLine; decide, fun p hp => ⟨_, rfl, _, _, rfl, rfl, p, _, _, .int z, rfl, rfl, SqL.of upd_same, hz, r, a, ns, z, rfl, by omega, by omega, R4.new hp, fun u H5 u0 u1 R5 B5 => ?_⟩⟩
        have hL5 := B5 _ _ (same_upd hp _ _ hL) nDr
        refine ⟨_, hL5, by rw [List.length_map]; exact small1000 (by omega), R5.put hL5 nDr, ((B4.new hp).trans B5).putN hD0, ls ++ [u], by simp; omega, fun l hl => ?_, by rw [upd_same, List.map_append]; rfl⟩
        rcases List.mem_append.mp hl with e | e
        · exact wl l e
        · rw [List.mem_singleton.mp e]
          omega
      · rintro H4 ⟨R4, B4, ls, hls, wl, hL⟩
        exact ⟨D, _, rfl, .inl ⟨SqL.of hL, fun c hc => k c ls _ (R4.new hc) (B4.new hc) upd_same (by omega) (by omega) wl⟩⟩

/-! ### there is a last round -/
theorem fix_some {S : List (List Int)} {told : List Int} (tl : told.length = S.length) : ∃ F, FixP S told F := by
  refine Classical.byContradiction fun c => ?_
  have ne : ∀ t, partS S told (t + 1) ≠ partS S told t := fun t e => c ⟨_, t, e, rfl⟩
  have key : ∀ t, t ≤ (dist (partS S told t)).length := fun t => by
    induction t with
    | zero => exact Nat.zero_le _
    | succ t ih =>
      have := part_grows tl (ne t)
      omega
  have h1 := key (S.length + 1)
  have h2 := dist_le (partS S told (S.length + 1))
  have h3 := part_len tl (S.length + 1)
  omega

/-! ### helps of the laws of machines -/
def nI (l : List Nat) : List Int := l.map fun k : Nat => (k : Int)
theorem StepsAt.but {H H2 : Hp} {r a y : Addr} {ns : List Int} {S : List (List Int)} (h : StepsAt H y S) (R : RowAt K H r a ns) (ne : ∀ row ∈ S, row ≠ []) (B : But r H H2) : StepsAt H2 y S := by
  obtain ⟨rs, h1, h2, h3⟩ := h
  obtain ⟨i1, i2, i3, hr, _⟩ := R
  refine ⟨rs, B _ _ h1 fun e => ?_, h2, fun i row hi => ?_⟩
  · rw [e, hr] at h1
    rcases rs with _ | ⟨x, _ | ⟨z, zs⟩⟩
    · injection h1 with h1; injection h1 with h1; cases h1
    · injection h1 with h1; injection h1 with h1; cases h1
    · injection h1 with h1
      injection h1 with h1
      injection h1 with _ h1
      injection h1 with h1 _
      cases h1
  · obtain ⟨q, q1, q2⟩ := h3 i row hi
    refine ⟨q, q1, B _ _ q2 fun e => ?_⟩
    rw [e, hr] at q2
    cases row with
    | nil => exact ne _ (List.mem_of_getElem? hi) rfl
    | cons x xs =>
      injection q2 with q2
      injection q2 with q2
      injection q2 with q2 _
      cases q2
theorem RowAt.neT {H : Hp} {r a c : Addr} {ns : List Int} {ys : List V} (h : RowAt K H r a ns) (hc : H c = some (.tup ys)) : c ≠ r := fun e => by
  obtain ⟨_, _, _, h1, _⟩ := h
  rw [e, h1] at hc
  cases hc
theorem RowAt.neD {H : Hp} {r a c : Addr} {ns : List Int} {ys : List (List Key × V)} (h : RowAt K H r a ns) (hc : H c = some (.dT ys)) : c ≠ r := fun e => by
  obtain ⟨_, _, _, h1, _⟩ := h
  rw [e, h1] at hc
  cases hc
theorem word_least {b i j : Nat} {U : List Int → Bool} {told : List Int} {S : List (List Int)} {v : V} {H : Hp} (W : WordIs b U v H) (e : ∀ fs, FgW b fs → (U fs = true ↔ UnW told S i j fs)) :
    ∃ o, LeastW told S b i j o ∧ (o = none → v = .non) ∧ ∀ w, o = some w → ∃ u : Addr, v = .ref u ∧ H u = some (.tup (w.map V.int)) := by
  rcases W with ⟨hv, h0⟩ | ⟨u, w, e1, e2, e3, _, e5, e6⟩
  · exact ⟨none, fun fs hf q => absurd (h0 fs hf) (by rw [(e fs hf).mpr q]; exact Bool.noConfusion), fun _ => hv, fun _ q => (by cases q)⟩
  · exact ⟨some w, ⟨e3, (e w e3).mp e5, fun fs hf q => e6 fs hf ((e fs hf).mpr q)⟩, fun q => (by cases q), fun w' q => (by cases q; exact ⟨u, e1, e2⟩)⟩
theorem least_eq {told : List Int} {S : List (List Int)} {b i j : Nat} {o : Option (List Int)} {v v2 : V} {H : Hp} (h0 : o = none → v = .non) (h1 : ∀ w, o = some w → ∃ u : Addr, v = .ref u ∧ H u = some (.tup (w.map V.int))) (k0 : o = none → v2 = .non) (k1 : ∀ w, o = some w → ∃ u : Addr, v2 = .ref u ∧ H u = some (.tup (w.map V.int))) {Q : VK} (q : Q (.bl false) H) : rNeD K v v2 H Q := by
  cases o with
  | none =>
    rw [h0 rfl, k0 rfl]
    exact ⟨.none, .none, .non, .non, by decide, by decide, q⟩
  | some w =>
    obtain ⟨u, rfl, hu⟩ := h1 w rfl
    obtain ⟨u2, rfl, hu2⟩ := k1 w rfl
    refine ⟨_, _, dp_tints (SqT.of hu), dp_tints (SqT.of hu2), shaped_tints _, shaped_tints _, ?_⟩
    rw [eqv_tints, decide_eq_true rfl]
    exact q
structure FigsAt (H : Hp) (b : Nat) (u : Addr) (fs : List Int) : Prop where
  tup : H u = some (.tup (fs.map V.int))
  fig : ∀ f ∈ fs, 0 ≤ f ∧ f < (b : Int)
theorem FigsAt.but {r : Addr} {H H2 : Hp} {b : Nat} {u : Addr} {fs : List Int} {ys : List V} (h : FigsAt H b u fs) (hr : H r = some (.lst ys)) (B : But r H H2) : FigsAt H2 b u fs :=
  ⟨B _ _ h.tup (ne_of h.tup hr (by intro z; cases z)), h.fig⟩
theorem FigsAt.same {H H2 : Hp} {b : Nat} {u : Addr} {fs : List Int} (h : FigsAt H b u fs) (S : Same H H2) : FigsAt H2 b u fs := ⟨S _ _ h.tup, h.fig⟩

/-! ### the fewest states from behind; where the law's word leads -/
def spBackSt (K : PySem.W.Frag) : Sp := fun vs H Q _ => ∃ (b : Nat) (c : Addr) (ls : List Int), vs = [.int (b : Nat), .ref c] ∧ H c = some (.tup (ls.map V.int)) ∧ (∀ l ∈ ls, 0 ≤ l ∧ l ≤ 19) ∧ 1 ≤ ls.length ∧ ls.length ≤ 20 ∧ 2 ≤ b ∧ b ≤ 16 ∧
  ∀ (R : List Pr) (S : List (List Int)) (F : List Int) (H' : Hp), BRun (b : Int) ls.length R S → S.length = R.length → FixP S (backTold ls R) F → Same H H' → Q (.int ((dist F).length : Nat)) H'
theorem ok_back_states (T : Tx P K mg) : FnOk P w K mg base (L2.CX P w) lv_back_states T.a_back_states T.d_back_states ["base", "labels"] (spBackSt K) := by
  refine T.F_back_states.okX sc_back_states (fun vs H Q E h => ?_) (fun cdv A outer s H vs Q E hr h => ?_)
  · obtain ⟨b, c, ls, rfl, _⟩ := h
    rfl
  · obtain ⟨b, c, ls, rfl, hc, wl, l1, l2, b1, b2, k⟩ := h
    have gl := lab_ok hc l1 l2 wl
    refine ⟨_, (pss_cons (ps_expr (pe_call (ok_check_base T) (hr.mono (by decide)) rfl T.g_check_base T.F_check_base.kp T.b_check_base .nil (passes_call (takes_of rfl rfl rfl rfl) fun _ _ _ _ h => h) (pa_cons (pv 0) pa_nil)))
      (pss_cons (ps_expr (pe_call (ok_check_labels T) (hr.mono (by decide)) rfl T.g_check_labels T.F_check_labels.kp T.b_check_labels .nil (passes_call (takes_of rfl rfl rfl rfl) fun _ _ _ _ h => h) (pa_cons (pv 1) pa_nil)))
      (pss_one (ps_ret (pe_op op_add (pe_callB (cr_max rfl) (by rfl) T.n_max (by decide +kernel) (pa_cons (pe_call (ok_classes T) (hr.mono (by decide)) rfl T.g_classes T.F_classes.kp T.b_classes .nil pass0 (pa_cons (pe_call (ok_back_machine T) (hr.mono (by decide)) rfl T.g_back_machine T.F_back_machine.kp T.b_back_machine .nil pass0 (pa_cons (pv 0) (pa_cons (pv 1) pa_nil))) pa_nil)) pa_nil)) pe_int))))), ?_⟩
    refine ⟨_, rfl, .int (b : Nat), rfl, .int _, fun _ => ?_, fun z => Bool.noConfusion ((intIn_of (show (2 : Int) ≤ (b : Nat) by omega) (show ((b : Nat) : Int) ≤ 16 by omega)).symm.trans z)⟩
    refine ⟨_, rfl, .ref c, rfl, .tup hc, ItemsAny.ints hc, fun _ H2 S2 => ?_, fun v hv => by rw [gl] at hv; cases hv⟩
    refine ⟨_, rfl, _, rfl, (b : Nat), c, ls, rfl, S2 _ _ hc, by omega, by omega, l1, l2, fun q H3 R S run eq S3 mach => ?_⟩
    have good := run.good eq
    have rl := (run.rests (by omega)).le (by omega)
    have bt : (backTold ls R).length = S.length := by unfold backTold; rw [List.length_map, eq]
    refine ⟨q, _, _, rfl, mach, good_rows b2 good, bt, by omega, fun t D H4 fx S4 hD => ?_⟩
    have fxp : FixP S (backTold ls R) (partS S (backTold ls R) t) := ⟨t, fx, rfl⟩
    have fl := fxp.len bt
    have gp := good.pos
    refine ⟨D, _, rfl, SqL.of hD, by omega, fun m hm hM => ⟨_, _, rfl, rfl, ?_⟩⟩
    show Q (.int (m + 1)) H4
    rw [nums_max fxp.twice hm hM]
    exact k R S _ H4 run eq fxp (S2.trans (S3.trans S4))
def spReadL (K : PySem.W.Frag) : Sp := fun vs H Q _ => ∃ (y c : Addr) (S : List (List Int)) (b : Int) (fs : List Int), vs = [.ref y, .ref c] ∧ StepsAt H y S ∧ GoodS b S ∧ H c = some (.tup (fs.map V.int)) ∧ (∀ f ∈ fs, 0 ≤ f ∧ f < b) ∧ Q (.int (runS S 0 fs : Nat)) H
theorem ok__law_read (T : Tx P K mg) : FnOk P w K mg base CX0 lv__law_read T.a__law_read T.d__law_read ["_law_nexts", "_law_word"] (spReadL K) := by
  refine T.F__law_read.ok sc__law_read (fun vs H Q E h => ?_) (fun cdv A outer s H vs Q E hr h => ?_)
  · obtain ⟨y, c, S, b, fs, rfl, _⟩ := h
    rfl
  · obtain ⟨y, c, S, b, fs, rfl, ⟨rs, m3, _, m4⟩, g, hc, hf, k⟩ := h
    refine ⟨_, (pss_cons (ps_set (i := 2) sc__law_read.nd rfl (Or.inl rfl) pe_int)
      (pss_cons (ps_for PassesOwn.never rfl (pi_tup (pv 1)) (pg_name (i := 3) sc__law_read.nd rfl (Or.inl rfl)) (pss_one (ps_set (i := 2) sc__law_read.nd rfl (Or.inl rfl) (pe_ix ix_list (pe_ix ix_list (pv 0) (pv 2) (fun _ _ => rfl)) (pv 3) (fun _ _ => rfl)))))
      (pss_one (ps_ret (pv 2))))), ?_⟩
    refine ⟨_, rfl, c, rfl, ⟨_, SqT.of hc⟩, ?_⟩
    refine for_tup (xs := fs.map V.int) (fun i σ H2 => H2 = H ∧ ∃ v4 : Option V, σ = [some (.ref y), some (.ref c), some (.int (runS S 0 (fs.take i) : Nat)), v4]) ⟨rfl, none, rfl⟩ (fun i σ H2 _ ⟨e, _⟩ => by rw [e]; exact SqT.of hc) ?_ ?_
    · rintro i x2 σ H2 hx ⟨rfl, v4, rfl⟩
      rw [List.getElem?_map] at hx
      obtain ⟨f, hf2, rfl⟩ := Option.map_eq_some_iff.mp hx
      have ff := hf f (List.mem_of_getElem? hf2)
      have hs := runS_lt g g.pos (fs := fs.take i) fun z hz => hf z (List.mem_of_mem_take hz)
      obtain ⟨row, w1, w2, w3⟩ := g.go hs ff.1 ff.2
      obtain ⟨r, u1, u2⟩ := m4 _ _ w1
      have hv : atI (row.map V.int) f = some (.int (goS S (runS S 0 (fs.take i)) f : Nat)) := by
        have := atI_nat (xs := row.map V.int) (j := f.toNat) (v := .int (goS S (runS S 0 (fs.take i)) f : Nat)) (by rw [List.getElem?_map, w2]; rfl)
        rw [Int.toNat_of_nonneg ff.1] at this
        exact this
      refine ⟨_, rfl, _, rfl, y, _, _, .ref r, rfl, rfl, SqL.of m3, atI_nat u1, _, rfl, r, _, _, _, rfl, rfl, SqL.of u2, hv, rfl, some (.int f), ?_⟩
      rw [List.take_add_one, hf2]
      show _ = [_, _, some (V.int (runS S 0 (fs.take i ++ [f]) : Nat)), _]
      rw [runS_snoc]
      rfl
    · rintro σ H2 ⟨rfl, v4, rfl⟩
      rw [List.length_map, List.take_length]
      exact ⟨_, rfl, k⟩

/-! ### the law -/
theorem nat_least {p : Nat → Prop} : ∀ n, p n → ∃ m, p m ∧ ∀ q, p q → m ≤ q := by
  intro n
  induction n using Nat.strongRecOn with
  | ind n ih =>
    intro h
    by_cases c : ∃ m, m < n ∧ p m
    · obtain ⟨m, h1, h2⟩ := c
      exact ih m h1 h2
    · exact ⟨n, h, fun q hq => Nat.le_of_not_lt fun z => c ⟨q, z, hq⟩⟩
theorem least_some {told : List Int} {S : List (List Int)} {b i j : Nat} : ∃ o, LeastW told S b i j o := by
  by_cases c : ∃ fs, FgW b fs ∧ UnW told S i j fs
  · obtain ⟨fs, h1, h2⟩ := c
    obtain ⟨m, ⟨w, w1, w2, rfl⟩, hm⟩ := nat_least (p := fun n => ∃ fs, FgW b fs ∧ UnW told S i j fs ∧ nxN b fs = n) _ ⟨fs, h1, h2, rfl⟩
    exact ⟨some w, w1, w2, fun fs f1 f2 => hm _ ⟨fs, f1, f2, rfl⟩⟩
  · exact ⟨none, fun fs f1 f2 => c ⟨fs, f1, f2⟩⟩
def sp_law (K : PySem.W.Frag) : Sp := fun vs H Q _ => ∃ (a : Addr) (ns : List Int), vs = [.ref a] ∧ Scr K H a (ns.map V.int) ∧ ns.length ≤ 63 ∧ ∀ H', Q (.bl true) H'
theorem ok_law (T : Tx P K mg) : FnOk P w K mg base CX0 lv_law T.a_law T.d_law ["_law_script"] (sp_law K) := by
  refine T.F_law.ok sc_law (fun vs H Q E h => ?_) (fun cdv A outer s H vs Q E hr h => ?_)
  · obtain ⟨a, ns, rfl, _⟩ := h
    rfl
  · obtain ⟨a, ns, rfl, hS, hlen, kk⟩ := h
    refine ⟨_, (Evl.pss_cut (ps_set (i := 1) sc_law.nd rfl (Or.inr rfl) (pe_lst (pa_cons (pv 0) (pa_cons pe_int (pa_cons pe_int (pa_cons pe_int pa_nil))))))
      (Evl.pss_cut (ps_asg (pe_tup (pa_cons (pe_op op_add pe_int (pe_call (ok__law_taken T) (hr.mono (by decide)) rfl T.g__law_taken T.F__law_taken.kp T.b__law_taken .nil pass0 (pa_cons (pv 1) (pa_cons (pe_ix ix_list (pe_lst (pa_cons pe_int (pa_cons pe_int pa_nil))) (pe_call (ok__law_taken T) (hr.mono (by decide)) rfl T.g__law_taken T.F__law_taken.kp T.b__law_taken .nil pass0 (pa_cons (pv 1) (pa_cons pe_int pa_nil))) (fun _ _ => rfl)) pa_nil)))) (pa_cons (pe_call (ok__law_labels T) (hr.mono (by decide)) rfl T.g__law_labels T.F__law_labels.kp T.b__law_labels .nil pass0 (pa_cons (pv 1) (pa_cons pe_int pa_nil))) pa_nil))) (pg_tup rfl (pgs_cons (pg_name (i := 2) sc_law.nd rfl (Or.inr rfl)) (pgs_cons (pg_name (i := 3) sc_law.nd rfl (Or.inr rfl)) pgs_nil))))
      (Evl.pss_cut (ps_asg (pe_call (ok__law_back T) (hr.mono (by decide)) rfl T.g__law_back T.F__law_back.kp T.b__law_back .nil pass0 (pa_cons (pv 2) (pa_cons (pe_callB call_len_seq (by rfl) T.n_len (by decide +kernel) (pa_cons (pv 3) pa_nil)) pa_nil))) (pg_unl rfl (pgs_cons (pg_name (i := 4) sc_law.nd rfl (Or.inl rfl)) (pgs_cons (pg_name (i := 5) sc_law.nd rfl (Or.inl rfl)) pgs_nil))))
      (Evl.pss_cut (ps_setLc (i := 6) (own := [("_law_rest", 14), ("_law_unit", 15)]) (tt := tYes) (g := gTup K 2 (gCons (gName 14) (gCons (gName 15) gNil))) rfl sc_law.nd rfl rfl (sw_true rfl rfl rfl (by decide +kernel)) (pi_list (pv 4)) (blkOk_by (own := [("_law_rest", 14), ("_law_unit", 15)]) (N := ["_law_script", "_law_line", "_law_base", "_law_labels_here", "_law_states", "_law_nexts", "_law_told", "_law_marks_here", "_law_heads", "_law_state", "_law_turn", "_law_one", "_law_other", "_law_due", "_law_rest", "_law_unit", "_law_head", "_law_k"]) (sc := defScope s_law) (by decide +kernel)) (fun _ _ _ _ _ => pg_tup rfl (pgs_cons (pg_name (i := 14) sc_law.nd rfl (Or.inl rfl)) (pgs_cons (pg_name (i := 15) sc_law.nd rfl (Or.inl rfl)) pgs_nil))) (fun _ _ _ _ _ => pts_nil) (fun _ _ _ _ _ => (pe_ix (ix_tK (K := K) rfl) (pv 3) (pv 14) (fun _ _ => rfl))))
      (Evl.pss_cut (ps_asg (pe_tup (pa_cons (pe_call (ok__law_marks T) (hr.mono (by decide)) rfl T.g__law_marks T.F__law_marks.kp T.b__law_marks .nil pass0 (pa_cons (pv 6) (pa_cons (pv 5) pa_nil))) (pa_cons (pe_lst pa_nil) pa_nil))) (pg_tup rfl (pgs_cons (pg_name (i := 7) sc_law.nd rfl (Or.inr rfl)) (pgs_cons (pg_name (i := 8) sc_law.nd rfl (Or.inl rfl)) pgs_nil))))
      (Evl.pss_cut (ps_for PassesOwn.never rfl (pi_range1 (by rfl) T.n_range (pa_cons (pe_callB call_len_seq (by rfl) T.n_len (by decide +kernel) (pa_cons (pv 4) pa_nil)) pa_nil)) (pg_name (i := 9) sc_law.nd rfl (Or.inr rfl)) (pss_one (ps_if (pt_val (pe_callB (cr_all rfl) (by rfl) T.n_all (by decide +kernel) (pa_cons (pe_lc (own := [("_law_head", 16)]) (g := gName 16) (tt := tYes) rfl sc_law.nd (pi_list (pv 8)) (blkOk_by (own := [("_law_head", 16)]) (N := ["_law_script", "_law_line", "_law_base", "_law_labels_here", "_law_states", "_law_nexts", "_law_told", "_law_marks_here", "_law_heads", "_law_state", "_law_turn", "_law_one", "_law_other", "_law_due", "_law_rest", "_law_unit", "_law_head", "_law_k"]) (sc := defScope s_law) (by decide +kernel)) (fun _ _ _ _ _ => pg_name (i := 16) sc_law.nd rfl (Or.inl rfl)) (fun _ _ _ _ _ => pts_nil) (fun _ _ _ _ _ => (pe_cmp (pc_din (hu_of hr) (pe_tup (pa_cons (pv 16) (pa_cons (pv 9) pa_nil))) (pv 7))))) pa_nil))) (pss_one (ps_expr (pe_bm PySem.F.plainAttrs_list PySem.F.slot_list_append PySem.F.type_list_append mt_append (pv 8) (pa_cons (pv 9) pa_nil)))) pss_nil)))
      (Evl.pss_cut (ps_if (pt_cmpR op_ne (pe_call (ok_back_states T) (hr.mono (by decide)) rfl T.g_back_states T.F_back_states.kp T.b_back_states .nil passL (pa_cons (pv 2) (pa_cons (pv 3) pa_nil))) (pe_callB call_len_seq (by rfl) T.n_len (by decide +kernel) (pa_cons (pv 8) pa_nil)) (nomark _)) (pss_one (ps_ret pe_bl)) pss_nil)
      (Evl.pss_cut (ps_for PassesOwn.never rfl (pi_range1 (by rfl) T.n_range (pa_cons pe_int pa_nil)) (pg_name (i := 10) sc_law.nd rfl (Or.inl rfl)) (Evl.pss_cut (ps_set (i := 11) sc_law.nd rfl (Or.inl rfl) (pe_callTy call_tuple_of (by rfl) T.n_tuple (by decide +kernel) (pa_cons (pe_lc (own := [("_law_k", 17)]) (g := gName 17) (tt := tYes) rfl sc_law.nd (pi_range1 (by rfl) T.n_range (pa_cons (pe_call (ok__law_taken T) (hr.mono (by decide)) rfl T.g__law_taken T.F__law_taken.kp T.b__law_taken .nil pass0 (pa_cons (pv 1) (pa_cons pe_int pa_nil))) pa_nil)) (blkOk_by (own := [("_law_k", 17)]) (N := ["_law_script", "_law_line", "_law_base", "_law_labels_here", "_law_states", "_law_nexts", "_law_told", "_law_marks_here", "_law_heads", "_law_state", "_law_turn", "_law_one", "_law_other", "_law_due", "_law_rest", "_law_unit", "_law_head", "_law_k"]) (sc := defScope s_law) (by decide +kernel)) (fun _ _ _ _ _ => pg_name (i := 17) sc_law.nd rfl (Or.inl rfl)) (fun _ _ _ _ _ => pts_nil) (fun _ _ _ _ _ => (pe_call (ok__law_taken T) (hr.mono (by decide)) rfl T.g__law_taken T.F__law_taken.kp T.b__law_taken .nil pass0 (pa_cons (pv 1) (pa_cons (pv 2) pa_nil))))) pa_nil)))
      (Evl.pss_cut (ps_set (i := 12) sc_law.nd rfl (Or.inl rfl) (pe_callTy call_tuple_of (by rfl) T.n_tuple (by decide +kernel) (pa_cons (pe_lc (own := [("_law_k", 17)]) (g := gName 17) (tt := tYes) rfl sc_law.nd (pi_range1 (by rfl) T.n_range (pa_cons (pe_call (ok__law_taken T) (hr.mono (by decide)) rfl T.g__law_taken T.F__law_taken.kp T.b__law_taken .nil pass0 (pa_cons (pv 1) (pa_cons (pe_ix ix_list (pe_lst (pa_cons pe_int (pa_cons pe_int pa_nil))) (pe_call (ok__law_taken T) (hr.mono (by decide)) rfl T.g__law_taken T.F__law_taken.kp T.b__law_taken .nil pass0 (pa_cons (pv 1) (pa_cons pe_int pa_nil))) (fun _ _ => rfl)) pa_nil))) pa_nil)) (blkOk_by (own := [("_law_k", 17)]) (N := ["_law_script", "_law_line", "_law_base", "_law_labels_here", "_law_states", "_law_nexts", "_law_told", "_law_marks_here", "_law_heads", "_law_state", "_law_turn", "_law_one", "_law_other", "_law_due", "_law_rest", "_law_unit", "_law_head", "_law_k"]) (sc := defScope s_law) (by decide +kernel)) (fun _ _ _ _ _ => pg_name (i := 17) sc_law.nd rfl (Or.inl rfl)) (fun _ _ _ _ _ => pts_nil) (fun _ _ _ _ _ => (pe_call (ok__law_taken T) (hr.mono (by decide)) rfl T.g__law_taken T.F__law_taken.kp T.b__law_taken .nil pass0 (pa_cons (pv 1) (pa_cons (pv 2) pa_nil))))) pa_nil)))
      (Evl.pss_cut (ps_set (i := 13) sc_law.nd rfl (Or.inl rfl) (pe_call (ok__law_least_word T) (hr.mono (by decide)) rfl T.g__law_least_word T.F__law_least_word.kp T.b__law_least_word .nil pass0 (pa_cons (pv 5) (pa_cons (pv 7) (pa_cons (pe_call (ok__law_read T) (hr.mono (by decide)) rfl T.g__law_read T.F__law_read.kp T.b__law_read .nil pass0 (pa_cons (pv 5) (pa_cons (pv 11) pa_nil))) (pa_cons (pe_call (ok__law_read T) (hr.mono (by decide)) rfl T.g__law_read T.F__law_read.kp T.b__law_read .nil pass0 (pa_cons (pv 5) (pa_cons (pv 12) pa_nil))) pa_nil))))))
      (pss_one (ps_if (pt_cmpR (op_neD hr.units) (pe_call (ok_back_word T) (hr.mono (by decide)) rfl T.g_back_word T.F_back_word.kp T.b_back_word .nil passL (pa_cons (pv 2) (pa_cons (pv 3) (pa_cons (pv 11) (pa_cons (pv 12) pa_nil))))) (pv 13) (nomark _)) (pss_one (ps_ret pe_bl)) pss_nil))))))
      (pss_one (ps_ret pe_bl)))))))))), ?_⟩
    refine ⟨fun σ H1 => ∃ r, RowAt K H1 r a ns ∧ σ = [some (.ref a), some (.ref r), none, none, none, none, none, none, none, none, none, none, none, none, none, none, none, none], ?_, ?_⟩
    · exact ⟨_, rfl, by show 4 ≤ sizeLine; decide, fun r hr0 => ⟨r, RowAt.start hr0 hS hlen (by decide) (by decide), rfl⟩⟩
    clear hS
    rintro σ H1 ⟨r, R1, rfl⟩
    refine ⟨fun σ H2 => ∃ (b : Nat) (c : Addr) (ls : List Int), 2 ≤ b ∧ b ≤ 16 ∧ H2 c = some (.tup (ls.map V.int)) ∧ 1 ≤ ls.length ∧ ls.length ≤ 6 ∧ (∀ l ∈ ls, 0 ≤ l ∧ l ≤ 19) ∧ RowAt K H2 r a ns ∧ σ = [some (.ref a), some (.ref r), some (.int (b : Nat)), some (.ref c), none, none, none, none, none, none, none, none, none, none, none, none, none, none], ?_, ?_⟩
    · refine ⟨_, rfl, by show 2 ≤ sizeLine; decide, fun p hp => ⟨_, rfl, menu (items := [3, 9]) (fun z => 1 ≤ z ∧ z ≤ 14) ?_ rfl R1 hp (fun z H6 hz R6 B6 _ => ?_) (by show (0 : Int) < 2; decide) (by show (2 : Int) ≤ 10 ^ 41; decide)⟩⟩
      · intro z hz
        simp only [List.mem_cons, List.not_mem_nil, or_false] at hz
        rcases hz with rfl | rfl <;> decide
      · refine ⟨r, a, ns, z, rfl, by omega, by omega, R6, fun v H3 v0 v1 R3 B3 => ⟨_, _, rfl, rfl, _, rfl, r, a, ns, _, rfl, by decide, by decide, R3, fun c ls H4 R4 B4 hc l1 l2 wl => ?_⟩⟩
        refine ⟨by show 2 ≤ sizeLine; decide, fun t ht => ⟨t, _, rfl, SqT.of upd_same, rfl, _, _, rfl, _, _, rfl, rfl, (2 + v).toNat, c, ls, by omega, by omega, same_upd ht _ _ hc, l1, by omega, wl, R4.new ht, ?_⟩⟩
        rw [Int.toNat_of_nonneg (by omega)]
        rfl
    clear R1
    rintro σ H2 ⟨b, c, ls, b2, b16, hc, l1, l2, wl, R2, rfl⟩
    -- the machine
    refine ⟨fun σ H3 => ∃ (x y : Addr) (us : List V) (R : List Pr) (M : List (List Int)), BRun (b : Int) ls.length R M ∧ M.length = R.length ∧ Same H2 H3 ∧ H3 x = some (.lst us) ∧ Prs H3 us R ∧ StepsAt H3 y M ∧ σ = [some (.ref a), some (.ref r), some (.int (b : Nat)), some (.ref c), some (.ref x), some (.ref y), none, none, none, none, none, none, none, none, none, none, none, none], ?_, ?_⟩
    · refine ⟨_, rfl, _, rfl, c, _, rfl, .inr (SqT.of hc), (b : Nat), ls.length, by rw [List.length_map]; rfl, by omega, by omega, l1, by omega, fun q x y us R M H' run eq S' hq hx hp hy => ?_⟩
      exact ⟨q, _, rfl, SqL.of hq, rfl, _, _, rfl, _, _, rfl, rfl, x, y, us, R, M, run, eq, S', hx, hp, hy, rfl⟩
    rintro σ H3 ⟨x, y, us, R, M, run, eq, S3, hx, hp, hy, rfl⟩
    replace hc := S3 _ _ hc
    replace R2 := R2.same S3
    clear S3
    have good := run.good eq
    have dm := (run.rests (show (1 : Int) ≤ (ls.length : Int) by omega))
    have Rl : R.length ≤ 36 := by
      have q := pigL (boxN ls.length) R dm.nodup fun q hq => mem_boxN (dm.dom q hq)
      unfold boxN at q
      rw [List.length_map, List.length_range] at q
      exact Nat.le_trans q (Nat.mul_le_mul l2 l2)
    have bt : (backTold ls R).length = M.length := by unfold backTold; rw [List.length_map, eq]
    refine ⟨fun σ H4 => ∃ (td : Addr) (x14 x15 : Option V), H4 td = some (.lst ((backTold ls R).map V.int)) ∧ Same H3 H4 ∧ σ = [some (.ref a), some (.ref r), some (.int (b : Nat)), some (.ref c), some (.ref x), some (.ref y), some (.ref td), none, none, none, none, none, none, none, x14, x15, none, none], ?_, ?_⟩
    · have lu := hp.len
      refine ⟨_, rfl, x, rfl, ⟨_, SqL.of hx⟩, fun td htd => ?_⟩
      refine lc_list (K := K) (a := x) (xs := us) (fun i H4 => Same H3 H4 ∧ H4 td = some (.lst ((backTold ls (R.take i)).map V.int))) ⟨same_upd htd, upd_same⟩ (fun i H4 _ ⟨S4, _⟩ => SqL.of (S4 _ _ hx)) ?_ ?_
      · rintro i v H4 hv ⟨S4, g4⟩
        have li : i < R.length := by rw [← lu]; exact (List.getElem?_eq_some_iff.mp hv).1
        obtain ⟨p, hpi⟩ : ∃ p, R[i]? = some p := ⟨_, List.getElem?_eq_getElem li⟩
        obtain ⟨q, hq1, hq2⟩ := hp.atP hpi
        rw [hv] at hq1
        cases hq1
        have pd := dm.dom p (List.mem_of_getElem? hpi)
        have hv2 : atI (ls.map V.int) p.1 = some (.int (ls.getD p.1.toNat 0)) := atI_int pd.1 pd.2.1
        refine ⟨q, _, rfl, SqT.of (S4 _ _ hq2), rfl, _, _, rfl, _, _, rfl, rfl, rfl, _, rfl, _, rfl, c, _, _, _, rfl, rfl, SqT.of (S4 _ _ hc), hv2, _, g4, ?_, fun e o g => ?_, ?_⟩
        · rw [List.length_map]
          unfold backTold
          rw [List.length_map, List.length_take]
          exact small1000 (by omega)
        · rw [upd_ne (ne_of_none g htd)]
          exact S4 _ _ g
        · rw [upd_same, List.take_add_one, hpi]
          unfold backTold
          rw [List.map_append, List.map_append]
          rfl
      · rintro H4 ⟨S4, g4⟩
        rw [lu, List.take_length] at g4
        exact ⟨td, _, _, g4, S4, rfl⟩
    rintro σ H4 ⟨td, x14, x15, htd, S4, rfl⟩
    replace hc := S4 _ _ hc
    replace R2 := R2.same S4
    replace hx := S4 _ _ hx
    replace hy := hy.same S4
    have hlu := hp.len
    clear S4 hp
    obtain ⟨F, fx⟩ := fix_some (S := M) (told := backTold ls R) bt
    have Fl := fx.len bt
    refine ⟨fun σ H5 => ∃ (z : Nat) (D h : Addr) (kvs : List (List Key × V)), z ≤ 1296 ∧ LastR (backTold ls R) M b z ∧ MD M.length kvs (mkL (backTold ls R) M b z) ∧ H4 h = none ∧ h ≠ r ∧ h ≠ D ∧ Same H4 H5 ∧ H5 D = some (.dT kvs) ∧ H5 h = some (.lst []) ∧ σ = [some (.ref a), some (.ref r), some (.int (b : Nat)), some (.ref c), some (.ref x), some (.ref y), some (.ref td), some (.ref D), some (.ref h), none, none, none, none, none, x14, x15, none, none], ?_, ?_⟩
    · refine ⟨_, rfl, _, rfl, td, y, backTold ls R, M, b, rfl, htd, hy, good, bt, by omega, b2, b16, fun z D kvs H5 z1 last md S5 hD => ⟨by show 0 ≤ sizeLine; decide, fun h hh => ⟨by show 2 ≤ sizeLine; decide, fun t ht => ⟨t, _, rfl, SqT.of upd_same, rfl, _, _, rfl, _, _, rfl, rfl, z, D, h, kvs, z1, last, md, ?_, (R2.same S5).ne hh, (ne_of_none hD hh).symm, S5.trans ((same_upd hh).trans (same_upd ht)), same_upd ht _ _ (same_upd hh _ _ hD), same_upd ht _ _ upd_same, rfl⟩⟩⟩⟩
      rcases q : H4 h with _ | o
      · rfl
      · rw [S5 _ _ q] at hh; cases hh
    rintro σ H5 ⟨z, D, h, kvs, zl, last, md, h0, nhr, nhD, S5, hD, hh, rfl⟩
    have S45 := S5
    have hy4 := hy
    have hc5 := S5 _ _ hc
    have hy5 := hy.same S5
    have R5 := R2.same S5
    have hx5 := S5 _ _ hx
    have lu := hlu
    clear hc hy R2 hx S5
    refine ⟨fun σ H6 => ∃ (hs : List Nat) (x9 x16 : Option V), hs.map (fun k => F.getD k 0) = dist F ∧ H6 h = some (.lst ((nI hs).map V.int)) ∧ H6 c = some (.tup (ls.map V.int)) ∧ StepsAt H6 y M ∧ H6 D = some (.dT kvs) ∧ RowAt K H6 r a ns ∧ σ = [some (.ref a), some (.ref r), some (.int (b : Nat)), some (.ref c), some (.ref x), some (.ref y), some (.ref td), some (.ref D), some (.ref h), x9, none, none, none, none, x14, x15, x16, none], ?_, ?_⟩
    · refine ⟨_, rfl, x, _, rfl, .inl (SqL.of hx5), ((M.length : Nat) : Int), by rw [lu, eq], by omega, by omega, ?_⟩
      refine for_range (lo := 0) (n := ((M.length : Nat) : Int).toNat) (fun i σ H6 => ∃ (hs : List Nat) (x9 x16 : Option V), hs.map (fun k => F.getD k 0) = dist (F.take i) ∧ (∀ k ∈ hs, k < M.length) ∧ H6 h = some (.lst ((nI hs).map V.int)) ∧ Same H4 H6 ∧ H6 c = some (.tup (ls.map V.int)) ∧ H6 D = some (.dT kvs) ∧ RowAt K H6 r a ns ∧ σ = [some (.ref a), some (.ref r), some (.int (b : Nat)), some (.ref c), some (.ref x), some (.ref y), some (.ref td), some (.ref D), some (.ref h), x9, none, none, none, none, x14, x15, x16, none]) ⟨[], none, none, rfl, fun _ q => (nomatch q), hh, S45, hc5, hD, R5, rfl⟩ ?_ ?_
      · clear hc5 hy5 R5 hx5 hD hh
        rintro i σ H6 hi ⟨hs, x9, x16, eh, hb, hh, S6, hc6, hD6, R6, rfl⟩
        have hi : i < M.length := by omega
        rw [show (0 : Int) + (i : Int) = (i : Int) from Int.zero_add _]
        have bigs : (2000 : Nat) ≤ sizeLine := by decide
        have hil : i < F.length := by omega
        have ex : F[i]? = some (F.getD i 0) := by rw [List.getD_eq_getElem?_getD, List.getElem?_eq_getElem hil]; rfl
        have tk := take_oneT ex
        have eD : dist (F.take (i + 1)) = addD (dist (F.take i)) (F.getD i 0) := by rw [tk, dist_snoc]
        have lD := dist_le (F.take i)
        rw [List.length_take] at lD
        have lh : hs.length = (dist (F.take i)).length := by rw [← eh, List.length_map]
        refine ⟨_, rfl, h, rfl, ⟨_, SqL.of hh⟩, fun G hG => ?_⟩
        have nGh : G ≠ h := (ne_of_none hh hG).symm
        refine lc_list (K := K) (a := h) (xs := (nI hs).map V.int) (fun j H7 => Same H6 H7 ∧ H7 G = some (.lst (((hs.take j).map fun k => (mkL (backTold ls R) M b z k i).isSome).map V.bl))) ⟨same_upd hG, upd_same⟩ (fun j H7 _ ⟨S7, _⟩ => SqL.of (S7 _ _ hh)) ?_ ?_
        · rintro j v H7 hv ⟨S7, hG7⟩
          unfold nI at hv
          rw [List.getElem?_map, List.getElem?_map] at hv
          obtain ⟨kz, hkz, rfl⟩ := Option.map_eq_some_iff.mp hv
          obtain ⟨k, hk, rfl⟩ := Option.map_eq_some_iff.mp hkz
          have kl := hb k (List.mem_of_getElem? hk)
          have jl := (List.getElem?_eq_some_iff.mp hk).1
          refine ⟨rfl, _, rfl, _, rfl, by show 2 ≤ sizeLine; decide, fun p hp => ?_⟩
          have Sp := same_upd (o := .tup [.int (k : Int), .int (i : Int)]) hp
          refine ⟨_, rfl, D, _, rfl, DGet.t (Sp _ _ (S7 _ _ hD6)) (k := kp ((k : Int), (i : Int))) upd_same, _, Sp _ _ hG7, by rw [List.length_map, List.length_map, List.length_take]; omega, fun e o q => ?_, ?_⟩
          · rw [upd_ne (ne_of_none q hG)]
            exact Sp _ _ (S7 _ _ q)
          · rw [upd_same, md.at_ k i kl hi, take_oneT hk, List.map_append, List.map_append, Option.isSome_map]
            rfl
        · rintro H7 ⟨S7, hG7⟩
          rw [List.length_map, show (nI hs).length = hs.length from List.length_map .., List.take_length] at hG7
          refine ⟨G, _, rfl, SqL.of hG7, _, rfl, ?_⟩
          have ea : ((hs.map fun k => (mkL (backTold ls R) M b z k i).isSome).all id) = decide (¬ F.getD i 0 ∈ dist (F.take i)) := by
            rw [Bool.eq_iff_iff, List.all_eq_true, decide_eq_true_iff, ← eh]
            constructor
            · intro q m
              obtain ⟨k, hk, e⟩ := List.mem_map.mp m
              have hm := (fx.mark last good bt (i := k) (j := i) (hb k hk) hi).mp e
              have := q _ (List.mem_map.mpr ⟨k, hk, rfl⟩)
              rw [hm] at this
              cases this
            · intro q v hv
              obtain ⟨k, hk, rfl⟩ := List.mem_map.mp hv
              cases hm : mkL (backTold ls R) M b z k i with
              | some t => rfl
              | none => exact absurd (List.mem_map.mpr ⟨k, hk, (fx.mark last good bt (i := k) (j := i) (hb k hk) hi).mpr hm⟩) q
          rw [ea]
          have hh7 := S7 _ _ hh
          have S47 := S6.trans S7
          by_cases mem : F.getD i 0 ∈ dist (F.take i)
          · rw [decide_eq_false (fun q => q mem)]
            have eD2 : addD (dist (F.take i)) (F.getD i 0) = dist (F.take i) := if_pos mem
            exact iteF ⟨hs, _, _, by rw [eh, eD, eD2], hb, hh7, S47, S7 _ _ hc6, S7 _ _ hD6, R6.same S7, rfl⟩
          · rw [decide_eq_true mem]
            have eD2 : addD (dist (F.take i)) (F.getD i 0) = dist (F.take i) ++ [F.getD i 0] := if_neg mem
            have hc7 := S7 _ _ hc6
            have hD7 := S7 _ _ hD6
            refine iteT ⟨_, rfl, .inl ⟨rfl, _, SqL.of hh7⟩, _, rfl, h, _, _, rfl, rfl, hh7, by unfold nI; rw [List.length_map, List.length_map]; omega, hs ++ [i], _, _, by rw [List.map_append, eh, eD, eD2]; rfl, fun k hk => ?_, by rw [upd_same]; unfold nI; rw [List.map_append, List.map_append]; rfl, fun e o q => ?_, ?_, ?_, (R6.same S7).put hh7 nhr, rfl⟩
            · rcases List.mem_append.mp hk with q | q
              · exact hb k q
              · rw [List.mem_singleton.mp q]; exact hi
            · rw [upd_ne (ne_of_none q h0)]
              exact S47 _ _ q
            · rw [upd_ne (ne_of hc7 hh7 (by intro q; cases q))]
              exact hc7
            · rw [upd_ne nhD.symm]
              exact hD7
      · rintro σ H6 ⟨hs, x9, x16, eh, hb, hh, S6, hc6, hD6, R6, rfl⟩
        rw [Int.toNat_natCast, List.take_of_length_le (show F.length ≤ M.length by omega)] at eh
        exact ⟨hs, x9, x16, eh, hh, hc6, hy4.same S6, hD6, R6, rfl⟩
    clear hc5 hy5 R5 hx5 hD hh
    rintro σ H6 ⟨hs, x9, x16, eh, hh, hc, hy, hD, R6, rfl⟩
    have lh : hs.length = (dist F).length := by rw [← eh, List.length_map]
    refine ⟨fun σ H7 => Same H6 H7 ∧ σ = [some (.ref a), some (.ref r), some (.int (b : Nat)), some (.ref c), some (.ref x), some (.ref y), some (.ref td), some (.ref D), some (.ref h), x9, none, none, none, none, x14, x15, x16, none], ?_, ?_⟩
    · refine ⟨_, rfl, _, rfl, b, c, ls, rfl, hc, wl, l1, by omega, b2, b16, fun R' M' F' H7 run' eq' fx' S7 => ?_⟩
      obtain ⟨rfl, rfl⟩ := run.uniq eq run' eq'
      obtain rfl := fx.uniq fx'
      refine ⟨_, rfl, h, _, rfl, .inl (SqL.of (S7 _ _ hh)), rfl, _, rfl, ?_⟩
      unfold nI
      rw [List.length_map, List.length_map, lh, decide_eq_true rfl]
      exact iteF ⟨S7, rfl⟩
    rintro σ H7 ⟨S7, rfl⟩
    replace hc := S7 _ _ hc
    replace hy := hy.same S7
    replace hD := S7 _ _ hD
    replace R6 := R6.same S7
    clear S7 hh
    have rne : ∀ row ∈ M, row ≠ [] := fun row hr e => by
      have := good.len row hr
      rw [e, Int.toNat_natCast] at this
      exact absurd this (by show ¬ 0 = b; omega)
    refine ⟨fun σ H8 => ∃ x10 x11 x12 x13 x17 : Option V, σ = [some (.ref a), some (.ref r), some (.int (b : Nat)), some (.ref c), some (.ref x), some (.ref y), some (.ref td), some (.ref D), some (.ref h), x9, x10, x11, x12, x13, x14, x15, x16, x17], ?_, ?_⟩
    · refine ⟨6, rfl, by decide, by decide, ?_⟩
      refine for_range (lo := 0) (n := 6) (fun i σ H8 => ∃ x10 x11 x12 x13 x17 : Option V, RowAt K H8 r a ns ∧ H8 c = some (.tup (ls.map V.int)) ∧ StepsAt H8 y M ∧ H8 D = some (.dT kvs) ∧ σ = [some (.ref a), some (.ref r), some (.int (b : Nat)), some (.ref c), some (.ref x), some (.ref y), some (.ref td), some (.ref D), some (.ref h), x9, x10, x11, x12, x13, x14, x15, x16, x17]) ⟨none, none, none, none, none, R6, hc, hy, hD, rfl⟩ ?_ ?_
      · clear R6 hc hy hD
        rintro i σ H8 hi ⟨x10, x11, x12, x13, x17, R8, hc8, hy8, hD8, rfl⟩
        clear hi
        refine ⟨fun σ H9 => ∃ (c1 : Addr) (g1 : List Int) (x10 x17 : Option V), FigsAt H9 b c1 g1 ∧ g1.length ≤ 4 ∧ RowAt K H9 r a ns ∧ H9 c = some (.tup (ls.map V.int)) ∧ StepsAt H9 y M ∧ H9 D = some (.dT kvs) ∧ σ = [some (.ref a), some (.ref r), some (.int (b : Nat)), some (.ref c), some (.ref x), some (.ref y), some (.ref td), some (.ref D), some (.ref h), x9, x10, some (.ref c1), x12, x13, x14, x15, x16, x17], ?_, ?_⟩
        · refine ⟨_, rfl, r, a, ns, _, rfl, by decide, by decide, R8, fun nv HA va0 va1 RA BA => ⟨nv, rfl, by omega, by omega, fun D0 hD0 => ?_⟩⟩
          have nDr := RA.ne hD0
          have hD1 : H8 D0 = none := BA.free nDr hD0
          refine lc_range (lo := 0) (n := nv.toNat) (fun i HB => RowAt K HB r a ns ∧ But r H8 HB ∧ ∃ fs : List Int, fs.length = i ∧ (∀ f ∈ fs, 0 ≤ f ∧ f < (b : Int)) ∧ HB D0 = some (.lst (fs.map V.int))) ⟨RA.new hD0, BA.new hD0, [], rfl, fun _ z => (nomatch z), upd_same⟩ ?_ ?_
          · rintro i HB hi ⟨RB, BB, fs, hfs, wf, hL⟩
            refine ⟨rfl, _, rfl, _, rfl, r, a, ns, _, rfl, by omega, by omega, RB, fun u HC u0 u1 RC BC => ?_⟩
            have hLC := BC _ _ hL nDr
            refine ⟨_, hLC, by rw [List.length_map]; exact small1000 (by omega), RC.put hLC nDr, (BB.trans BC).putN hD1, fs ++ [u], by simp; omega, fun f hf => ?_, by rw [upd_same, List.map_append]; rfl⟩
            rcases List.mem_append.mp hf with e | e
            · exact wf f e
            · rw [List.mem_singleton.mp e]
              omega
          · rintro HB ⟨RB, BB, fs, hfs, wf, hL⟩
            refine ⟨D0, _, rfl, .inl ⟨SqL.of hL, fun u hu => ?_⟩⟩
            have R9 := RB.new (o := .tup (fs.map V.int)) hu
            have B9 : But r H8 (upd HB u (.tup (fs.map V.int))) := BB.new hu
            have F9 : FigsAt (upd HB u (.tup (fs.map V.int))) b u fs := ⟨upd_same, wf⟩
            exact ⟨u, fs, some (V.int (0 + (i : Int))), _, F9, by omega, R9, B9 _ _ hc8 (R8.neT hc8), hy8.but R8 rne B9, B9 _ _ hD8 (R8.neD hD8), rfl⟩
        clear R8 hc8 hy8 hD8 x10 x11 x17
        rintro σ H8 ⟨c1, g1, x10, x17, F1, lg1, R8, hc8, hy8, hD8, rfl⟩
        refine ⟨fun σ H9 => ∃ (c2 : Addr) (g2 : List Int) (x17 : Option V), FigsAt H9 b c2 g2 ∧ g2.length ≤ 59 ∧ FigsAt H9 b c1 g1 ∧ RowAt K H9 r a ns ∧ H9 c = some (.tup (ls.map V.int)) ∧ StepsAt H9 y M ∧ H9 D = some (.dT kvs) ∧ σ = [some (.ref a), some (.ref r), some (.int (b : Nat)), some (.ref c), some (.ref x), some (.ref y), some (.ref td), some (.ref D), some (.ref h), x9, x10, some (.ref c1), some (.ref c2), x13, x14, x15, x16, x17], ?_, ?_⟩
        · refine ⟨_, rfl, by show 2 ≤ sizeLine; decide, fun p hp => ⟨_, rfl, menu (items := [5, 60]) (fun z => 1 ≤ z ∧ z ≤ 60) ?_ rfl R8 hp (fun zz HA' hz RA' BA' _ => ⟨r, a, ns, zz, rfl, by omega, by omega, RA', fun nv HA va0 va1 RA BA2 => ⟨nv, rfl, by omega, by omega, fun D0 hD0 => ?_⟩⟩) (by show (0 : Int) < 2; decide) (by show (2 : Int) ≤ 10 ^ 41; decide)⟩⟩
          · intro z hz
            simp only [List.mem_cons, List.not_mem_nil, or_false] at hz
            rcases hz with rfl | rfl <;> decide
          have BA := BA'.trans BA2
          have nDr := RA.ne hD0
          have hD1 : H8 D0 = none := BA.free nDr hD0
          refine lc_range (lo := 0) (n := nv.toNat) (fun i HB => RowAt K HB r a ns ∧ But r H8 HB ∧ ∃ fs : List Int, fs.length = i ∧ (∀ f ∈ fs, 0 ≤ f ∧ f < (b : Int)) ∧ HB D0 = some (.lst (fs.map V.int))) ⟨RA.new hD0, BA.new hD0, [], rfl, fun _ z => (nomatch z), upd_same⟩ ?_ ?_
          · rintro i HB hi ⟨RB, BB, fs, hfs, wf, hL⟩
            refine ⟨rfl, _, rfl, _, rfl, r, a, ns, _, rfl, by omega, by omega, RB, fun u HC u0 u1 RC BC => ?_⟩
            have hLC := BC _ _ hL nDr
            refine ⟨_, hLC, by rw [List.length_map]; exact small1000 (by omega), RC.put hLC nDr, (BB.trans BC).putN hD1, fs ++ [u], by simp; omega, fun f hf => ?_, by rw [upd_same, List.map_append]; rfl⟩
            rcases List.mem_append.mp hf with e | e
            · exact wf f e
            · rw [List.mem_singleton.mp e]
              omega
          · rintro HB ⟨RB, BB, fs, hfs, wf, hL⟩
            refine ⟨D0, _, rfl, .inl ⟨SqL.of hL, fun u hu => ?_⟩⟩
            have R9 := RB.new (o := .tup (fs.map V.int)) hu
            have B9 : But r H8 (upd HB u (.tup (fs.map V.int))) := BB.new hu
            have F9 : FigsAt (upd HB u (.tup (fs.map V.int))) b u fs := ⟨upd_same, wf⟩
            exact ⟨u, fs, _, F9, by omega, ⟨B9 _ _ F1.tup (R8.neT F1.tup), F1.fig⟩, R9, B9 _ _ hc8 (R8.neT hc8), hy8.but R8 rne B9, B9 _ _ hD8 (R8.neD hD8), rfl⟩
        clear R8 hc8 hy8 hD8 F1 x12 x17
        rintro σ H8 ⟨c2, g2, x17, F2, lg2, F1, R8, hc8, hy8, hD8, rfl⟩
        have r1 := runS_lt good good.pos (fs := g1) F1.fig
        have r2 := runS_lt good good.pos (fs := g2) F2.fig
        obtain ⟨o, lw⟩ := least_some (told := backTold ls R) (S := M) (b := b) (i := runS M 0 g1) (j := runS M 0 g2)
        refine ⟨fun σ H9 => ∃ v : V, (o = none → v = .non) ∧ (∀ w, o = some w → ∃ u : Addr, v = .ref u ∧ H9 u = some (.tup (w.map V.int))) ∧ Same H8 H9 ∧ σ = [some (.ref a), some (.ref r), some (.int (b : Nat)), some (.ref c), some (.ref x), some (.ref y), some (.ref td), some (.ref D), some (.ref h), x9, x10, some (.ref c1), some (.ref c2), some v, x14, x15, x16, x17], ?_, ?_⟩
        · refine ⟨_, rfl, _, rfl, _, rfl, _, rfl, y, c1, M, (b : Nat), g1, rfl, hy8, good, F1.tup, F1.fig, _, rfl, _, rfl, y, c2, M, (b : Nat), g2, rfl, hy8, good, F2.tup, F2.fig, y, D, _, _, z, b, backTold ls R, M, kvs, o, rfl, hy8, good, hD8, md, last, zl, b2, b16, r1, r2, lw, fun v H9 S9 k0 k1 => ?_⟩
          exact ⟨v, k0, k1, S9, rfl⟩
        rintro σ H9 ⟨v, k0, k1, S9, rfl⟩
        replace R8 := R8.same S9
        replace hc8 := S9 _ _ hc8
        replace hy8 := hy8.same S9
        replace hD8 := S9 _ _ hD8
        replace F1 := F1.same S9
        replace F2 := F2.same S9
        clear S9
        refine ⟨_, rfl, _, rfl, _, rfl, _, rfl, b, c, c1, c2, ls, g1, g2, rfl, hc8, wl, l1, by omega, b2, b16, F1.tup, by omega, F1.fig, F2.tup, by omega, F2.fig, fun v2 H10 S10 W => ?_⟩
        obtain ⟨o2, lw2, v0, v1⟩ := word_least (told := backTold ls R) (S := M) (i := runS M 0 g1) (j := runS M 0 g2) W fun fs hf => by
          have a1 := back_run run eq _ (g1 ++ fs) rfl fun f q => (List.mem_append.mp q).elim (F1.fig f) (hf f)
          have a2 := back_run run eq _ (g2 ++ fs) rfl fun f q => (List.mem_append.mp q).elim (F2.fig f) (hf f)
          rw [runS_app] at a1 a2
          unfold unB UnW
          rw [back_told a1, back_told a2, decide_eq_true_iff]
        obtain rfl := least_uniq (by omega) lw lw2
        refine ⟨_, rfl, least_eq (told := backTold ls R) (S := M) (b := b) (i := runS M 0 g1) (j := runS M 0 g2) v0 v1 k0 (fun w ew => let ⟨u, e1, e2⟩ := k1 w ew; ⟨u, e1, S10 _ _ e2⟩) ⟨_, rfl, ?_⟩⟩
        exact iteF ⟨_, _, _, _, _, R8.same S10, S10 _ _ hc8, hy8.same S10, S10 _ _ hD8, rfl⟩
      · rintro σ H8 ⟨x10, x11, x12, x13, x17, R8, hc8, hy8, hD8, rfl⟩
        exact ⟨_, _, _, _, _, rfl⟩
    rintro σ H8 ⟨x10, x11, x12, x13, x17, rfl⟩
    exact kk _

end
/-! ### the end -/
theorem all_mk {l : PySem.W.OpenLaw} {w : World} {K : PySem.W.Frag} {h : Heap} {mg : Str → Option Value} {fa : Addr} (X : K.In h) (G : h.Ns mainGlobals mg) (hfa : mg "law" = some (.ref fa))
    {C_TrickError : Addr}
    {C_BadBase : Addr}
    {C_BadFigures : Addr}
    {C_BadRests : Addr}
    {tk_LEAST_BASE : Tok}
    {tk_GREATEST_BASE : Tok}
    {tk_MOST_FIGURES : Tok}
    {tk_MOST_LABELS : Tok}
    {tk_GREATEST_LABEL : Tok}
    {a_is_integer : Addr} {od_is_integer an_is_integer : Option Addr} {sl_is_integer : Array (Option Value)} {oc_is_integer kV_is_integer dc_is_integer pm_is_integer cd_is_integer ct_is_integer : Value}
    {a_is_tuple : Addr} {od_is_tuple an_is_tuple : Option Addr} {sl_is_tuple : Array (Option Value)} {oc_is_tuple kV_is_tuple dc_is_tuple pm_is_tuple cd_is_tuple ct_is_tuple : Value}
    {a_first_wrong : Addr} {od_first_wrong an_first_wrong : Option Addr} {sl_first_wrong : Array (Option Value)} {oc_first_wrong kV_first_wrong dc_first_wrong pm_first_wrong cd_first_wrong ct_first_wrong : Value}
    {a_check_base : Addr} {od_check_base an_check_base : Option Addr} {sl_check_base : Array (Option Value)} {oc_check_base kV_check_base dc_check_base pm_check_base cd_check_base ct_check_base : Value}
    {a_check_figures : Addr} {od_check_figures an_check_figures : Option Addr} {sl_check_figures : Array (Option Value)} {oc_check_figures kV_check_figures dc_check_figures pm_check_figures cd_check_figures ct_check_figures : Value}
    {a_back_states : Addr} {od_back_states an_back_states : Option Addr} {sl_back_states : Array (Option Value)} {oc_back_states kV_back_states dc_back_states pm_back_states cd_back_states ct_back_states : Value}
    {a_back_word : Addr} {od_back_word an_back_word : Option Addr} {sl_back_word : Array (Option Value)} {oc_back_word kV_back_word dc_back_word pm_back_word cd_back_word ct_back_word : Value}
    {a_check_labels : Addr} {od_check_labels an_check_labels : Option Addr} {sl_check_labels : Array (Option Value)} {oc_check_labels kV_check_labels dc_check_labels pm_check_labels cd_check_labels ct_check_labels : Value}
    {a_back_machine : Addr} {od_back_machine an_back_machine : Option Addr} {sl_back_machine : Array (Option Value)} {oc_back_machine kV_back_machine dc_back_machine pm_back_machine cd_back_machine ct_back_machine : Value}
    {a_state_behind : Addr} {od_state_behind an_state_behind : Option Addr} {sl_state_behind : Array (Option Value)} {oc_state_behind kV_state_behind dc_state_behind pm_state_behind cd_state_behind ct_state_behind : Value}
    {a_classes : Addr} {od_classes an_classes : Option Addr} {sl_classes : Array (Option Value)} {oc_classes kV_classes dc_classes pm_classes cd_classes ct_classes : Value}
    {a_numbered : Addr} {od_numbered an_numbered : Option Addr} {sl_numbered : Array (Option Value)} {oc_numbered kV_numbered dc_numbered pm_numbered cd_numbered ct_numbered : Value}
    {a_least_word : Addr} {od_least_word an_least_word : Option Addr} {sl_least_word : Array (Option Value)} {oc_least_word kV_least_word dc_least_word pm_least_word cd_least_word ct_least_word : Value}
    {a__law_taken : Addr} {od__law_taken an__law_taken : Option Addr} {sl__law_taken : Array (Option Value)} {oc__law_taken kV__law_taken dc__law_taken pm__law_taken cd__law_taken ct__law_taken : Value}
    {a__law_labels : Addr} {od__law_labels an__law_labels : Option Addr} {sl__law_labels : Array (Option Value)} {oc__law_labels kV__law_labels dc__law_labels pm__law_labels cd__law_labels ct__law_labels : Value}
    {a__law_marks : Addr} {od__law_marks an__law_marks : Option Addr} {sl__law_marks : Array (Option Value)} {oc__law_marks kV__law_marks dc__law_marks pm__law_marks cd__law_marks ct__law_marks : Value}
    {a__law_least_word : Addr} {od__law_least_word an__law_least_word : Option Addr} {sl__law_least_word : Array (Option Value)} {oc__law_least_word kV__law_least_word dc__law_least_word pm__law_least_word cd__law_least_word ct__law_least_word : Value}
    {a__law_back : Addr} {od__law_back an__law_back : Option Addr} {sl__law_back : Array (Option Value)} {oc__law_back kV__law_back dc__law_back pm__law_back cd__law_back ct__law_back : Value}
    {a__law_read : Addr} {od__law_read an__law_read : Option Addr} {sl__law_read : Array (Option Value)} {oc__law_read kV__law_read dc__law_read pm__law_read cd__law_read ct__law_read : Value}
    {a_law : Addr} {od_law an_law : Option Addr} {sl_law : Array (Option Value)} {oc_law kV_law dc_law pm_law cd_law ct_law : Value}
    {a_BadFigures___init__ cda_BadFigures___init__ cc_BadFigures___init__ N_BadFigures___init__ : Addr} {od_BadFigures___init__ an_BadFigures___init__ cdd_BadFigures___init__ cld_BadFigures___init__ dd_BadFigures___init__ : Option Addr} {sl_BadFigures___init__ ccs_BadFigures___init__ csl_BadFigures___init__ : Array (Option Value)} {oc_BadFigures___init__ dc_BadFigures___init__ pm_BadFigures___init__ ct_BadFigures___init__ ccl_BadFigures___init__ cl_BadFigures___init__ : Value} {vs_BadFigures___init__ : Array Value} {file_BadFigures___init__ nm_BadFigures___init__ qn_BadFigures___init__ : Str} {tf_BadFigures___init__ : Tok} {bs_BadFigures___init__ bm_BadFigures___init__ sub_BadFigures___init__ : List Value} {sn_BadFigures___init__ : List Str} {ab_BadFigures___init__ : Bool} {col_BadFigures___init__ : Option Bool} {k0_BadFigures___init__ k1_BadFigures___init__ k2_BadFigures___init__ k3_BadFigures___init__ k5_BadFigures___init__ : Option Value}
    {a_BadRests___init__ cda_BadRests___init__ cc_BadRests___init__ N_BadRests___init__ : Addr} {od_BadRests___init__ an_BadRests___init__ cdd_BadRests___init__ cld_BadRests___init__ dd_BadRests___init__ : Option Addr} {sl_BadRests___init__ ccs_BadRests___init__ csl_BadRests___init__ : Array (Option Value)} {oc_BadRests___init__ dc_BadRests___init__ pm_BadRests___init__ ct_BadRests___init__ ccl_BadRests___init__ cl_BadRests___init__ : Value} {vs_BadRests___init__ : Array Value} {file_BadRests___init__ nm_BadRests___init__ qn_BadRests___init__ : Str} {tf_BadRests___init__ : Tok} {bs_BadRests___init__ bm_BadRests___init__ sub_BadRests___init__ : List Value} {sn_BadRests___init__ : List Str} {ab_BadRests___init__ : Bool} {col_BadRests___init__ : Option Bool} {k0_BadRests___init__ k1_BadRests___init__ k2_BadRests___init__ k3_BadRests___init__ k5_BadRests___init__ : Option Value}
    (gx_TrickError : PySem.W.nsIn K mainGlobals "TrickError" = some (some (.ref C_TrickError)))
    (x_TrickError : PySem.W.excIn K C_TrickError [.type "ValueError", .type "Exception", .type "BaseException", .type "object"] "ValueError.__new__" = true)
    (k_TrickError : PySem.W.keepIn K (.ref C_TrickError) = true)
    (s_TrickError : PySem.W.subIn K (.ref C_TrickError) (.type "BaseException") = some true)
    (t_TrickError : PySem.W.typeIn K (.ref C_TrickError) = some (.type "type"))
    (gx_BadBase : PySem.W.nsIn K mainGlobals "BadBase" = some (some (.ref C_BadBase)))
    (x_BadBase : PySem.W.excIn K C_BadBase [.type "ValueError", .type "Exception", .type "BaseException", .type "object"] "ValueError.__new__" = true)
    (k_BadBase : PySem.W.keepIn K (.ref C_BadBase) = true)
    (s_BadBase : PySem.W.subIn K (.ref C_BadBase) (.type "BaseException") = some true)
    (t_BadBase : PySem.W.typeIn K (.ref C_BadBase) = some (.type "type"))
    (gx_BadFigures : PySem.W.nsIn K mainGlobals "BadFigures" = some (some (.ref C_BadFigures)))
    (k_BadFigures : PySem.W.keepIn K (.ref C_BadFigures) = true)
    (s_BadFigures : PySem.W.subIn K (.ref C_BadFigures) (.type "BaseException") = some true)
    (t_BadFigures : PySem.W.typeIn K (.ref C_BadFigures) = some (.type "type"))
    (gx_BadRests : PySem.W.nsIn K mainGlobals "BadRests" = some (some (.ref C_BadRests)))
    (k_BadRests : PySem.W.keepIn K (.ref C_BadRests) = true)
    (s_BadRests : PySem.W.subIn K (.ref C_BadRests) (.type "BaseException") = some true)
    (t_BadRests : PySem.W.typeIn K (.ref C_BadRests) = some (.type "type"))
    (cx_LEAST_BASE : PySem.W.nsIn K mainGlobals "LEAST_BASE" = some (some (.int 2 tk_LEAST_BASE)))
    (cx_GREATEST_BASE : PySem.W.nsIn K mainGlobals "GREATEST_BASE" = some (some (.int 16 tk_GREATEST_BASE)))
    (cx_MOST_FIGURES : PySem.W.nsIn K mainGlobals "MOST_FIGURES" = some (some (.int 150 tk_MOST_FIGURES)))
    (cx_MOST_LABELS : PySem.W.nsIn K mainGlobals "MOST_LABELS" = some (some (.int 20 tk_MOST_LABELS)))
    (cx_GREATEST_LABEL : PySem.W.nsIn K mainGlobals "GREATEST_LABEL" = some (some (.int 19 tk_GREATEST_LABEL)))
    (gf_is_integer : PySem.W.nsIn K mainGlobals "is_integer" = some (some (.ref a_is_integer)))
    (l_is_integer : K.lookup a_is_integer = some ⟨oc_is_integer, od_is_integer, .func (PySem.W.fnOf "is_integer" "is_integer" (defArgs s_is_integer) (defBody s_is_integer) (defScope s_is_integer) .none kV_is_integer dc_is_integer pm_is_integer an_is_integer cd_is_integer ct_is_integer), sl_is_integer⟩)
    (c_is_integer : PySem.W.codeIn K cd_is_integer "is_integer" = true)
    (kp_is_integer : PySem.W.keepIn K (.ref a_is_integer) = true)
    (gf_is_tuple : PySem.W.nsIn K mainGlobals "is_tuple" = some (some (.ref a_is_tuple)))
    (l_is_tuple : K.lookup a_is_tuple = some ⟨oc_is_tuple, od_is_tuple, .func (PySem.W.fnOf "is_tuple" "is_tuple" (defArgs s_is_tuple) (defBody s_is_tuple) (defScope s_is_tuple) .none kV_is_tuple dc_is_tuple pm_is_tuple an_is_tuple cd_is_tuple ct_is_tuple), sl_is_tuple⟩)
    (c_is_tuple : PySem.W.codeIn K cd_is_tuple "is_tuple" = true)
    (kp_is_tuple : PySem.W.keepIn K (.ref a_is_tuple) = true)
    (gf_first_wrong : PySem.W.nsIn K mainGlobals "first_wrong" = some (some (.ref a_first_wrong)))
    (l_first_wrong : K.lookup a_first_wrong = some ⟨oc_first_wrong, od_first_wrong, .func (PySem.W.fnOf "first_wrong" "first_wrong" (defArgs s_first_wrong) (defBody s_first_wrong) (defScope s_first_wrong) .none kV_first_wrong dc_first_wrong pm_first_wrong an_first_wrong cd_first_wrong ct_first_wrong), sl_first_wrong⟩)
    (c_first_wrong : PySem.W.codeIn K cd_first_wrong "first_wrong" = true)
    (kp_first_wrong : PySem.W.keepIn K (.ref a_first_wrong) = true)
    (gf_check_base : PySem.W.nsIn K mainGlobals "check_base" = some (some (.ref a_check_base)))
    (l_check_base : K.lookup a_check_base = some ⟨oc_check_base, od_check_base, .func (PySem.W.fnOf "check_base" "check_base" (defArgs s_check_base) (defBody s_check_base) (defScope s_check_base) .none kV_check_base dc_check_base pm_check_base an_check_base cd_check_base ct_check_base), sl_check_base⟩)
    (c_check_base : PySem.W.codeIn K cd_check_base "check_base" = true)
    (kp_check_base : PySem.W.keepIn K (.ref a_check_base) = true)
    (gf_check_figures : PySem.W.nsIn K mainGlobals "check_figures" = some (some (.ref a_check_figures)))
    (l_check_figures : K.lookup a_check_figures = some ⟨oc_check_figures, od_check_figures, .func (PySem.W.fnOf "check_figures" "check_figures" (defArgs s_check_figures) (defBody s_check_figures) (defScope s_check_figures) .none kV_check_figures dc_check_figures pm_check_figures an_check_figures cd_check_figures ct_check_figures), sl_check_figures⟩)
    (c_check_figures : PySem.W.codeIn K cd_check_figures "check_figures" = true)
    (kp_check_figures : PySem.W.keepIn K (.ref a_check_figures) = true)
    (gf_back_states : PySem.W.nsIn K mainGlobals "back_states" = some (some (.ref a_back_states)))
    (l_back_states : K.lookup a_back_states = some ⟨oc_back_states, od_back_states, .func (PySem.W.fnOf "back_states" "back_states" (defArgs s_back_states) (defBody s_back_states) (defScope s_back_states) .none kV_back_states dc_back_states pm_back_states an_back_states cd_back_states ct_back_states), sl_back_states⟩)
    (c_back_states : PySem.W.codeIn K cd_back_states "back_states" = true)
    (kp_back_states : PySem.W.keepIn K (.ref a_back_states) = true)
    (gf_back_word : PySem.W.nsIn K mainGlobals "back_word" = some (some (.ref a_back_word)))
    (l_back_word : K.lookup a_back_word = some ⟨oc_back_word, od_back_word, .func (PySem.W.fnOf "back_word" "back_word" (defArgs s_back_word) (defBody s_back_word) (defScope s_back_word) .none kV_back_word dc_back_word pm_back_word an_back_word cd_back_word ct_back_word), sl_back_word⟩)
    (c_back_word : PySem.W.codeIn K cd_back_word "back_word" = true)
    (kp_back_word : PySem.W.keepIn K (.ref a_back_word) = true)
    (gf_check_labels : PySem.W.nsIn K mainGlobals "check_labels" = some (some (.ref a_check_labels)))
    (l_check_labels : K.lookup a_check_labels = some ⟨oc_check_labels, od_check_labels, .func (PySem.W.fnOf "check_labels" "check_labels" (defArgs s_check_labels) (defBody s_check_labels) (defScope s_check_labels) .none kV_check_labels dc_check_labels pm_check_labels an_check_labels cd_check_labels ct_check_labels), sl_check_labels⟩)
    (c_check_labels : PySem.W.codeIn K cd_check_labels "check_labels" = true)
    (kp_check_labels : PySem.W.keepIn K (.ref a_check_labels) = true)
    (gf_back_machine : PySem.W.nsIn K mainGlobals "back_machine" = some (some (.ref a_back_machine)))
    (l_back_machine : K.lookup a_back_machine = some ⟨oc_back_machine, od_back_machine, .func (PySem.W.fnOf "back_machine" "back_machine" (defArgs s_back_machine) (defBody s_back_machine) (defScope s_back_machine) .none kV_back_machine dc_back_machine pm_back_machine an_back_machine cd_back_machine ct_back_machine), sl_back_machine⟩)
    (c_back_machine : PySem.W.codeIn K cd_back_machine "back_machine" = true)
    (kp_back_machine : PySem.W.keepIn K (.ref a_back_machine) = true)
    (gf_state_behind : PySem.W.nsIn K mainGlobals "state_behind" = some (some (.ref a_state_behind)))
    (l_state_behind : K.lookup a_state_behind = some ⟨oc_state_behind, od_state_behind, .func (PySem.W.fnOf "state_behind" "state_behind" (defArgs s_state_behind) (defBody s_state_behind) (defScope s_state_behind) .none kV_state_behind dc_state_behind pm_state_behind an_state_behind cd_state_behind ct_state_behind), sl_state_behind⟩)
    (c_state_behind : PySem.W.codeIn K cd_state_behind "state_behind" = true)
    (kp_state_behind : PySem.W.keepIn K (.ref a_state_behind) = true)
    (gf_classes : PySem.W.nsIn K mainGlobals "classes" = some (some (.ref a_classes)))
    (l_classes : K.lookup a_classes = some ⟨oc_classes, od_classes, .func (PySem.W.fnOf "classes" "classes" (defArgs s_classes) (defBody s_classes) (defScope s_classes) .none kV_classes dc_classes pm_classes an_classes cd_classes ct_classes), sl_classes⟩)
    (c_classes : PySem.W.codeIn K cd_classes "classes" = true)
    (kp_classes : PySem.W.keepIn K (.ref a_classes) = true)
    (gf_numbered : PySem.W.nsIn K mainGlobals "numbered" = some (some (.ref a_numbered)))
    (l_numbered : K.lookup a_numbered = some ⟨oc_numbered, od_numbered, .func (PySem.W.fnOf "numbered" "numbered" (defArgs s_numbered) (defBody s_numbered) (defScope s_numbered) .none kV_numbered dc_numbered pm_numbered an_numbered cd_numbered ct_numbered), sl_numbered⟩)
    (c_numbered : PySem.W.codeIn K cd_numbered "numbered" = true)
    (kp_numbered : PySem.W.keepIn K (.ref a_numbered) = true)
    (gf_least_word : PySem.W.nsIn K mainGlobals "least_word" = some (some (.ref a_least_word)))
    (l_least_word : K.lookup a_least_word = some ⟨oc_least_word, od_least_word, .func (PySem.W.fnOf "least_word" "least_word" (defArgs s_least_word) (defBody s_least_word) (defScope s_least_word) .none kV_least_word dc_least_word pm_least_word an_least_word cd_least_word ct_least_word), sl_least_word⟩)
    (c_least_word : PySem.W.codeIn K cd_least_word "least_word" = true)
    (kp_least_word : PySem.W.keepIn K (.ref a_least_word) = true)
    (gf__law_taken : PySem.W.nsIn K mainGlobals "_law_taken" = some (some (.ref a__law_taken)))
    (l__law_taken : K.lookup a__law_taken = some ⟨oc__law_taken, od__law_taken, .func (PySem.W.fnOf "_law_taken" "_law_taken" (defArgs s__law_taken) (defBody s__law_taken) (defScope s__law_taken) .none kV__law_taken dc__law_taken pm__law_taken an__law_taken cd__law_taken ct__law_taken), sl__law_taken⟩)
    (c__law_taken : PySem.W.codeIn K cd__law_taken "_law_taken" = true)
    (kp__law_taken : PySem.W.keepIn K (.ref a__law_taken) = true)
    (gf__law_labels : PySem.W.nsIn K mainGlobals "_law_labels" = some (some (.ref a__law_labels)))
    (l__law_labels : K.lookup a__law_labels = some ⟨oc__law_labels, od__law_labels, .func (PySem.W.fnOf "_law_labels" "_law_labels" (defArgs s__law_labels) (defBody s__law_labels) (defScope s__law_labels) .none kV__law_labels dc__law_labels pm__law_labels an__law_labels cd__law_labels ct__law_labels), sl__law_labels⟩)
    (c__law_labels : PySem.W.codeIn K cd__law_labels "_law_labels" = true)
    (kp__law_labels : PySem.W.keepIn K (.ref a__law_labels) = true)
    (gf__law_marks : PySem.W.nsIn K mainGlobals "_law_marks" = some (some (.ref a__law_marks)))
    (l__law_marks : K.lookup a__law_marks = some ⟨oc__law_marks, od__law_marks, .func (PySem.W.fnOf "_law_marks" "_law_marks" (defArgs s__law_marks) (defBody s__law_marks) (defScope s__law_marks) .none kV__law_marks dc__law_marks pm__law_marks an__law_marks cd__law_marks ct__law_marks), sl__law_marks⟩)
    (c__law_marks : PySem.W.codeIn K cd__law_marks "_law_marks" = true)
    (kp__law_marks : PySem.W.keepIn K (.ref a__law_marks) = true)
    (gf__law_least_word : PySem.W.nsIn K mainGlobals "_law_least_word" = some (some (.ref a__law_least_word)))
    (l__law_least_word : K.lookup a__law_least_word = some ⟨oc__law_least_word, od__law_least_word, .func (PySem.W.fnOf "_law_least_word" "_law_least_word" (defArgs s__law_least_word) (defBody s__law_least_word) (defScope s__law_least_word) .none kV__law_least_word dc__law_least_word pm__law_least_word an__law_least_word cd__law_least_word ct__law_least_word), sl__law_least_word⟩)
    (c__law_least_word : PySem.W.codeIn K cd__law_least_word "_law_least_word" = true)
    (kp__law_least_word : PySem.W.keepIn K (.ref a__law_least_word) = true)
    (gf__law_back : PySem.W.nsIn K mainGlobals "_law_back" = some (some (.ref a__law_back)))
    (l__law_back : K.lookup a__law_back = some ⟨oc__law_back, od__law_back, .func (PySem.W.fnOf "_law_back" "_law_back" (defArgs s__law_back) (defBody s__law_back) (defScope s__law_back) .none kV__law_back dc__law_back pm__law_back an__law_back cd__law_back ct__law_back), sl__law_back⟩)
    (c__law_back : PySem.W.codeIn K cd__law_back "_law_back" = true)
    (kp__law_back : PySem.W.keepIn K (.ref a__law_back) = true)
    (gf__law_read : PySem.W.nsIn K mainGlobals "_law_read" = some (some (.ref a__law_read)))
    (l__law_read : K.lookup a__law_read = some ⟨oc__law_read, od__law_read, .func (PySem.W.fnOf "_law_read" "_law_read" (defArgs s__law_read) (defBody s__law_read) (defScope s__law_read) .none kV__law_read dc__law_read pm__law_read an__law_read cd__law_read ct__law_read), sl__law_read⟩)
    (c__law_read : PySem.W.codeIn K cd__law_read "_law_read" = true)
    (kp__law_read : PySem.W.keepIn K (.ref a__law_read) = true)
    (gf_law : PySem.W.nsIn K mainGlobals "law" = some (some (.ref a_law)))
    (l_law : K.lookup a_law = some ⟨oc_law, od_law, .func (PySem.W.fnOf "law" "law" (defArgs s_law) (defBody s_law) (defScope s_law) .none kV_law dc_law pm_law an_law cd_law ct_law), sl_law⟩)
    (c_law : PySem.W.codeIn K cd_law "law" = true)
    (kp_law : PySem.W.keepIn K (.ref a_law) = true)
    (z_int : PySem.W.nsIn K mainGlobals "int" = some none)
    (z_bool : PySem.W.nsIn K mainGlobals "bool" = some none)
    (z_len : PySem.W.nsIn K mainGlobals "len" = some none)
    (z_range : PySem.W.nsIn K mainGlobals "range" = some none)
    (z_isinstance : PySem.W.nsIn K mainGlobals "isinstance" = some none)
    (z_tuple : PySem.W.nsIn K mainGlobals "tuple" = some none)
    (z_enumerate : PySem.W.nsIn K mainGlobals "enumerate" = some none)
    (z_all : PySem.W.nsIn K mainGlobals "all" = some none)
    (z_max : PySem.W.nsIn K mainGlobals "max" = some none)
    (z_super : PySem.W.nsIn K mainGlobals "super" = some none)
    (z_zip : PySem.W.nsIn K mainGlobals "zip" = some none)
    (z_ValueError : PySem.W.nsIn K mainGlobals "ValueError" = some none)
    (xl_BadFigures___init__ : K.lookup C_BadFigures = some (PySem.excClassObj nm_BadFigures___init__ qn_BadFigures___init__ C_BadFigures N_BadFigures___init__ bs_BadFigures___init__ bm_BadFigures___init__ true sn_BadFigures___init__ sub_BadFigures___init__ ab_BadFigures___init__ col_BadFigures___init__ dd_BadFigures___init__ k0_BadFigures___init__ k1_BadFigures___init__ k2_BadFigures___init__ k3_BadFigures___init__ k5_BadFigures___init__ "ValueError.__new__"))
    (xrb_BadFigures___init__ : PySem.HandSPX.refsVE bm_BadFigures___init__ = true)
    (xsa_BadFigures___init__ : PySem.W.findIn K (.ref C_BadFigures) "__setattr__" = some (some (.builtin "object.__setattr__")))
    (xga_BadFigures___init__ : PySem.W.findIn K (.ref C_BadFigures) "__getattribute__" = some (some (.builtin "BaseException.__getattribute__")))
    (xgg_BadFigures___init__ : PySem.W.findIn K (.ref C_BadFigures) "__getattr__" = some none)
    (xnf_BadFigures___init__ : PySem.W.findIn K (.ref C_BadFigures) "index" = some none)
    (xic_BadFigures___init__ : PySem.W.findIn K (.ref C_BadFigures) "__init__" = some (some (.ref a_BadFigures___init__)))
    (xtc_BadFigures___init__ : PySem.W.typeIn K (.ref a_BadFigures___init__) = some (.type "function"))
    (xhd_BadFigures___init__ : PySem.W.hasDictIn K C_BadFigures = true)
    (xup_BadFigures___init__ : PySem.W.ks_superIn K C_BadFigures C_BadFigures "__init__" = some (some (.builtin "ValueError.__init__")))
    (xan_BadFigures___init__ : PySem.W.nsIn K PySem.cStatics "thirdparty.any" = some none)
    (xve_BadFigures___init__ : PySem.W.subIn K (.ref C_BadFigures) (.type "ValueError") = some true)
    (xow_BadFigures___init__ : PySem.W.mroIn K C_BadFigures (.ref C_BadFigures) = some true)
    (rmn_BadFigures___init__ : (l.prog.main.scope.names.lookup ("super" : Str)).isSome = false)
    (xfn_BadFigures___init__ : K.lookup a_BadFigures___init__ = some ⟨oc_BadFigures___init__, od_BadFigures___init__, .func (PySem.W.ksFn "__init__" "BadFigures.__init__" (defArgs s_BadFigures___init__) (defBody s_BadFigures___init__) (defScope s_BadFigures___init__) .none .none dc_BadFigures___init__ pm_BadFigures___init__ an_BadFigures___init__ (.ref cda_BadFigures___init__) ct_BadFigures___init__ cc_BadFigures___init__), sl_BadFigures___init__⟩)
    (xco_BadFigures___init__ : PySem.W.codeIn K (.ref cda_BadFigures___init__) "BadFigures.__init__" = true)
    (xcd_BadFigures___init__ : K.lookup cda_BadFigures___init__ = some ⟨ccl_BadFigures___init__, cdd_BadFigures___init__, .fields vs_BadFigures___init__, ccs_BadFigures___init__⟩)
    (rvs_BadFigures___init__ : vs_BadFigures___init__[2]? = some (.str file_BadFigures___init__ tf_BadFigures___init__))
    (rfi_BadFigures___init__ : ((l.prog.main.file : Str) == file_BadFigures___init__) = true)
    (xcc_BadFigures___init__ : K.lookup cc_BadFigures___init__ = some ⟨cl_BadFigures___init__, cld_BadFigures___init__, .cell (some (.ref C_BadFigures)), csl_BadFigures___init__⟩)
    (xl_BadRests___init__ : K.lookup C_BadRests = some (PySem.excClassObj nm_BadRests___init__ qn_BadRests___init__ C_BadRests N_BadRests___init__ bs_BadRests___init__ bm_BadRests___init__ true sn_BadRests___init__ sub_BadRests___init__ ab_BadRests___init__ col_BadRests___init__ dd_BadRests___init__ k0_BadRests___init__ k1_BadRests___init__ k2_BadRests___init__ k3_BadRests___init__ k5_BadRests___init__ "ValueError.__new__"))
    (xrb_BadRests___init__ : PySem.HandSPX.refsVE bm_BadRests___init__ = true)
    (xsa_BadRests___init__ : PySem.W.findIn K (.ref C_BadRests) "__setattr__" = some (some (.builtin "object.__setattr__")))
    (xga_BadRests___init__ : PySem.W.findIn K (.ref C_BadRests) "__getattribute__" = some (some (.builtin "BaseException.__getattribute__")))
    (xgg_BadRests___init__ : PySem.W.findIn K (.ref C_BadRests) "__getattr__" = some none)
    (xnf_BadRests___init__ : PySem.W.findIn K (.ref C_BadRests) "index" = some none)
    (xic_BadRests___init__ : PySem.W.findIn K (.ref C_BadRests) "__init__" = some (some (.ref a_BadRests___init__)))
    (xtc_BadRests___init__ : PySem.W.typeIn K (.ref a_BadRests___init__) = some (.type "function"))
    (xhd_BadRests___init__ : PySem.W.hasDictIn K C_BadRests = true)
    (xup_BadRests___init__ : PySem.W.ks_superIn K C_BadRests C_BadRests "__init__" = some (some (.builtin "ValueError.__init__")))
    (xan_BadRests___init__ : PySem.W.nsIn K PySem.cStatics "thirdparty.any" = some none)
    (xve_BadRests___init__ : PySem.W.subIn K (.ref C_BadRests) (.type "ValueError") = some true)
    (xow_BadRests___init__ : PySem.W.mroIn K C_BadRests (.ref C_BadRests) = some true)
    (rmn_BadRests___init__ : (l.prog.main.scope.names.lookup ("super" : Str)).isSome = false)
    (xfn_BadRests___init__ : K.lookup a_BadRests___init__ = some ⟨oc_BadRests___init__, od_BadRests___init__, .func (PySem.W.ksFn "__init__" "BadRests.__init__" (defArgs s_BadRests___init__) (defBody s_BadRests___init__) (defScope s_BadRests___init__) .none .none dc_BadRests___init__ pm_BadRests___init__ an_BadRests___init__ (.ref cda_BadRests___init__) ct_BadRests___init__ cc_BadRests___init__), sl_BadRests___init__⟩)
    (xco_BadRests___init__ : PySem.W.codeIn K (.ref cda_BadRests___init__) "BadRests.__init__" = true)
    (xcd_BadRests___init__ : K.lookup cda_BadRests___init__ = some ⟨ccl_BadRests___init__, cdd_BadRests___init__, .fields vs_BadRests___init__, ccs_BadRests___init__⟩)
    (rvs_BadRests___init__ : vs_BadRests___init__[2]? = some (.str file_BadRests___init__ tf_BadRests___init__))
    (rfi_BadRests___init__ : ((l.prog.main.file : Str) == file_BadRests___init__) = true)
    (xcc_BadRests___init__ : K.lookup cc_BadRests___init__ = some ⟨cl_BadRests___init__, cld_BadRests___init__, .cell (some (.ref C_BadRests)), csl_BadRests___init__⟩)
    : ∃ fd : FuncData, (∀ (s : Shared) (v : Value), BindsTo s fd ⟨[v], []⟩ [("_law_script", v)]) ∧ ∀ base : Heap, K.In base → base.Ns mainGlobals mg → FnOk l.prog w K mg base CX0 lv_law fa fd ["_law_script"] (sp_law K) := by
  have e := hfa.symm.trans (PySem.W.mg_of X G gf_law)
  have e2 : a_law = fa := by cases e; rfl
  subst e2
  refine ⟨PySem.W.fnOf "law" "law" (defArgs s_law) (defBody s_law) (defScope s_law) .none kV_law dc_law pm_law an_law cd_law ct_law, fun s v => .of_eq rfl, fun base _ _ => ?_⟩
  exact ok_law (T :=
    { C_TrickError := C_TrickError,
      g_TrickError := PySem.W.mg_of X G gx_TrickError,
      x_TrickError := x_TrickError,
      k_TrickError := k_TrickError,
      s_TrickError := s_TrickError,
      t_TrickError := t_TrickError,
      C_BadBase := C_BadBase,
      g_BadBase := PySem.W.mg_of X G gx_BadBase,
      x_BadBase := x_BadBase,
      k_BadBase := k_BadBase,
      s_BadBase := s_BadBase,
      t_BadBase := t_BadBase,
      C_BadFigures := C_BadFigures,
      g_BadFigures := PySem.W.mg_of X G gx_BadFigures,
      k_BadFigures := k_BadFigures,
      s_BadFigures := s_BadFigures,
      t_BadFigures := t_BadFigures,
      C_BadRests := C_BadRests,
      g_BadRests := PySem.W.mg_of X G gx_BadRests,
      k_BadRests := k_BadRests,
      s_BadRests := s_BadRests,
      t_BadRests := t_BadRests,
      t_c_LEAST_BASE := tk_LEAST_BASE,
      c_LEAST_BASE := PySem.W.mg_of X G cx_LEAST_BASE,
      t_c_GREATEST_BASE := tk_GREATEST_BASE,
      c_GREATEST_BASE := PySem.W.mg_of X G cx_GREATEST_BASE,
      t_c_MOST_FIGURES := tk_MOST_FIGURES,
      c_MOST_FIGURES := PySem.W.mg_of X G cx_MOST_FIGURES,
      t_c_MOST_LABELS := tk_MOST_LABELS,
      c_MOST_LABELS := PySem.W.mg_of X G cx_MOST_LABELS,
      t_c_GREATEST_LABEL := tk_GREATEST_LABEL,
      c_GREATEST_LABEL := PySem.W.mg_of X G cx_GREATEST_LABEL,
      a_is_integer := a_is_integer,
      d_is_integer := _,
      F_is_integer := fun_mk (st := s_is_integer) l_is_integer c_is_integer kp_is_integer,
      b_is_integer := (fun_mk (st := s_is_integer) l_is_integer c_is_integer kp_is_integer).binds (ps := ["told", "low", "high"]) fun _ _ _ _ _ _ us hl => match us, hl with | [_, _, _], _ => rfl,
      g_is_integer := PySem.W.mg_of X G gf_is_integer,
      a_is_tuple := a_is_tuple,
      d_is_tuple := _,
      F_is_tuple := fun_mk (st := s_is_tuple) l_is_tuple c_is_tuple kp_is_tuple,
      b_is_tuple := (fun_mk (st := s_is_tuple) l_is_tuple c_is_tuple kp_is_tuple).binds (ps := ["told", "fewest", "most"]) fun _ _ _ _ _ _ us hl => match us, hl with | [_, _, _], _ => rfl,
      g_is_tuple := PySem.W.mg_of X G gf_is_tuple,
      a_first_wrong := a_first_wrong,
      d_first_wrong := _,
      F_first_wrong := fun_mk (st := s_first_wrong) l_first_wrong c_first_wrong kp_first_wrong,
      b_first_wrong := (fun_mk (st := s_first_wrong) l_first_wrong c_first_wrong kp_first_wrong).binds (ps := ["told", "low", "high"]) fun _ _ _ _ _ _ us hl => match us, hl with | [_, _, _], _ => rfl,
      g_first_wrong := PySem.W.mg_of X G gf_first_wrong,
      a_check_base := a_check_base,
      d_check_base := _,
      F_check_base := fun_mk (st := s_check_base) l_check_base c_check_base kp_check_base,
      b_check_base := (fun_mk (st := s_check_base) l_check_base c_check_base kp_check_base).binds (ps := ["base"]) fun _ _ _ _ _ _ us hl => match us, hl with | [_], _ => rfl,
      g_check_base := PySem.W.mg_of X G gf_check_base,
      a_check_figures := a_check_figures,
      d_check_figures := _,
      F_check_figures := fun_mk (st := s_check_figures) l_check_figures c_check_figures kp_check_figures,
      b_check_figures := (fun_mk (st := s_check_figures) l_check_figures c_check_figures kp_check_figures).binds (ps := ["told", "base", "fewest"]) fun _ _ _ _ _ _ us hl => match us, hl with | [_, _, _], _ => rfl,
      g_check_figures := PySem.W.mg_of X G gf_check_figures,
      a_back_states := a_back_states,
      d_back_states := _,
      F_back_states := fun_mk (st := s_back_states) l_back_states c_back_states kp_back_states,
      b_back_states := (fun_mk (st := s_back_states) l_back_states c_back_states kp_back_states).binds (ps := ["base", "labels"]) fun _ _ _ _ _ _ us hl => match us, hl with | [_, _], _ => rfl,
      g_back_states := PySem.W.mg_of X G gf_back_states,
      a_back_word := a_back_word,
      d_back_word := _,
      F_back_word := fun_mk (st := s_back_word) l_back_word c_back_word kp_back_word,
      b_back_word := (fun_mk (st := s_back_word) l_back_word c_back_word kp_back_word).binds (ps := ["base", "labels", "one", "other"]) fun _ _ _ _ _ _ us hl => match us, hl with | [_, _, _, _], _ => rfl,
      g_back_word := PySem.W.mg_of X G gf_back_word,
      a_check_labels := a_check_labels,
      d_check_labels := _,
      F_check_labels := fun_mk (st := s_check_labels) l_check_labels c_check_labels kp_check_labels,
      b_check_labels := (fun_mk (st := s_check_labels) l_check_labels c_check_labels kp_check_labels).binds (ps := ["labels"]) fun _ _ _ _ _ _ us hl => match us, hl with | [_], _ => rfl,
      g_check_labels := PySem.W.mg_of X G gf_check_labels,
      a_back_machine := a_back_machine,
      d_back_machine := _,
      F_back_machine := fun_mk (st := s_back_machine) l_back_machine c_back_machine kp_back_machine,
      b_back_machine := (fun_mk (st := s_back_machine) l_back_machine c_back_machine kp_back_machine).binds (ps := ["base", "labels"]) fun _ _ _ _ _ _ us hl => match us, hl with | [_, _], _ => rfl,
      g_back_machine := PySem.W.mg_of X G gf_back_machine,
      a_state_behind := a_state_behind,
      d_state_behind := _,
      F_state_behind := fun_mk (st := s_state_behind) l_state_behind c_state_behind kp_state_behind,
      b_state_behind := (fun_mk (st := s_state_behind) l_state_behind c_state_behind kp_state_behind).binds (ps := ["machine", "word"]) fun _ _ _ _ _ _ us hl => match us, hl with | [_, _], _ => rfl,
      g_state_behind := PySem.W.mg_of X G gf_state_behind,
      a_classes := a_classes,
      d_classes := _,
      F_classes := fun_mk (st := s_classes) l_classes c_classes kp_classes,
      b_classes := (fun_mk (st := s_classes) l_classes c_classes kp_classes).binds (ps := ["machine"]) fun _ _ _ _ _ _ us hl => match us, hl with | [_], _ => rfl,
      g_classes := PySem.W.mg_of X G gf_classes,
      a_numbered := a_numbered,
      d_numbered := _,
      F_numbered := fun_mk (st := s_numbered) l_numbered c_numbered kp_numbered,
      b_numbered := (fun_mk (st := s_numbered) l_numbered c_numbered kp_numbered).binds (ps := ["things"]) fun _ _ _ _ _ _ us hl => match us, hl with | [_], _ => rfl,
      g_numbered := PySem.W.mg_of X G gf_numbered,
      a_least_word := a_least_word,
      d_least_word := _,
      F_least_word := fun_mk (st := s_least_word) l_least_word c_least_word kp_least_word,
      b_least_word := (fun_mk (st := s_least_word) l_least_word c_least_word kp_least_word).binds (ps := ["machine", "one", "other"]) fun _ _ _ _ _ _ us hl => match us, hl with | [_, _, _], _ => rfl,
      g_least_word := PySem.W.mg_of X G gf_least_word,
      a__law_taken := a__law_taken,
      d__law_taken := _,
      F__law_taken := fun_mk (st := s__law_taken) l__law_taken c__law_taken kp__law_taken,
      b__law_taken := (fun_mk (st := s__law_taken) l__law_taken c__law_taken kp__law_taken).binds (ps := ["_law_row", "_law_many"]) fun _ _ _ _ _ _ us hl => match us, hl with | [_, _], _ => rfl,
      g__law_taken := PySem.W.mg_of X G gf__law_taken,
      a__law_labels := a__law_labels,
      d__law_labels := _,
      F__law_labels := fun_mk (st := s__law_labels) l__law_labels c__law_labels kp__law_labels,
      b__law_labels := (fun_mk (st := s__law_labels) l__law_labels c__law_labels kp__law_labels).binds (ps := ["_law_row", "_law_most"]) fun _ _ _ _ _ _ us hl => match us, hl with | [_, _], _ => rfl,
      g__law_labels := PySem.W.mg_of X G gf__law_labels,
      a__law_marks := a__law_marks,
      d__law_marks := _,
      F__law_marks := fun_mk (st := s__law_marks) l__law_marks c__law_marks kp__law_marks,
      b__law_marks := (fun_mk (st := s__law_marks) l__law_marks c__law_marks kp__law_marks).binds (ps := ["_law_labels_here", "_law_nexts"]) fun _ _ _ _ _ _ us hl => match us, hl with | [_, _], _ => rfl,
      g__law_marks := PySem.W.mg_of X G gf__law_marks,
      a__law_least_word := a__law_least_word,
      d__law_least_word := _,
      F__law_least_word := fun_mk (st := s__law_least_word) l__law_least_word c__law_least_word kp__law_least_word,
      b__law_least_word := (fun_mk (st := s__law_least_word) l__law_least_word c__law_least_word kp__law_least_word).binds (ps := ["_law_nexts", "_law_marks_here", "_law_one", "_law_other"]) fun _ _ _ _ _ _ us hl => match us, hl with | [_, _, _, _], _ => rfl,
      g__law_least_word := PySem.W.mg_of X G gf__law_least_word,
      a__law_back := a__law_back,
      d__law_back := _,
      F__law_back := fun_mk (st := s__law_back) l__law_back c__law_back kp__law_back,
      b__law_back := (fun_mk (st := s__law_back) l__law_back c__law_back kp__law_back).binds (ps := ["_law_base", "_law_d"]) fun _ _ _ _ _ _ us hl => match us, hl with | [_, _], _ => rfl,
      g__law_back := PySem.W.mg_of X G gf__law_back,
      a__law_read := a__law_read,
      d__law_read := _,
      F__law_read := fun_mk (st := s__law_read) l__law_read c__law_read kp__law_read,
      b__law_read := (fun_mk (st := s__law_read) l__law_read c__law_read kp__law_read).binds (ps := ["_law_nexts", "_law_word"]) fun _ _ _ _ _ _ us hl => match us, hl with | [_, _], _ => rfl,
      g__law_read := PySem.W.mg_of X G gf__law_read,
      a_law := a_law,
      d_law := _,
      F_law := fun_mk (st := s_law) l_law c_law kp_law,
      b_law := (fun_mk (st := s_law) l_law c_law kp_law).binds (ps := ["_law_script"]) fun _ _ _ _ _ _ us hl => match us, hl with | [_], _ => rfl,
      g_law := PySem.W.mg_of X G gf_law,
      n_int := PySem.W.mg_none_of X G z_int,
      n_bool := PySem.W.mg_none_of X G z_bool,
      n_len := PySem.W.mg_none_of X G z_len,
      n_range := PySem.W.mg_none_of X G z_range,
      n_isinstance := PySem.W.mg_none_of X G z_isinstance,
      n_tuple := PySem.W.mg_none_of X G z_tuple,
      n_enumerate := PySem.W.mg_none_of X G z_enumerate,
      n_all := PySem.W.mg_none_of X G z_all,
      n_max := PySem.W.mg_none_of X G z_max,
      n_super := PySem.W.mg_none_of X G z_super,
      n_zip := PySem.W.mg_none_of X G z_zip,
      n_ValueError := PySem.W.mg_none_of X G z_ValueError,
      a_BadFigures___init__ := a_BadFigures___init__,
      x_BadFigures := { gC := PySem.W.mg_of X G gx_BadFigures, cls := ⟨_, _, _, _, _, _, _, _, _, _, _, _, _, _, _, xl_BadFigures___init__, xrb_BadFigures___init__⟩, sa := xsa_BadFigures___init__, ga := xga_BadFigures___init__, gg := xgg_BadFigures___init__, noF := xnf_BadFigures___init__, iC := xic_BadFigures___init__, tC := xtc_BadFigures___init__, kC := k_BadFigures, exC := s_BadFigures, tyC := t_BadFigures, hdC := xhd_BadFigures___init__, up := xup_BadFigures___init__, any := xan_BadFigures___init__, ve := xve_BadFigures___init__, own := xow_BadFigures___init__, sup := PySem.W.mg_none_of X G z_super, main := rmn_BadFigures___init__, fn := ⟨_, _, _, _, _, _, _, _, _, _, _, _, _, _, _, _, _, _, _, xfn_BadFigures___init__, xco_BadFigures___init__, xcd_BadFigures___init__, rvs_BadFigures___init__, rfi_BadFigures___init__, xcc_BadFigures___init__⟩, text := ⟨_, _, _, _, _, _, _, _, _, _, _, rfl, rfl, fun _ => rfl⟩, kS := rfl, kK := rfl, k0 := rfl, kF := rfl, nF := by decide, nD := by decide, noCell := by decide +kernel, bind := fun _ _ _ _ _ _ _ _ _ => rfl, plain := fun _ => rfl, knd := rfl, co := rfl, gen := rfl },
      a_BadRests___init__ := a_BadRests___init__,
      x_BadRests := { gC := PySem.W.mg_of X G gx_BadRests, cls := ⟨_, _, _, _, _, _, _, _, _, _, _, _, _, _, _, xl_BadRests___init__, xrb_BadRests___init__⟩, sa := xsa_BadRests___init__, ga := xga_BadRests___init__, gg := xgg_BadRests___init__, noF := xnf_BadRests___init__, iC := xic_BadRests___init__, tC := xtc_BadRests___init__, kC := k_BadRests, exC := s_BadRests, tyC := t_BadRests, hdC := xhd_BadRests___init__, up := xup_BadRests___init__, any := xan_BadRests___init__, ve := xve_BadRests___init__, own := xow_BadRests___init__, sup := PySem.W.mg_none_of X G z_super, main := rmn_BadRests___init__, fn := ⟨_, _, _, _, _, _, _, _, _, _, _, _, _, _, _, _, _, _, _, xfn_BadRests___init__, xco_BadRests___init__, xcd_BadRests___init__, rvs_BadRests___init__, rfi_BadRests___init__, xcc_BadRests___init__⟩, text := ⟨_, _, _, _, _, _, _, _, _, _, _, rfl, rfl, fun _ => rfl⟩, kS := rfl, kK := rfl, k0 := rfl, kF := rfl, nF := by decide, nD := by decide, noCell := by decide +kernel, bind := fun _ _ _ _ _ _ _ _ _ => rfl, plain := fun _ => rfl, knd := rfl, co := rfl, gen := rfl } })
theorem walk {l : PySem.W.OpenLaw} {q : Program} {loose : List Str} {XP : (Str → Option Value) → Heap → Prop} {YP : World → Heap → Prop} {d : DefRec} {K : Params → PySem.W.Frag} (hn : l.most = some 63) (hdf : d.params.defaults = [])
    (hY : ∀ (w : World) (h : Heap), YP w h → (K w.params).In h)
    (F : ∀ (w : World) (mg : Str → Option Value) (fa : Addr) (h : Heap), (K w.params).In h → h.Ns mainGlobals mg → mg d.name = some (.ref fa) →
      ∃ fd : FuncData, (∀ (s : Shared) (u : Value), BindsTo s fd ⟨[u], []⟩ [("_law_script", u)]) ∧ ∀ base : Heap, (K w.params).In base → base.Ns mainGlobals mg → FnOk l.prog w (K w.params) mg base CX0 lv_law fa fd ["_law_script"] (sp_law (K w.params))) :
    PySem.W.WalkO q loose XP YP l.row.toRowW d [] (fun f vs => PySem.call f vs) :=
  L2.walk_of (n := 63) (k := lv_law) (x := "_law_script") (CX := fun _ => CX0) (sp := fun w => sp_law (K w.params)) hn (by decide) hdf ⟨rfl, by decide, by decide⟩ hY F (fun _ _ a ns hl hO hS => ⟨a, ns, rfl, scr_of hO hS, hl, fun _ => rfl⟩) fun _ _ _ _ _ z => z
end Rt
open PySem PySem.W PyProof.Rows
set_option maxRecDepth 100000 in
set_option maxHeartbeats 0 in
theorem PySem.Challenge.cw_resttricks_k24_whole_back_machines_holds : PySem.Challenge.rw_resttricks_k24_whole_back_machines.Holds := by
  w_on; o_law; k_head; (case hw => w_witness2)
  k_fill
  refine Rt.walk (l := PySem.Challenge.rw_resttricks_k24_whole_back_machines) rfl rfl (fun w h Y => PySem.W.kIn_of Y) ?F
  case F =>
    intro w mg fa h KX G hmg
    refine' Rt.all_mk KX G hmg ?gx_TrickError ?x_TrickError ?k_TrickError ?s_TrickError ?t_TrickError ?gx_BadBase ?x_BadBase ?k_BadBase ?s_BadBase ?t_BadBase ?gx_BadFigures ?k_BadFigures ?s_BadFigures ?t_BadFigures ?gx_BadRests ?k_BadRests ?s_BadRests ?t_BadRests ?cx_LEAST_BASE ?cx_GREATEST_BASE ?cx_MOST_FIGURES ?cx_MOST_LABELS ?cx_GREATEST_LABEL ?gf_is_integer ?l_is_integer ?c_is_integer ?kp_is_integer ?gf_is_tuple ?l_is_tuple ?c_is_tuple ?kp_is_tuple ?gf_first_wrong ?l_first_wrong ?c_first_wrong ?kp_first_wrong ?gf_check_base ?l_check_base ?c_check_base ?kp_check_base ?gf_check_figures ?l_check_figures ?c_check_figures ?kp_check_figures ?gf_back_states ?l_back_states ?c_back_states ?kp_back_states ?gf_back_word ?l_back_word ?c_back_word ?kp_back_word ?gf_check_labels ?l_check_labels ?c_check_labels ?kp_check_labels ?gf_back_machine ?l_back_machine ?c_back_machine ?kp_back_machine ?gf_state_behind ?l_state_behind ?c_state_behind ?kp_state_behind ?gf_classes ?l_classes ?c_classes ?kp_classes ?gf_numbered ?l_numbered ?c_numbered ?kp_numbered ?gf_least_word ?l_least_word ?c_least_word ?kp_least_word ?gf__law_taken ?l__law_taken ?c__law_taken ?kp__law_taken ?gf__law_labels ?l__law_labels ?c__law_labels ?kp__law_labels ?gf__law_marks ?l__law_marks ?c__law_marks ?kp__law_marks ?gf__law_least_word ?l__law_least_word ?c__law_least_word ?kp__law_least_word ?gf__law_back ?l__law_back ?c__law_back ?kp__law_back ?gf__law_read ?l__law_read ?c__law_read ?kp__law_read ?gf_law ?l_law ?c_law ?kp_law ?z_int ?z_bool ?z_len ?z_range ?z_isinstance ?z_tuple ?z_enumerate ?z_all ?z_max ?z_super ?z_zip ?z_ValueError ?xl_BadFigures___init__ ?xrb_BadFigures___init__ ?xsa_BadFigures___init__ ?xga_BadFigures___init__ ?xgg_BadFigures___init__ ?xnf_BadFigures___init__ ?xic_BadFigures___init__ ?xtc_BadFigures___init__ ?xhd_BadFigures___init__ ?xup_BadFigures___init__ ?xan_BadFigures___init__ ?xve_BadFigures___init__ ?xow_BadFigures___init__ ?rmn_BadFigures___init__ ?xfn_BadFigures___init__ ?xco_BadFigures___init__ ?xcd_BadFigures___init__ ?rvs_BadFigures___init__ ?rfi_BadFigures___init__ ?xcc_BadFigures___init__ ?xl_BadRests___init__ ?xrb_BadRests___init__ ?xsa_BadRests___init__ ?xga_BadRests___init__ ?xgg_BadRests___init__ ?xnf_BadRests___init__ ?xic_BadRests___init__ ?xtc_BadRests___init__ ?xhd_BadRests___init__ ?xup_BadRests___init__ ?xan_BadRests___init__ ?xve_BadRests___init__ ?xow_BadRests___init__ ?rmn_BadRests___init__ ?xfn_BadRests___init__ ?xco_BadRests___init__ ?xcd_BadRests___init__ ?rvs_BadRests___init__ ?rfi_BadRests___init__ ?xcc_BadRests___init__
    (case gx_TrickError => k_is)
    (case x_TrickError => k_exc)
    (case k_TrickError => k_is)
    (case s_TrickError => k_is)
    (case t_TrickError => k_is)
    (case gx_BadBase => k_is)
    (case x_BadBase => k_exc)
    (case k_BadBase => k_is)
    (case s_BadBase => k_is)
    (case t_BadBase => k_is)
    (case gx_BadFigures => k_is)
    (case k_BadFigures => k_is)
    (case s_BadFigures => k_is)
    (case t_BadFigures => k_is)
    (case gx_BadRests => k_is)
    (case k_BadRests => k_is)
    (case s_BadRests => k_is)
    (case t_BadRests => k_is)
    (case cx_LEAST_BASE => k_is)
    (case cx_GREATEST_BASE => k_is)
    (case cx_MOST_FIGURES => k_is)
    (case cx_MOST_LABELS => k_is)
    (case cx_GREATEST_LABEL => k_is)
    (case gf_is_integer => k_is)
    (case l_is_integer => k_is)
    (case c_is_integer => k_is)
    (case kp_is_integer => k_is)
    (case gf_is_tuple => k_is)
    (case l_is_tuple => k_is)
    (case c_is_tuple => k_is)
    (case kp_is_tuple => k_is)
    (case gf_first_wrong => k_is)
    (case l_first_wrong => k_is)
    (case c_first_wrong => k_is)
    (case kp_first_wrong => k_is)
    (case gf_check_base => k_is)
    (case l_check_base => k_is)
    (case c_check_base => k_is)
    (case kp_check_base => k_is)
    (case gf_check_figures => k_is)
    (case l_check_figures => k_is)
    (case c_check_figures => k_is)
    (case kp_check_figures => k_is)
    (case gf_back_states => k_is)
    (case l_back_states => k_is)
    (case c_back_states => k_is)
    (case kp_back_states => k_is)
    (case gf_back_word => k_is)
    (case l_back_word => k_is)
    (case c_back_word => k_is)
    (case kp_back_word => k_is)
    (case gf_check_labels => k_is)
    (case l_check_labels => k_is)
    (case c_check_labels => k_is)
    (case kp_check_labels => k_is)
    (case gf_back_machine => k_is)
    (case l_back_machine => k_is)
    (case c_back_machine => k_is)
    (case kp_back_machine => k_is)
    (case gf_state_behind => k_is)
    (case l_state_behind => k_is)
    (case c_state_behind => k_is)
    (case kp_state_behind => k_is)
    (case gf_classes => k_is)
    (case l_classes => k_is)
    (case c_classes => k_is)
    (case kp_classes => k_is)
    (case gf_numbered => k_is)
    (case l_numbered => k_is)
    (case c_numbered => k_is)
    (case kp_numbered => k_is)
    (case gf_least_word => k_is)
    (case l_least_word => k_is)
    (case c_least_word => k_is)
    (case kp_least_word => k_is)
    (case gf__law_taken => k_is)
    (case l__law_taken => k_is)
    (case c__law_taken => k_is)
    (case kp__law_taken => k_is)
    (case gf__law_labels => k_is)
    (case l__law_labels => k_is)
    (case c__law_labels => k_is)
    (case kp__law_labels => k_is)
    (case gf__law_marks => k_is)
    (case l__law_marks => k_is)
    (case c__law_marks => k_is)
    (case kp__law_marks => k_is)
    (case gf__law_least_word => k_is)
    (case l__law_least_word => k_is)
    (case c__law_least_word => k_is)
    (case kp__law_least_word => k_is)
    (case gf__law_back => k_is)
    (case l__law_back => k_is)
    (case c__law_back => k_is)
    (case kp__law_back => k_is)
    (case gf__law_read => k_is)
    (case l__law_read => k_is)
    (case c__law_read => k_is)
    (case kp__law_read => k_is)
    (case gf_law => k_is)
    (case l_law => k_is)
    (case c_law => k_is)
    (case kp_law => k_is)
    (case z_int => k_is)
    (case z_bool => k_is)
    (case z_len => k_is)
    (case z_range => k_is)
    (case z_isinstance => k_is)
    (case z_tuple => k_is)
    (case z_enumerate => k_is)
    (case z_all => k_is)
    (case z_max => k_is)
    (case z_super => k_is)
    (case z_zip => k_is)
    (case z_ValueError => k_is)
    (case xl_BadFigures___init__ => k_is)
    (case xrb_BadFigures___init__ => first | rfl | decide +kernel)
    (case xsa_BadFigures___init__ => k_is)
    (case xga_BadFigures___init__ => k_is)
    (case xgg_BadFigures___init__ => k_is)
    (case xnf_BadFigures___init__ => k_is)
    (case xic_BadFigures___init__ => k_is)
    (case xtc_BadFigures___init__ => k_is)
    (case xhd_BadFigures___init__ => k_is)
    (case xup_BadFigures___init__ => ks_is)
    (case xan_BadFigures___init__ => k_is)
    (case xve_BadFigures___init__ => k_is)
    (case xow_BadFigures___init__ => k_is)
    (case rmn_BadFigures___init__ => first | rfl | decide +kernel)
    (case xfn_BadFigures___init__ => k_is)
    (case xco_BadFigures___init__ => k_is)
    (case xcd_BadFigures___init__ => k_is)
    (case rvs_BadFigures___init__ => first | rfl | decide +kernel)
    (case rfi_BadFigures___init__ => first | rfl | decide +kernel)
    (case xcc_BadFigures___init__ => k_is)
    (case xl_BadRests___init__ => k_is)
    (case xrb_BadRests___init__ => first | rfl | decide +kernel)
    (case xsa_BadRests___init__ => k_is)
    (case xga_BadRests___init__ => k_is)
    (case xgg_BadRests___init__ => k_is)
    (case xnf_BadRests___init__ => k_is)
    (case xic_BadRests___init__ => k_is)
    (case xtc_BadRests___init__ => k_is)
    (case xhd_BadRests___init__ => k_is)
    (case xup_BadRests___init__ => ks_is)
    (case xan_BadRests___init__ => k_is)
    (case xve_BadRests___init__ => k_is)
    (case xow_BadRests___init__ => k_is)
    (case rmn_BadRests___init__ => first | rfl | decide +kernel)
    (case xfn_BadRests___init__ => k_is)
    (case xco_BadRests___init__ => k_is)
    (case xcd_BadRests___init__ => k_is)
    (case rvs_BadRests___init__ => first | rfl | decide +kernel)
    (case rfi_BadRests___init__ => first | rfl | decide +kernel)
    (case xcc_BadRests___init__ => k_is)
#print axioms PySem.Challenge.cw_resttricks_k24_whole_back_machines_holds
