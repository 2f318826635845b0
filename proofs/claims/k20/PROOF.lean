import PyProof.Rows.All
import Wide.All
import OpenK.AllK
import Wide.FinOn
import HandS.ForMost
import HandS.Exc
import HandS.TryOnly
import HandS.ExcOwn
import HandS.WordsExc
import HandS.TryMany
import HandS.IsInst
import HandS.Property
import HandS.Wide
import HandS.SortInts
import HandS.Conv
import HandS.Evl
import HandS.NoneIn
import HandS.ExcIs
import HandS.ExcSuper
import KE.KExcSuper
import KE.KExcInit
import KE.GoesMore
import HandS.Rev
import HandS.FStr
import HandS.Walk
import HandS.WideMore
import HandS.TupAny
import HandS.TupMul
import HandS.Style
import HandS.SetFor
import HandS.Strs
import HandS.Defaults
import HandS.RaiseMore
import HandS.Zip
import HandS.DictTup
import HandS.TupLen
import KE.KDictDisplayH
import HandS.Records
import KE.KDictOf
import KE.KDictCopyH
import PySem.Challenge.RW_resttricks_k20_whole_multiples_of_sums
set_option Elab.async false
set_option linter.all false
set_option maxRecDepth 100000
set_option maxHeartbeats 2000000
namespace Rt
open PySem L2 PySem.Spec PyProof.Rows
/-! ### the text by places -/
def topS (i : Nat) : Stmt := PySem.Challenge.pw_resttricks_k20_whole_multiples_of_sums.main.body.getD i (.Pass ⟨0, 0, 0, 0⟩)
abbrev s_is_integer : Stmt := topS 12
abbrev s_is_tuple : Stmt := topS 13
abbrev s_first_wrong : Stmt := topS 14
abbrev s_check_base : Stmt := topS 15
abbrev s_check_take : Stmt := topS 16
abbrev s_check_divisor : Stmt := topS 17
abbrev s_block_of : Stmt := topS 19
abbrev s_sum_fails : Stmt := topS 25
abbrev s_check_weights : Stmt := topS 26
abbrev s_check_sum : Stmt := topS 27
abbrev s_sum_block : Stmt := topS 28
abbrev s_weight_at : Stmt := topS 29
abbrev s_power_rests : Stmt := topS 30
abbrev s_turn : Stmt := topS 31
abbrev s_new_rests : Stmt := topS 32
abbrev s__law_taken : Stmt := topS 34
abbrev s__law_power : Stmt := topS 35
abbrev s__law_sum : Stmt := topS 36
abbrev s__law_weight : Stmt := topS 37
abbrev s_law : Stmt := topS 38
abbrev s_BadWeights___init__ : Stmt := inClass (topS 5) 0
abbrev s_Sum___init__ : Stmt := inClass (topS 24) 0
abbrev s_Sum_base : Stmt := inClass (topS 24) 1
abbrev s_Sum_take : Stmt := inClass (topS 24) 2
abbrev s_Sum_first : Stmt := inClass (topS 24) 3
abbrev s_Sum_loop : Stmt := inClass (topS 24) 4
abbrev s_Sum___eq__ : Stmt := inClass (topS 24) 5
theorem sc_is_integer : FnScope ["told", "low", "high"] ["told", "low", "high"] (defScope s_is_integer) := ⟨rfl, rfl, rfl, by decide +kernel, rfl, by decide +kernel, by decide +kernel⟩
abbrev lv_is_integer : Nat := 1
theorem sc_is_tuple : FnScope ["told", "fewest", "most"] ["told", "fewest", "most"] (defScope s_is_tuple) := ⟨rfl, rfl, rfl, by decide +kernel, rfl, by decide +kernel, by decide +kernel⟩
abbrev lv_is_tuple : Nat := 1
theorem sc_first_wrong : FnScope ["told", "low", "high", "index", "thing"] ["told", "low", "high"] (defScope s_first_wrong) := ⟨rfl, rfl, rfl, by decide +kernel, rfl, by decide +kernel, by decide +kernel⟩
abbrev lv_first_wrong : Nat := 2
theorem sc_check_base : FnScope ["base"] ["base"] (defScope s_check_base) := ⟨rfl, rfl, rfl, by decide +kernel, rfl, by decide +kernel, by decide +kernel⟩
abbrev lv_check_base : Nat := 2
theorem sc_check_take : FnScope ["take"] ["take"] (defScope s_check_take) := ⟨rfl, rfl, rfl, by decide +kernel, rfl, by decide +kernel, by decide +kernel⟩
abbrev lv_check_take : Nat := 2
theorem sc_check_divisor : FnScope ["d", "greatest"] ["d", "greatest"] (defScope s_check_divisor) := ⟨rfl, rfl, rfl, by decide +kernel, rfl, by decide +kernel, by decide +kernel⟩
abbrev lv_check_divisor : Nat := 2
theorem sc_block_of : FnScope ["base", "take"] ["base", "take"] (defScope s_block_of) := ⟨rfl, rfl, rfl, by decide +kernel, rfl, by decide +kernel, by decide +kernel⟩
abbrev lv_block_of : Nat := 1
theorem sc_sum_fails : FnScope ["told", "d", "block", "least", "place", "power", "idle", "most_idle", "new", "rest", "made", "n"] ["told", "d"] (defScope s_sum_fails) := ⟨rfl, rfl, rfl, by decide +kernel, rfl, by decide +kernel, by decide +kernel⟩
abbrev lv_sum_fails : Nat := 5
theorem sc_check_weights : FnScope ["told", "fewest", "index"] ["told", "fewest"] (defScope s_check_weights) := ⟨rfl, rfl, rfl, by decide +kernel, rfl, by decide +kernel, by decide +kernel⟩
abbrev lv_check_weights : Nat := 3
theorem sc_check_sum : FnScope ["told"] ["told"] (defScope s_check_sum) := ⟨rfl, rfl, rfl, by decide +kernel, rfl, by decide +kernel, by decide +kernel⟩
abbrev lv_check_sum : Nat := 1
theorem sc_sum_block : FnScope ["told"] ["told"] (defScope s_sum_block) := ⟨rfl, rfl, rfl, by decide +kernel, rfl, by decide +kernel, by decide +kernel⟩
abbrev lv_sum_block : Nat := 3
theorem sc_weight_at : FnScope ["told", "place", "further"] ["told", "place"] (defScope s_weight_at) := ⟨rfl, rfl, rfl, by decide +kernel, rfl, by decide +kernel, by decide +kernel⟩
abbrev lv_weight_at : Nat := 3
theorem sc_power_rests : FnScope ["block", "d", "rests", "rest", "again"] ["block", "d"] (defScope s_power_rests) := ⟨rfl, rfl, rfl, by decide +kernel, rfl, by decide +kernel, by decide +kernel⟩
abbrev lv_power_rests : Nat := 1
theorem sc_turn : FnScope ["told", "d", "before", "again"] ["told", "d"] (defScope s_turn) := ⟨rfl, rfl, rfl, by decide +kernel, rfl, by decide +kernel, by decide +kernel⟩
abbrev lv_turn : Nat := 4
theorem sc_new_rests : FnScope ["least", "block", "power", "weight", "d", "new", "many", "known", "rest", "made", "n", "pair"] ["least", "block", "power", "weight", "d"] (defScope s_new_rests) := ⟨rfl, rfl, rfl, by decide +kernel, rfl, by decide +kernel, by decide +kernel⟩
abbrev lv_new_rests : Nat := 1
theorem sc__law_taken : FnScope ["_law_row", "_law_many", "_law_found", "_law_cell"] ["_law_row", "_law_many"] (defScope s__law_taken) := ⟨rfl, rfl, rfl, by decide +kernel, rfl, by decide +kernel, by decide +kernel⟩
abbrev lv__law_taken : Nat := 1
theorem sc__law_power : FnScope ["_law_base", "_law_many", "_law_found", "_law_turn"] ["_law_base", "_law_many"] (defScope s__law_power) := ⟨rfl, rfl, rfl, by decide +kernel, rfl, by decide +kernel, by decide +kernel⟩
abbrev lv__law_power : Nat := 1
theorem sc__law_sum : FnScope ["_law_row", "_law_d", "_law_base", "_law_take", "_law_block", "_law_kind", "_law_first", "_law_loop", "_law_some", "_law_rest", "_law_at", "_law_unit", "_law_k", "_law_weight_here"] ["_law_row", "_law_d"] (defScope s__law_sum) := ⟨rfl, rfl, rfl, by decide +kernel, rfl, by decide +kernel, by decide +kernel⟩
abbrev lv__law_sum : Nat := 2
theorem sc__law_weight : FnScope ["_law_told", "_law_at"] ["_law_told", "_law_at"] (defScope s__law_weight) := ⟨rfl, rfl, rfl, by decide +kernel, rfl, by decide +kernel, by decide +kernel⟩
abbrev lv__law_weight : Nat := 1
theorem sc_law : FnScope ["_law_script", "_law_line", "_law_d", "_law_told", "_law_block", "_law_unit", "_law_at", "_law_pairs", "_law_fails_at", "_law_quiet", "_law_weight_here", "_law_more", "_law_rest", "_law_other", "_law_figure", "_law_fail"] ["_law_script"] (defScope s_law) := ⟨rfl, rfl, rfl, by decide +kernel, rfl, by decide +kernel, by decide +kernel⟩
abbrev lv_law : Nat := 7
theorem sc_Sum___init__ : FnScope ["self", "base", "take", "first", "loop"] ["self", "base", "take", "first", "loop"] (defScope s_Sum___init__) := ⟨rfl, rfl, rfl, by decide +kernel, rfl, by decide +kernel, by decide +kernel⟩
abbrev lv_Sum___init__ : Nat := 4
theorem sc_Sum_base : FnScope ["self"] ["self"] (defScope s_Sum_base) := ⟨rfl, rfl, rfl, by decide +kernel, rfl, by decide +kernel, by decide +kernel⟩
abbrev lv_Sum_base : Nat := 1
theorem sc_Sum_take : FnScope ["self"] ["self"] (defScope s_Sum_take) := ⟨rfl, rfl, rfl, by decide +kernel, rfl, by decide +kernel, by decide +kernel⟩
abbrev lv_Sum_take : Nat := 1
theorem sc_Sum_first : FnScope ["self"] ["self"] (defScope s_Sum_first) := ⟨rfl, rfl, rfl, by decide +kernel, rfl, by decide +kernel, by decide +kernel⟩
abbrev lv_Sum_first : Nat := 1
theorem sc_Sum_loop : FnScope ["self"] ["self"] (defScope s_Sum_loop) := ⟨rfl, rfl, rfl, by decide +kernel, rfl, by decide +kernel, by decide +kernel⟩
abbrev lv_Sum_loop : Nat := 1
theorem sc_Sum___eq__ : FnScope ["self", "other"] ["self", "other"] (defScope s_Sum___eq__) := ⟨rfl, rfl, rfl, by decide +kernel, rfl, by decide +kernel, by decide +kernel⟩
abbrev lv_Sum___eq__ : Nat := 1
/-! ### what is known of the top behind its run -/
/-! ### an own error whose __init__ says super().__init__(text); self.F = F -/
end Rt
namespace ErrX
open PySem PySem.W PySem.Calls PyProof.Rows PySem.HandSPX
/-- what the written part says of such a class at C, its field F, its __init__ at fI -/
structure ErrTxt (P : Program) (K : Frag) (mg : Str → Option Value) (x fld : Str) (C fI : Addr) (ae : PySem.Expr) (st : Stmt) : Prop where
  gC : mg x = some (.ref C)
  cls : ∃ nm q N bs bm sn sub ab col dd k0 k1 k2 k3 k5, K.lookup C = some (excClassObj nm q C N bs bm true sn sub ab col dd k0 k1 k2 k3 k5 "ValueError.__new__") ∧ refsVE bm = true
  sa : findIn K (.ref C) "__setattr__" = some (some (.builtin "object.__setattr__"))
  ga : findIn K (.ref C) "__getattribute__" = some (some (.builtin "BaseException.__getattribute__"))
  gg : findIn K (.ref C) "__getattr__" = some none
  noF : findIn K (.ref C) fld = some none
  iC : findIn K (.ref C) "__init__" = some (some (.ref fI))
  tC : typeIn K (.ref fI) = some (.type "function")
  kC : keepIn K (.ref C) = true
  exC : subIn K (.ref C) (.type "BaseException") = some true
  tyC : typeIn K (.ref C) = some (.type "type")
  hdC : hasDictIn K C = true
  up : ks_superIn K C C "__init__" = some (some (.builtin "ValueError.__init__"))
  any : nsIn K cStatics "thirdparty.any" = some none
  ve : subIn K (.ref C) (.type "ValueError") = some true
  own : mroIn K C (.ref C) = some true
  sup : mg "super" = none
  main : (P.main.scope.names.lookup ("super" : Str)).isSome = false
  fn : ∃ (oc : Value) (od : Option Addr) (doc pm : Value) (an : Option Addr) (cda : Addr) (ct : Value) (osl : Array (Option Value)) (cc : Addr) (vs : Array Value) (file : Str) (tf : Tok) (ccl cl : Value) (cdd cld : Option Addr) (ccs csl : Array (Option Value)) (qual : Str),
    K.lookup fI = some ⟨oc, od, .func (ksFn "__init__" qual (L2.defArgs st) (L2.defBody st) (L2.defScope st) .none .none doc pm an (.ref cda) ct cc), osl⟩ ∧ codeIn K (.ref cda) qual = true ∧
    K.lookup cda = some ⟨ccl, cdd, .fields vs, ccs⟩ ∧ vs[2]? = some (.str file tf) ∧ ((P.main.file : Str) == file) = true ∧ K.lookup cc = some ⟨cl, cld, .cell (some (.ref C)), csl⟩
  text : ∃ (p0 p1 p2 p3 p4 q1 q2 q3 q4 a1 a2 : Pos), L2.defBody st = [.Expr (.Call (.Attribute (.Call (.Name "super" p0) [] [] p1) "__init__" p2) [ae] [] p3) p4, .Assign [.Attribute (.Name "self" q1) fld q2] (.Name fld q3) q4] ∧
    L2.defArgs st = { posonlyargs := [], args := [{ arg := "self", annotation := none, pos := a1 }, { arg := fld, annotation := none, pos := a2 }], vararg := none, kwonlyargs := [], kw_defaults := [], kwarg := none, defaults := [] } ∧
    ∀ env : Env, eval (.Call (.Attribute (.Call (.Name "super" p0) [] [] p1) "__init__" p2) [ae] [] p3) env = (do
      let ov ← attributeBase (.Call (.Name "super" p0) [] [] p1) "__init__" env (eval (.Call (.Name "super" p0) [] [] p1) env)
      standAt p2.atName
      let (f, first) ← holding [ov] (getMethod ov "__init__" (do return (← importBound (.Call (.Name "super" p0) [] [] p1) env).getD true))
      callWith p3 f first (backTo p3 (starEach [ae] env)) [])
  kS : (L2.defScope st).names.lookup ("super" : Str) = some .globalImplicit
  kK : (L2.defScope st).names.lookup ("__class__" : Str) = some .free
  k0 : (L2.defScope st).names.lookup ("self" : Str) = some .local
  kF : (L2.defScope st).names.lookup fld = some .local
  nF : (("self" : Str) == fld) = false
  nD : (fld == ("__debug__" : Str)) = false
  noCell : ∀ y ∈ (L2.defScope st).names, y.2 ≠ .cell
  bind : ∀ (qual : Str) (doc pm : Value) (an : Option Addr) (cda : Addr) (ct : Value) (cc : Addr) (u v : Value), bindArgs (ksFn "__init__" qual (L2.defArgs st) (L2.defBody st) (L2.defScope st) .none .none doc pm an (.ref cda) ct cc) ⟨[u, v], []⟩ = pure [(("self" : Str), u), (fld, v)]
  plain : ∀ env : Env, starEach (ae :: []) env = (false, eval ae env) :: starEach [] env
  knd : (L2.defScope st).kind = .function
  co : (L2.defScope st).isCoroutine = false
  gen : (L2.defScope st).isGenerator = false
/-- what __init__ leaves of a fresh error at x -/
structure EndOf (h h' : Heap) (x C dx t1 : Addr) (fld : Str) (v : Value) : Prop where
  keep : ∀ b o, b ≠ x → h.get? b = some o → h'.get? b = some o
  obj : h'.get? x = some { cls := .ref C, dict := some dx, data := .fields #[.ref t1, .none, .none, .none, .bool false, .none] }
  dbig : h.objs.size ≤ dx
  dne : dx ≠ x
  ns : h'.Ns1 dx (fun y => if y = fld then some v else none)
/-- the argument of super().__init__ is a text, whatever the field is -/
def ArgOk (prog : Program) (w : World) (ae : PySem.Expr) (fld : Str) (v : Value) : Prop := ∀ (env : Env) (m : Str → Option Value) (A : Around) (Q : Value → Shared → Prop) (E : Value → Shared → Prop) (s : Shared), s.heap.Ns env.locals m → m fld = some v → env.scope.kind = .function → env.kindOf fld = some .local →
  (∀ z t tk, Q (.str z t) { s with toks := tk }) → wpAny (model prog w) A (eval ae env) Q E s
theorem argOk_const {prog : Program} {w : World} {ae : PySem.Expr} {fld : Str} {v : Value} {z : Str} {k : Nat} {pos : Pos} (h : ae = .Constant (.str z) k pos) : ArgOk prog w ae fld v := by
  intro env m A Q E s _ _ _ _ hq
  rw [h]
  exact wpAny_Constant_str (hq _ _ _)
/-- None, or an int whose text is short -/
def NoneInt (v : L2.V) : Prop := v = .non ∨ ∃ i : Int, v = .int i ∧ i.natAbs.log2 < 1920
theorem argOk_f {prog : Program} {w : World} {ae : PySem.Expr} {fld : Str} {v : L2.V} {u : Value} {z : Str} {k : Nat} {p1 p2 p3 p4 : Pos} (n : NoneInt v) (r : L2.RelV v u)
    (h : ae = .JoinedStr [.Constant (.str z) k p1, .FormattedValue (.Name fld p2) (-1) none p3] p4 := by rfl) (hz : z.length ≤ 1000 := by decide) (hd : (fld == ("__debug__" : Str)) = false := by decide) : ArgOk prog w ae fld u := by
  intro env m A Q E s hn hv hk hl hq
  rw [h]
  have e0 : evalEach [.Constant (.str z) k p1, .FormattedValue (.Name fld p2) (-1) none p3] env = [eval (.Constant (.str z) k p1) env, eval (.FormattedValue (.Name fld p2) (-1) none p3) env] := by first | rfl | simp [evalEach]
  refine wpAny_JoinedStr ?_
  rw [e0]
  refine wpAny_Constant_str ?_
  have l0 : (Str.empty ++ z).length ≤ 1000 := by
    rw [Str.length_append]
    exact Nat.le_trans (Nat.le_of_eq (Nat.zero_add _)) hz
  refine ⟨z, _, rfl, Nat.le_trans l0 (by rw [sizeLine_eq]; decide), ?_⟩
  refine wpAny_FormattedValue_plain (wpAny_Name (wpAny_loadName_local hk hl hn hv ?_) hd)
  rcases n with rfl | ⟨i, rfl, hi⟩
  · cases r
    refine wpAny_formatField_none ⟨"None", _, rfl, ?_, ?_⟩
    · rw [Str.length_append, sizeLine_eq]
      have e : ("None" : Str).length = 4 := by decide
      omega
    · refine ⟨?_, hq _ _ _⟩
      rw [Str.length_append, sizeLine_eq]
      have e : ("None" : Str).length = 4 := by decide
      omega
  · obtain ⟨t, rfl⟩ := r
    refine wpAny_formatField_int hi ⟨_, _, rfl, ?_, ?_⟩
    · rw [Str.length_append, sizeLine_eq]
      have e := int_text_length_le (k := 1920) (by decide) hi
      have e2 : (Str.ofString (toString i)).length = (toString i).length := PySem.ofString_length _
      omega
    · refine ⟨?_, hq _ _ _⟩
      rw [Str.length_append, sizeLine_eq]
      have e := int_text_length_le (k := 1920) (by decide) hi
      have e2 : (Str.ofString (toString i)).length = (toString i).length := PySem.ofString_length _
      omega
/-- the argument of super().__init__ in the text of an __init__ -/
def aeOf (st : Stmt) : PySem.Expr := match L2.defBody st with
  | .Expr (.Call _ (a :: _) _ _) _ :: _ => a
  | _ => .Name "self" ⟨0, 0, 0, 0⟩
section
variable {prog : Program} {w : World} {A : Around} {E : Value → Shared → Prop} {hp : Heap} {g : Array GenState} {d : Drawn} {tk : Nat} {os : OsState}
/-- the bound __init__ of the base, called: the args are laid anew -/
theorem base_init {nm q : Str} {C N u e t0 : Addr} {bs bm : List Value} {sn : List Str} {sub : List Value} {ab : Bool} {col : Option Bool} {dd : Option Addr} {k0 k1 k2 k3 k5 : Option Value} {rest : List Value} {Q : Value → Shared → Prop}
    (hC : hp.get? C = some (excClassObj nm q C N bs bm true sn sub ab col dd k0 k1 k2 k3 k5 "ValueError.__new__")) (he : hp.get? e = some (excO C t0)) (hu : hp.get? u = some (kxs_mw "ValueError.__init__" e)) (hz : rest.length ≤ sizeLine)
    (k : ∀ h' t1, (∀ b o, b ≠ e → hp.get? b = some o → h'.get? b = some o) → h'.get? e = some (excO C t1) → Q .none ⟨h', g, d, tk, os⟩) : wpAny (model prog w) A (call (.ref u) rest) Q E ⟨hp, g, d, tk, os⟩ := by
  refine wpAny_call (codeAny_of_tree ?_)
  show wpAny _ A.in1 (callAny (.ref u) { pos := rest }) _ _ _
  unfold callAny
  refine wpAny_bind (wpAny_load hu ?_)
  have c1 : (Value.type "method-wrapper" == Value.type "method" || Value.type "method-wrapper" == Value.type "builtin_function_or_method" ||
    Value.type "method-wrapper" == Value.type "method-wrapper") = true := by decide
  simp only [kxs_mw, c1, if_true]
  refine KFB.if_so (by decide) (wpAny_bind (ESX.check_bound F.excBase_ValueError hC he rfl (wpAny_bind (wpAny_pure (wpAny_pure ?_)))))
  have FB := F.excBase_ValueError
  refine ⟨plainId_quiet FB.init.plain _, codeAny_builtin FB.initEntry ?_⟩
  rw [Around.under_plainId FB.init.plain _]
  wp_walk
  refine k _ hp.objs.size (fun b o n z => ?_) ?_
  · rw [Heap.get?_update_other _ _ (Ne.symm n)]
    exact Heap.get?_push_of_some _ z
  · rw [Heap.get?_update_self _ (Heap.get?_push_of_some _ he) rfl]
    rfl
theorem call_bound1 {M : Model} {s : Shared} {pos : Pos} {u b : Addr} {env : Env} {ae : PySem.Expr} {i : String} {Q : Value → Shared → Prop} (hpl : starEach (ae :: []) env = (false, eval ae env) :: starEach [] env)
    (h : wpAny M A (eval ae env) (fun v s₁ => KxsAt i u b s₁.heap ∧ wpAny M A (call (.ref u) [v]) Q E s₁) E s) : wpAny M A (callWith pos (.ref u) [] (backTo pos (starEach [ae] env)) []) Q E s := by
  have q : wpAny M A (spliced (backTo pos (starEach (ae :: []) env))) (fun vs s₁ => KxsAt i u b s₁.heap ∧ wpAny M A (call (.ref u) vs) Q E s₁) E s := args_cons (he := hpl) (wpAny_mono h (fun v s₁ z => wpAny_of_eq rfl z) fun _ _ z => z)
  rw [hpl] at q ⊢
  exact kxs_callWith (x := b) rfl (evalArgs_plain q)
theorem err_init {R : Result → Shared → Prop} {K : Frag} {mg mb : Str → Option Value} {x fld : Str} {C fI e t0 : Addr} {ae : PySem.Expr} {st : Stmt} {v : Value} (T : ErrTxt prog K mg x fld C fI ae st) (hA : ArgOk prog w ae fld v)
    (X : K.In hp) (hlim : hp.NoLimit) (hg : hp.Ns mainGlobals mg) (hb : hp.Ns builtinsNs mb) (hbb : ∀ y : Str, y ≠ "__name__" → mb y = bootBuiltins y) (he : hp.get? e = some (excO C t0)) (hne : K.lookup e = none) (hroom : A.depth < recursionLimit)
    (hq : ∀ h' tk dx t1, EndOf hp h' e C dx t1 fld v → R (.ok (.ret .none)) ⟨h', g, d, tk, os⟩) : codeAny (model prog w) A (.call (.ref fI) ⟨[.ref e, v], []⟩) R ⟨hp, g, d, tk, os⟩ := by
  obtain ⟨oc, od, doc, pm, an, cda, ct, osl, cc, vs, file, tf, ccl, cl, cdd, cld, ccs, csl, qual, lf, lc, lda, lvs, lfile, lcc⟩ := T.fn
  obtain ⟨p0, p1, p2, p3, p4, q1, q2, q3, q4, a1, a2, hB, hArgs, hcallE⟩ := T.text
  obtain ⟨nm, qn, N, bs, bm, sn, sub, ab, col, dd, k0, k1, k2, k3, k5, lC, hbm⟩ := T.cls
  have hcl : clsIn K C = some { name := nm, bases := bs, mro := .ref C :: bm, ns := N, qualname := qn, hasDict := true, slotNames := sn, subclasses := sub, abstract := ab, collection := col, hasDel := false } := by
    unfold clsIn
    rw [lC]
    all_goals rfl
  have hbind := T.bind qual doc pm an cda ct cc (.ref e) v
  rw [hB, hArgs] at lf hbind
  have neC : e ≠ C := fun z => by
    rw [z, lC] at hne
    cases hne
  refine ks_codeAny_call_defAt (binds := [("self", .ref e), (fld, v)]) hroom (X _ _ lf) rfl hlim (codeRec_of X lc) rfl (BindsTo.of_eq hbind) T.noCell ?_ (fun h1 hns keep => ?_) T.co T.gen T.knd
  · intro y hy
    rcases List.mem_cons.mp hy with z | hy
    · rw [z]; exact T.k0
    · rcases List.mem_cons.mp hy with z | hy
      · rw [z]; exact T.kF
      · cases hy
  have hint : ∀ env : Env, env.scope = L2.defScope st → interactive env = false := fun env z => by
    unfold interactive
    rw [z, T.knd]
    rfl
  have X1 : K.In h1 := X.keeps keep
  have he1 := keep _ _ he
  have m0 : ([("self", Value.ref e), (fld, v)] : List (Str × Value)).reverse.lookup ("self" : Str) = some (.ref e) := by
    show List.lookup ("self" : Str) [(fld, v), (("self" : Str), Value.ref e)] = some (.ref e)
    rw [List.lookup_cons, T.nF]
    rfl
  have mF : ([("self", Value.ref e), (fld, v)] : List (Str × Value)).reverse.lookup fld = some v := by
    show List.lookup fld [(fld, v), (("self" : Str), Value.ref e)] = some v
    rw [List.lookup_cons, beq_self_eq_true]
  obtain ⟨oD, hD1, hD2⟩ : ∃ oD : Obj, h1.get? C = some oD ∧ oD.data = .cls { name := nm, bases := bs, mro := .ref C :: bm, ns := N, qualname := qn, hasDict := true, slotNames := sn, subclasses := sub, abstract := ab, collection := col, hasDel := false } := ⟨_, X1 _ _ lC, rfl⟩
  refine ks_wpAt_execs_cons (ks_wpAt_Expr_any (hi := hint _ rfl) (ks_wpAt_MethodCall (he := hcallE _) (ks_wpAt_super_base T.kS T.kK (by decide) rfl (X1 _ _ lf) rfl rfl rfl (X1 _ _ lda) rfl lvs lfile T.main ?_)))
  refine ks_loadName_global T.knd T.kS (Calls.loadGlobal_builtin (hg.keeps keep) T.sup (hb.keeps keep) ((hbb _ (by decide +kernel)).trans (show bootBuiltins "super" = some (.type "super") by kernel_rfl)) ⟨rfl, ?_⟩)
  refine wpAny_loadName_free T.knd T.kK rfl ⟨_, X1 _ _ lcc, rfl⟩ ?_
  refine wpAny_loadName_local T.knd T.k0 hns m0 ?_
  refine ks_wpAny_isType_cls hD1 hD2 ⟨rfl, ?_⟩
  refine ks_wpAny_call_super hD1 hD2 he1 rfl (fun c z => by cases z) (looks_mroIn X1 T.own) (fun h2 hso k2 => ?_)
  have X2 : K.In h2 := X1.keeps k2
  have he2 := k2 _ _ he1
  have hup : alongIn K "__init__" (List.drop 1 (List.dropWhile (fun (z : Value) => z != Value.ref C) (.ref C :: bm))) = some (some (.builtin "ValueError.__init__")) := by
    have z := T.up
    unfold ks_superIn at z
    rw [hcl] at z
    exact z
  have I2 : InstAt h2 e (excO C t0) C none := ⟨he2, rfl, rfl, trivial⟩
  refine kxs_getMethod kxs_ValueError hso (looks_opaque X2 T.any) (l₀ := .ref C :: bm) (fun A Q E s k q => wpAny_bind ((looks_clsIn X2 hcl) A _ E s k (wpAny_pure q))) rfl X2 hup (I2.type.andThen (looks_subIn X2 T.ve)) neC (by decide) ?_
  have k3 : ∀ b o, h2.get? b = some o → (h2.push (kxs_mw "ValueError.__init__" e)).get? b = some o := fun b o z => Heap.get?_push_of_some _ z
  have k13 : ∀ b o, h1.get? b = some o → (h2.push (kxs_mw "ValueError.__init__" e)).get? b = some o := fun b o z => k3 _ _ (k2 _ _ z)
  have hn3 := hns.keeps k13
  refine call_bound1 (i := "ValueError.__init__") (b := e) (T.plain _) ?_
  refine hA _ _ _ _ _ _ hn3 mF T.knd T.kF fun z t tk => ⟨Heap.get?_push_at rfl rfl, ?_⟩
  refine base_init (X2.keeps k3 _ _ lC) (k3 _ _ he2) (Heap.get?_push_at rfl rfl) (by rw [sizeLine_eq]; exact Nat.le_of_ble_eq_true rfl) fun h4 t1 k4 he4 => ?_
  have X4 : K.In h4 := fun b o z => k4 _ _ (fun y => by rw [y, hne] at z; cases z) (X2.keeps k3 b o z)
  have hLe : hp.objs.size ≠ e := Nat.ne_of_gt (Heap.lt_size he)
  have hn4 : h4.Ns hp.objs.size (fun y => List.lookup y ([(("self" : Str), Value.ref e), (fld, v)] : List (Str × Value)).reverse) := by
    obtain ⟨oL, es, ep, hL, r⟩ := hn3
    exact ⟨oL, es, ep, k4 _ _ hLe hL, r⟩
  -- self.F = F
  refine wpAt_of_wpAny (wpAny_execs_cons (plainObj_wpAny_Assign_Attribute ?_))
  refine ESX.ldL hn4 mF (ESX.ldL hn4 m0 ?_ T.knd T.k0) T.knd T.kF T.nD
  refine set_plain X4 (ox := excO C t1) (od := none) ⟨he4, rfl, rfl, trivial⟩ T.sa ?_
  refine exc_osa X4 he4 hcl (show refsVE (.ref C :: bm) = true from hbm) rfl T.noF (fun h5 tk5 dx k5' dn dne he5 hn5 => ?_)
  have z : hp.objs.size ≤ dx := Nat.le_trans (Nat.le_of_lt (Nat.lt_of_lt_of_le hn4.lt (Nat.le_refl _))) dn
  exact wpAny_execs_nil (hq h5 tk5 dx t1 ⟨fun b o hbe y => k5' b o hbe (k4 b o hbe (k3 b o (k2 b o (keep b o y)))), he5, z, dne, hn5⟩)
/-- a made error -/
structure Made (h h' : Heap) (e C d : Addr) (fld : Str) (v : Value) : Prop where
  keep : ∀ b o, h.get? b = some o → h'.get? b = some o
  new : h.objs.size ≤ e
  obj : ∃ oe vs, h'.get? e = some oe ∧ oe.cls = .ref C ∧ oe.dict = some d ∧ oe.data = .fields vs ∧ vs[1]? = some .none
  dbig : h.objs.size ≤ d
  dne : d ≠ e
  ns : h'.Ns1 d (fun y => if y = fld then some v else none)
theorem err_made {R : Result → Shared → Prop} {K : Frag} {mg mb : Str → Option Value} {x fld : Str} {C fI : Addr} {ae : PySem.Expr} {st : Stmt} {v : Value} (T : ErrTxt prog K mg x fld C fI ae st) (hA : ArgOk prog w ae fld v)
    (X : K.In hp) (hlim : hp.NoLimit) (hg : hp.Ns mainGlobals mg) (hb : hp.Ns builtinsNs mb) (hbb : ∀ y : Str, y ≠ "__name__" → mb y = bootBuiltins y) (hroom : A.depth + 1 < recursionLimit)
    (hq : ∀ h' tk e dx, Made hp h' e C dx fld v → R (.ok (.ret (.ref e))) ⟨h', g, d, tk, os⟩) : codeAny (model prog w) A (.call (.ref C) ⟨[v], []⟩) R ⟨hp, g, d, tk, os⟩ := by
  obtain ⟨nm, qn, N, bs, bm, sn, sub, ab, col, dd, k0, k1, k2, k3, k5, lC, hbm⟩ := T.cls
  have k : ∀ b o, hp.get? b = some o → ((hp.push (kdv_tup [v])).push (excO C hp.objs.size)).get? b = some o := fun b o z => Heap.get?_push_of_some _ (Heap.get?_push_of_some _ z)
  have hget : ((hp.push (kdv_tup [v])).push (excO C hp.objs.size)).get? (hp.objs.size + 1) = some (excO C hp.objs.size) := by heap_get
  have hnx : K.lookup (hp.objs.size + 1) = none := by
    cases z : K.lookup (hp.objs.size + 1) with
    | none => rfl
    | some o => exact absurd (Nat.lt_of_succ_lt (Heap.lt_size (X _ _ z))) (Nat.lt_irrefl _)
  refine call_own F.excBase_ValueError (fun X => refsVE_contains X bm hbm) (X _ _ lC) (looks_findIn X T.iC) (fun self => bind_fn X self T.tC) (by rw [sizeLine_eq]; exact Nat.le_of_ble_eq_true rfl) ?_
  refine err_init T hA (X.keeps k) (hlim.keeps k) (hg.keeps k) (hb.keeps k) hbb hget hnx ?_ fun h' tk' dx t1 M => ?_
  · show A.depth + 1 < recursionLimit
    exact hroom
  · have old : ∀ b o, hp.get? b = some o → h'.get? b = some o := fun b o z => M.keep b o (Nat.ne_of_lt (Nat.lt_succ_of_lt (Heap.lt_size z))) (k b o z)
    have z : hp.objs.size + 1 + 1 ≤ dx := by
      have q := M.dbig
      rw [Heap.size_push, Heap.size_push] at q
      exact q
    exact ⟨rfl, hq h' tk' (hp.objs.size + 1) dx ⟨old, Nat.le_succ _, ⟨_, _, M.obj, rfl, rfl, rfl, rfl⟩, Nat.le_trans (Nat.le_trans (Nat.le_succ _) (Nat.le_succ _)) z, M.dne, M.ns⟩⟩
end
end ErrX
namespace L2
open PySem PySem.Spec PyProof.Rows ErrX
theorem relO_fld {v : V} {v' : Value} (fld : Str) (r : RelV v v') (f : Str) : RelO (List.lookup f [(fld, v)]) (if f = fld then some v' else none) := by
  by_cases hw : f = fld
  · subst hw
    rw [if_pos rfl]
    have q : List.lookup f [(f, v)] = some v := by simp [List.lookup]
    rw [q]
    exact r
  · rw [if_neg hw]
    have qw : (f == fld) = false := by simpa using hw
    have q2 : List.lookup f [(fld, v)] = none := by simp [List.lookup, qw]
    rw [q2]
    trivial
section
variable {X : Cx} {C fI : Addr} {x fld : Str} {ae : PySem.Expr} {st : Stmt}
/-- Bad(e) -/
def tMkErr (C : Addr) (fld : Str) (ok : V → Prop) (ta : TA) : L2.St → Hp → XK → Prop := fun σ H Q => ta σ H fun vs H1 => ∃ v, vs = [v] ∧ ok v ∧ ∀ d, H1 d = none → Q (.ref C) (some d) (upd H1 d (.xd [(fld, v)]))
theorem pmk_err {ok : V → Prop} {a : PySem.Expr} {ta : TA} {p pos : Pos} {k : Nat} (T : ErrTxt X.prog X.K X.mg x fld C fI ae st) (hA : ∀ v u, ok v → RelV v u → ArgOk X.prog X.w ae fld u) (hr : Room k X.A) (ha : PA X [a] ta) (hg : Gl X x) (hdb : (x == ("__debug__" : Str)) = false)
    (he : starEach (a :: []) X.env = (false, eval a X.env) :: starEach [] X.env) (hpl : (backTo pos (starEach [] X.env)).any (·.1) = false) :
    PMk X (.Call (.Name x p) [a] [] pos) (tMkErr C fld ok ta) := by
  intro pins s σ H Q I h
  refine wpAny_Call_Name_kw (ld_glob I hg T.gC ?_ hdb)
  refine PySem.W.callWith_K (h₀ := X.base) I.ok.mod.kin T.kC (thn (ha.run pos pins s σ H _ I h) fun us s1 hh => ?_) he hpl
  obtain ⟨vs, H1, I1, r1, v, ev, okv, q1⟩ := hh
  subst ev
  refine ⟨I1.kIn, ?_⟩
  cases r1 with
  | cons rv rn =>
    rename_i v' us'
    cases rn
    show wpAny _ _ (call (.ref C) [v']) _ _ _
    have hlim := I1.nolimit
    obtain ⟨mb, hb1, hb2⟩ := I1.mod.blt
    have hgN := I1.mod.glob.keeps I1.bk
    have hbN := hb1.keeps I1.bk
    obtain ⟨hp, g, dr, tk, os⟩ := s1
    refine wpAny_call (err_made T (hA v v' okv rv) I1.kIn hlim hgN hbN hb2 (by have := hr.dp; omega) fun h' tk' e d M => ?_)
    show MkP X pins σ Q (.ref e) ⟨h', g, dr, tk', os⟩
    obtain ⟨oe, fv, hoe, hc, hd, hdat, h1⟩ := M.obj
    have hns := M.ns
    obtain ⟨G', g1, g2⟩ := restrict h' fun b => decide (b ≠ e)
    have gk : ∀ b, b ≠ e → G'.get? b = h'.get? b := fun b hb => g1 b (decide_eq_true hb)
    have ge : G'.get? e = none := g2 e (by simp)
    have old : ∀ b o, hp.get? b = some o → G'.get? b = some o := fun b o q => (gk b (Nat.ne_of_lt (Nat.lt_of_lt_of_le (Heap.lt_size q) M.new))).trans (M.keep b o q)
    have ob : ObjOk X.prog X.w (upd H1 d (.xd [(fld, v)])) G' d (.xd [(fld, v)]) := ⟨_, hns.at (fun o q => (gk d M.dne).trans q), fun f => relO_fld fld rv f⟩
    have J : Inv X pins σ (upd H1 d (.xd [(fld, v)])) ⟨G', g, dr, tk', os⟩ := I1.laid (t' := tk') old M.dbig ob
    refine ⟨e, oe, fv, ⟨G', g, dr, tk', os⟩, _, .ref C, some d, rfl, J, fun b o q => ?_, ge, hoe, ⟨hc, hd⟩, hdat, h1, ?_, rfl, I1.bare, raises_own T.exC T.tyC, q1 d (I1.hok.fresh M.dbig)⟩
    · by_cases hb : b = e
      · have q' : G'.get? b = some o := q
        rw [hb, ge] at q'
        cases q'
      · exact (gk b hb).symm.trans q
    · rw [upd_ne (Ne.symm M.dne)]
      exact I1.hok.fresh M.new
/-- raise Bad(e) -/
def tRaiseF (C : Addr) (fld : Str) (ok : V → Prop) (W : WX) (ta : TA) : TS := fun _ σ H => tMkErr C fld ok ta σ H fun cls d H' => W cls d σ H'
theorem ps_raiseF {ok : V → Prop} {a : PySem.Expr} {ta : TA} {W : WX} {p pos pos2 : Pos} {k : Nat} (T : ErrTxt X.prog X.K X.mg x fld C fI ae st) (hA : ∀ v u, ok v → RelV v u → ArgOk X.prog X.w ae fld u) (hc : X.calm = true) (hr : Room k X.A) (tk : Takes X W) (ha : PA X [a] ta) (hg : Gl X x := by rfl)
    (hdb : (x == ("__debug__" : Str)) = false := by decide) (he : starEach (a :: []) X.env = (false, eval a X.env) :: starEach [] X.env := by rfl) (hpl : (backTo pos (starEach [] X.env)).any (·.1) = false := by rfl) :
    PS X (.Raise (some (.Call (.Name x p) [a] [] pos)) none pos2) (tRaiseF C fld ok W ta) := ps_raise hc tk (pmk_err T hA hr ha hg hdb he hpl)
/-- e.F, e the error that the suite holds (at a; its class cls, its dict d) -/
def tErrF (C : Addr) (fld : Str) (a : Addr) (cls : Value) (d : Option Addr) (te : TE) : TE := fun σ H Q => te σ H fun y H1 => y = .ref a ∧ cls = .ref C ∧ ∃ (dd : Addr) (v : V), d = some dd ∧ H1 dd = some (.xd [(fld, v)]) ∧ Q v H1
theorem pe_errF {P : Program} {a : Addr} {oe : Obj} {cls : Value} {d : Option Addr} {pn : List (Addr × Obj)} {e : PySem.Expr} {te : TE} {pos : Pos} (T : ErrTxt P X.K X.mg x fld C fI ae st) (hz : Zc cls d oe) (hf : ∃ vs, oe.data = .fields vs) (he : PE (X.suite a ((a, oe) :: pn)) e te)
    (hb : attributeBase e fld X.env (eval e X.env) = eval e X.env := by rfl) : PE (X.suite a ((a, oe) :: pn)) (.Attribute e fld pos) (tErrF C fld a cls d te) := by
  refine ⟨fun pins s σ H Q I h => ?_⟩
  refine attr_of hb (thn (he.run pins s σ H _ I h) fun u s1 hh => ?_)
  obtain ⟨y, H1, I1, rx, ex, ec, dd, v, ed, ea, q⟩ := hh
  subst ex
  obtain rfl : u = Value.ref a := rx
  subst ec
  subst ed
  obtain ⟨ha, _⟩ := I1.pin (a, oe) (List.mem_append_left _ List.mem_cons_self)
  obtain ⟨vs, hd⟩ := hf
  have hx : ObjOk X.prog X.w H1 s1.heap dd (.xd [(fld, v)]) := I1.hok dd _ ea
  obtain ⟨mA, hns, hr⟩ := hx
  obtain ⟨od, ho, hl⟩ := lookIn_ns hns
  have l : List.lookup fld [(fld, v)] = some v := by simp [List.lookup]
  obtain ⟨u, hu, ru⟩ := RelO.some_of (v := v) (o := mA fld) (by rw [← l]; exact hr fld)
  have J : PySem.W.InstAt s1.heap a oe C (some od) := ⟨ha, hz.1, by unfold PySem.W.notCls; rw [hd] <;> rfl, by rw [hz.2]; exact ho⟩
  exact HandSPX.exc_get I1.kIn J T.ga T.gg T.exC (PySem.W.findObj_own T.hdC T.noF rfl (by rw [hl, hu])) (handed_of ru) ⟨v, H1, I1.tok _, ru, q⟩
end
end L2
namespace Rt
open PySem L2 PySem.Spec PyProof.Rows

structure Tx (P : Program) (K : PySem.W.Frag) (mg : Str → Option Value) : Type where
  C_TrickError : Addr
  g_TrickError : mg "TrickError" = some (.ref C_TrickError)
  x_TrickError : PySem.W.excIn K C_TrickError [.type "ValueError", .type "Exception", .type "BaseException", .type "object"] "ValueError.__new__" = true
  k_TrickError : PySem.W.keepIn K (.ref C_TrickError) = true
  s_TrickError : PySem.W.subIn K (.ref C_TrickError) (.type "BaseException") = some true
  t_TrickError : PySem.W.typeIn K (.ref C_TrickError) = some (.type "type")
  C_BadBase : Addr
  g_BadBase : mg "BadBase" = some (.ref C_BadBase)
  x_BadBase : PySem.W.excIn K C_BadBase [.type "ValueError", .type "Exception", .type "BaseException", .type "object"] "ValueError.__new__" = true
  k_BadBase : PySem.W.keepIn K (.ref C_BadBase) = true
  s_BadBase : PySem.W.subIn K (.ref C_BadBase) (.type "BaseException") = some true
  t_BadBase : PySem.W.typeIn K (.ref C_BadBase) = some (.type "type")
  C_BadTake : Addr
  g_BadTake : mg "BadTake" = some (.ref C_BadTake)
  x_BadTake : PySem.W.excIn K C_BadTake [.type "ValueError", .type "Exception", .type "BaseException", .type "object"] "ValueError.__new__" = true
  k_BadTake : PySem.W.keepIn K (.ref C_BadTake) = true
  s_BadTake : PySem.W.subIn K (.ref C_BadTake) (.type "BaseException") = some true
  t_BadTake : PySem.W.typeIn K (.ref C_BadTake) = some (.type "type")
  C_BadDivisor : Addr
  g_BadDivisor : mg "BadDivisor" = some (.ref C_BadDivisor)
  x_BadDivisor : PySem.W.excIn K C_BadDivisor [.type "ValueError", .type "Exception", .type "BaseException", .type "object"] "ValueError.__new__" = true
  k_BadDivisor : PySem.W.keepIn K (.ref C_BadDivisor) = true
  s_BadDivisor : PySem.W.subIn K (.ref C_BadDivisor) (.type "BaseException") = some true
  t_BadDivisor : PySem.W.typeIn K (.ref C_BadDivisor) = some (.type "type")
  C_BadSum : Addr
  g_BadSum : mg "BadSum" = some (.ref C_BadSum)
  x_BadSum : PySem.W.excIn K C_BadSum [.type "ValueError", .type "Exception", .type "BaseException", .type "object"] "ValueError.__new__" = true
  k_BadSum : PySem.W.keepIn K (.ref C_BadSum) = true
  s_BadSum : PySem.W.subIn K (.ref C_BadSum) (.type "BaseException") = some true
  t_BadSum : PySem.W.typeIn K (.ref C_BadSum) = some (.type "type")
  C_BadWeights : Addr
  g_BadWeights : mg "BadWeights" = some (.ref C_BadWeights)
  k_BadWeights : PySem.W.keepIn K (.ref C_BadWeights) = true
  s_BadWeights : PySem.W.subIn K (.ref C_BadWeights) (.type "BaseException") = some true
  t_BadWeights : PySem.W.typeIn K (.ref C_BadWeights) = some (.type "type")
  t_c_LEAST_BASE : Tok
  c_LEAST_BASE : mg "LEAST_BASE" = some (.int 2 t_c_LEAST_BASE)
  t_c_GREATEST_BASE : Tok
  c_GREATEST_BASE : mg "GREATEST_BASE" = some (.int 16 t_c_GREATEST_BASE)
  t_c_GREATEST_TAKE : Tok
  c_GREATEST_TAKE : mg "GREATEST_TAKE" = some (.int 2 t_c_GREATEST_TAKE)
  t_c_GREATEST_DIVISOR : Tok
  c_GREATEST_DIVISOR : mg "GREATEST_DIVISOR" = some (.int 100 t_c_GREATEST_DIVISOR)
  t_c_GREATEST_WEIGHT : Tok
  c_GREATEST_WEIGHT : mg "GREATEST_WEIGHT" = some (.int 1000000 t_c_GREATEST_WEIGHT)
  t_c_MOST_WEIGHTS : Tok
  c_MOST_WEIGHTS : mg "MOST_WEIGHTS" = some (.int 12 t_c_MOST_WEIGHTS)
  t_c_GREATEST_SUM_DIVISOR : Tok
  c_GREATEST_SUM_DIVISOR : mg "GREATEST_SUM_DIVISOR" = some (.int 30 t_c_GREATEST_SUM_DIVISOR)
  a_is_integer : Addr
  d_is_integer : FuncData
  F_is_integer : Fun K "is_integer" "is_integer" s_is_integer a_is_integer d_is_integer
  b_is_integer : Binds K d_is_integer ["told", "low", "high"] []
  g_is_integer : mg "is_integer" = some (.ref a_is_integer)
  a_is_tuple : Addr
  d_is_tuple : FuncData
  F_is_tuple : Fun K "is_tuple" "is_tuple" s_is_tuple a_is_tuple d_is_tuple
  b_is_tuple : Binds K d_is_tuple ["told", "fewest", "most"] []
  g_is_tuple : mg "is_tuple" = some (.ref a_is_tuple)
  a_first_wrong : Addr
  d_first_wrong : FuncData
  F_first_wrong : Fun K "first_wrong" "first_wrong" s_first_wrong a_first_wrong d_first_wrong
  b_first_wrong : Binds K d_first_wrong ["told", "low", "high"] []
  g_first_wrong : mg "first_wrong" = some (.ref a_first_wrong)
  a_check_base : Addr
  d_check_base : FuncData
  F_check_base : Fun K "check_base" "check_base" s_check_base a_check_base d_check_base
  b_check_base : Binds K d_check_base ["base"] []
  g_check_base : mg "check_base" = some (.ref a_check_base)
  a_check_take : Addr
  d_check_take : FuncData
  F_check_take : Fun K "check_take" "check_take" s_check_take a_check_take d_check_take
  b_check_take : Binds K d_check_take ["take"] []
  g_check_take : mg "check_take" = some (.ref a_check_take)
  a_check_divisor : Addr
  d_check_divisor : FuncData
  F_check_divisor : FunD K "check_divisor" "check_divisor" (defArgs s_check_divisor) (defBody s_check_divisor) (defScope s_check_divisor) [.int 100] [] a_check_divisor d_check_divisor
  b_check_divisor : Binds K d_check_divisor ["d", "greatest"] []
  ds_check_divisor : List Value
  rd_check_divisor : Vals [.int 100] ds_check_divisor
  bd_check_divisor : Binds K d_check_divisor ["d", "greatest"] ds_check_divisor
  g_check_divisor : mg "check_divisor" = some (.ref a_check_divisor)
  a_block_of : Addr
  d_block_of : FuncData
  F_block_of : Fun K "block_of" "block_of" s_block_of a_block_of d_block_of
  b_block_of : Binds K d_block_of ["base", "take"] []
  g_block_of : mg "block_of" = some (.ref a_block_of)
  a_sum_fails : Addr
  d_sum_fails : FuncData
  F_sum_fails : Fun K "sum_fails" "sum_fails" s_sum_fails a_sum_fails d_sum_fails
  b_sum_fails : Binds K d_sum_fails ["told", "d"] []
  g_sum_fails : mg "sum_fails" = some (.ref a_sum_fails)
  a_check_weights : Addr
  d_check_weights : FuncData
  F_check_weights : Fun K "check_weights" "check_weights" s_check_weights a_check_weights d_check_weights
  b_check_weights : Binds K d_check_weights ["told", "fewest"] []
  g_check_weights : mg "check_weights" = some (.ref a_check_weights)
  a_check_sum : Addr
  d_check_sum : FuncData
  F_check_sum : Fun K "check_sum" "check_sum" s_check_sum a_check_sum d_check_sum
  b_check_sum : Binds K d_check_sum ["told"] []
  g_check_sum : mg "check_sum" = some (.ref a_check_sum)
  a_sum_block : Addr
  d_sum_block : FuncData
  F_sum_block : Fun K "sum_block" "sum_block" s_sum_block a_sum_block d_sum_block
  b_sum_block : Binds K d_sum_block ["told"] []
  g_sum_block : mg "sum_block" = some (.ref a_sum_block)
  a_weight_at : Addr
  d_weight_at : FuncData
  F_weight_at : Fun K "weight_at" "weight_at" s_weight_at a_weight_at d_weight_at
  b_weight_at : Binds K d_weight_at ["told", "place"] []
  g_weight_at : mg "weight_at" = some (.ref a_weight_at)
  a_power_rests : Addr
  d_power_rests : FuncData
  F_power_rests : Fun K "power_rests" "power_rests" s_power_rests a_power_rests d_power_rests
  b_power_rests : Binds K d_power_rests ["block", "d"] []
  g_power_rests : mg "power_rests" = some (.ref a_power_rests)
  a_turn : Addr
  d_turn : FuncData
  F_turn : Fun K "turn" "turn" s_turn a_turn d_turn
  b_turn : Binds K d_turn ["told", "d"] []
  g_turn : mg "turn" = some (.ref a_turn)
  a_new_rests : Addr
  d_new_rests : FuncData
  F_new_rests : Fun K "new_rests" "new_rests" s_new_rests a_new_rests d_new_rests
  b_new_rests : Binds K d_new_rests ["least", "block", "power", "weight", "d"] []
  g_new_rests : mg "new_rests" = some (.ref a_new_rests)
  a__law_taken : Addr
  d__law_taken : FuncData
  F__law_taken : Fun K "_law_taken" "_law_taken" s__law_taken a__law_taken d__law_taken
  b__law_taken : Binds K d__law_taken ["_law_row", "_law_many"] []
  g__law_taken : mg "_law_taken" = some (.ref a__law_taken)
  a__law_power : Addr
  d__law_power : FuncData
  F__law_power : Fun K "_law_power" "_law_power" s__law_power a__law_power d__law_power
  b__law_power : Binds K d__law_power ["_law_base", "_law_many"] []
  g__law_power : mg "_law_power" = some (.ref a__law_power)
  a__law_sum : Addr
  d__law_sum : FuncData
  F__law_sum : Fun K "_law_sum" "_law_sum" s__law_sum a__law_sum d__law_sum
  b__law_sum : Binds K d__law_sum ["_law_row", "_law_d"] []
  g__law_sum : mg "_law_sum" = some (.ref a__law_sum)
  a__law_weight : Addr
  d__law_weight : FuncData
  F__law_weight : Fun K "_law_weight" "_law_weight" s__law_weight a__law_weight d__law_weight
  b__law_weight : Binds K d__law_weight ["_law_told", "_law_at"] []
  g__law_weight : mg "_law_weight" = some (.ref a__law_weight)
  a_law : Addr
  d_law : FuncData
  F_law : Fun K "law" "law" s_law a_law d_law
  b_law : Binds K d_law ["_law_script"] []
  g_law : mg "law" = some (.ref a_law)
  C_Sum : Addr
  cl_Sum : Cls K C_Sum
  g_Sum : mg "Sum" = some (.ref C_Sum)
  kc_Sum : PySem.W.keepIn K (.ref C_Sum) = true
  ins_Sum : ∀ (H : Hp) (a dx : Addr) (fs : List (Str × V)), H a = some (.ins C_Sum dx fs) → TyOf K H (.ref a) (.ref C_Sum)
  ki_Sum_int : PySem.W.kitOne K (.ref C_Sum) (.type "int") = some false
  ki_Sum_bool : PySem.W.kitOne K (.ref C_Sum) (.type "bool") = some false
  ki_Sum_tuple : PySem.W.kitOne K (.ref C_Sum) (.type "tuple") = some false
  nf_Sum_tuple : PySem.W.subIn K (.type "tuple") (.ref C_Sum) = some false
  kis_Sum : PySem.W.kitOne K (.ref C_Sum) (.ref C_Sum) = some true
  kin_Sum_int : PySem.W.kitOne K (.type "int") (.ref C_Sum) = some false
  kin_Sum_bool : PySem.W.kitOne K (.type "bool") (.ref C_Sum) = some false
  kin_Sum_tuple : PySem.W.kitOne K (.type "tuple") (.ref C_Sum) = some false
  kin_Sum_list : PySem.W.kitOne K (.type "list") (.ref C_Sum) = some false
  kin_Sum_NoneType : PySem.W.kitOne K (.type "NoneType") (.ref C_Sum) = some false
  kin_Sum_str : PySem.W.kitOne K (.type "str") (.ref C_Sum) = some false
  kin_Sum_dict : PySem.W.kitOne K (.type "dict") (.ref C_Sum) = some false
  na_Sum_base : NoAttr K C_Sum "_base"
  na_Sum_first : NoAttr K C_Sum "_first"
  na_Sum_loop : NoAttr K C_Sum "_loop"
  na_Sum_take : NoAttr K C_Sum "_take"
  a_Sum___init__ : Addr
  d_Sum___init__ : FuncData
  F_Sum___init__ : Fun K "__init__" "Sum.__init__" s_Sum___init__ a_Sum___init__ d_Sum___init__
  b_Sum___init__ : Binds K d_Sum___init__ ["self", "base", "take", "first", "loop"] []
  mk_Sum : Mk K C_Sum a_Sum___init__
  a_Sum_base : Addr
  d_Sum_base : FuncData
  F_Sum_base : Fun K "base" "Sum.base" s_Sum_base a_Sum_base d_Sum_base
  b_Sum_base : Binds K d_Sum_base ["self"] []
  q_Sum_base : Addr
  p_Sum_base : PropOf K C_Sum "base" q_Sum_base a_Sum_base
  a_Sum_take : Addr
  d_Sum_take : FuncData
  F_Sum_take : Fun K "take" "Sum.take" s_Sum_take a_Sum_take d_Sum_take
  b_Sum_take : Binds K d_Sum_take ["self"] []
  q_Sum_take : Addr
  p_Sum_take : PropOf K C_Sum "take" q_Sum_take a_Sum_take
  a_Sum_first : Addr
  d_Sum_first : FuncData
  F_Sum_first : Fun K "first" "Sum.first" s_Sum_first a_Sum_first d_Sum_first
  b_Sum_first : Binds K d_Sum_first ["self"] []
  q_Sum_first : Addr
  p_Sum_first : PropOf K C_Sum "first" q_Sum_first a_Sum_first
  a_Sum_loop : Addr
  d_Sum_loop : FuncData
  F_Sum_loop : Fun K "loop" "Sum.loop" s_Sum_loop a_Sum_loop d_Sum_loop
  b_Sum_loop : Binds K d_Sum_loop ["self"] []
  q_Sum_loop : Addr
  p_Sum_loop : PropOf K C_Sum "loop" q_Sum_loop a_Sum_loop
  a_Sum___eq__ : Addr
  d_Sum___eq__ : FuncData
  F_Sum___eq__ : Fun K "__eq__" "Sum.__eq__" s_Sum___eq__ a_Sum___eq__ d_Sum___eq__
  b_Sum___eq__ : Binds K d_Sum___eq__ ["self", "other"] []
  m_Sum___eq__ : Meth K C_Sum "__eq__" a_Sum___eq__
  n_int : mg "int" = none
  n_bool : mg "bool" = none
  n_len : mg "len" = none
  n_range : mg "range" = none
  n_isinstance : mg "isinstance" = none
  n_tuple : mg "tuple" = none
  n_enumerate : mg "enumerate" = none
  n_any : mg "any" = none
  n_min : mg "min" = none
  n_max : mg "max" = none
  n_super : mg "super" = none
  n_dict : mg "dict" = none
  n_ValueError : mg "ValueError" = none
  a_BadWeights___init__ : Addr
  x_BadWeights : ErrX.ErrTxt P K mg "BadWeights" "index" C_BadWeights a_BadWeights___init__ (ErrX.aeOf s_BadWeights___init__) s_BadWeights___init__
/-! ### the program's own classes (no errors) -/
def OwnT {P : Program} {K : PySem.W.Frag} {mg : Str → Option Value} (T : Tx P K mg) (C : Addr) : Prop := C = T.C_Sum
theorem OwnT.ty {P : Program} {K : PySem.W.Frag} {mg : Str → Option Value} {T : Tx P K mg} {C : Addr} (t : OwnT T C) {H : Hp} {a dx : Addr} {fs : List (Str × V)} (e : H a = some (.ins C dx fs)) : TyOf K H (.ref a) (.ref C) := by
  cases t
  exact T.ins_Sum _ _ _ _ e
theorem OwnT.nint {P : Program} {K : PySem.W.Frag} {mg : Str → Option Value} {T : Tx P K mg} {C : Addr} (t : OwnT T C) : PySem.W.kitOne K (.ref C) (.type "int") = some false := by
  cases t
  exact T.ki_Sum_int
theorem OwnT.nbool {P : Program} {K : PySem.W.Frag} {mg : Str → Option Value} {T : Tx P K mg} {C : Addr} (t : OwnT T C) : PySem.W.kitOne K (.ref C) (.type "bool") = some false := by
  cases t
  exact T.ki_Sum_bool
theorem OwnT.ntuple {P : Program} {K : PySem.W.Frag} {mg : Str → Option Value} {T : Tx P K mg} {C : Addr} (t : OwnT T C) : PySem.W.kitOne K (.ref C) (.type "tuple") = some false := by
  cases t
  exact T.ki_Sum_tuple
theorem ar_BadWeights {P : Program} {w : World} : ∀ (v : V) (u : Value), ErrX.NoneInt v → RelV v u → ErrX.ArgOk P w (ErrX.aeOf s_BadWeights___init__) "index" u := fun _ _ n r => ErrX.argOk_f n r
section
variable {P : Program} {w : World} {K : PySem.W.Frag} {mg : Str → Option Value} {base : Heap}
/-! ### heaps -/
/-- all but what stands at r is as it was -/
def But (r : Addr) (H H' : Hp) : Prop := ∀ b o, H b = some o → b ≠ r → H' b = some o
theorem But.refl (r : Addr) (H : Hp) : But r H H := fun _ _ e _ => e
theorem But.trans {r : Addr} {H H1 H2 : Hp} (a : But r H H1) (b : But r H1 H2) : But r H H2 := fun c o e n => b c o (a c o e n) n
theorem Same.but {r : Addr} {H H' : Hp} (a : Same H H') : But r H H' := fun c o e _ => a c o e
theorem But.put {r : Addr} {H : Hp} {o : HO} : But r H (upd H r o) := fun b _ e n => by rw [upd_ne n]; exact e
theorem But.seq {K : PySem.W.Frag} {r a : Addr} {H H' : Hp} {xs : List V} (e : But r H H') (n : a ≠ r) (h : SqL K H a xs) : SqL K H' a xs := by
  rcases h with (h | ⟨o, h⟩) | h
  · exact .inl (.inl (e _ _ h n))
  · exact .inl (.inr ⟨o, e _ _ h n⟩)
  · exact .inr h
theorem same_upd {H : Hp} {p : Addr} {o : HO} (h : H p = none) : Same H (upd H p o) := fun b x e => by
  rw [upd_ne (ne_of_none e h)]
  exact e
/-- any value of the document's point 1 -/
inductive AnyV (T : Addr → Prop) (H : Hp) : V → Prop where
  | non : AnyV T H .non
  | bl (b : Bool) : AnyV T H (.bl b)
  | int (i : Int) : AnyV T H (.int i)
  | str (x : Str) : AnyV T H (.str x)
  | lst {a : Addr} {xs : List V} (e : H a = some (.lst xs)) : AnyV T H (.ref a)
  | tup {a : Addr} {xs : List V} (e : H a = some (.tup xs)) : AnyV T H (.ref a)
  | dct {a : Addr} {kvs : List (Key × V)} (e : H a = some (.dK kvs)) : AnyV T H (.ref a)
  | ins {a C dx : Addr} {fs : List (Str × V)} (t : T C) (e : H a = some (.ins C dx fs)) : AnyV T H (.ref a)
/-- it is an integer from lo to hi -/
def intIn (x : V) (lo hi : Int) : Bool := match x with | .int i => decide (lo ≤ i) && decide (i ≤ hi) | _ => false
theorem intIn_of {i lo hi : Int} (h1 : lo ≤ i) (h2 : i ≤ hi) : intIn (.int i) lo hi = true := by
  show (decide (lo ≤ i) && decide (i ≤ hi)) = true
  rw [decide_eq_true h1, decide_eq_true h2]
  all_goals rfl
theorem small5 {n : Nat} (h : n ≤ 100000) : n < sizeLine := Nat.lt_of_le_of_lt h (by decide)
theorem dec_i (i j : Int) : decide (V.int i = V.int j) = decide (i = j) := by
  rw [Bool.eq_iff_iff]
  simp
theorem AnyV.mono {T : Addr → Prop} {H H' : Hp} {v : V} (a : AnyV T H v) (s : Same H H') : AnyV T H' v := by
  cases a with
  | non => exact .non
  | bl b => exact .bl b
  | int i => exact .int i
  | str x => exact .str x
  | lst e => exact .lst (s _ _ e)
  | tup e => exact .tup (s _ _ e)
  | dct e => exact .dct (s _ _ e)
  | ins t e => exact .ins t (s _ _ e)
theorem intIn_int' {x : V} {lo hi : Int} (h : intIn x lo hi = true) : ∃ i, x = .int i ∧ lo ≤ i ∧ i ≤ hi := by
  cases x with
  | int i =>
    have h2 : (decide (lo ≤ i) && decide (i ≤ hi)) = true := h
    rw [Bool.and_eq_true, decide_eq_true_iff, decide_eq_true_iff] at h2
    exact ⟨i, rfl, h2⟩
  | _ => cases h

/-! ### none twice; keys of two ints -/
/-- no more than so many without one twice -/
theorem pigL {α : Type} [DecidableEq α] : ∀ (L l : List α), l.Nodup → (∀ x ∈ l, x ∈ L) → l.length ≤ L.length
  | [], l, _, h => by
    cases l with
    | nil => exact Nat.le_refl _
    | cons x _ => exact absurd (h x List.mem_cons_self) List.not_mem_nil
  | a :: L, l, hn, h => by
    have ih := pigL L (l.erase a) (hn.erase a) fun x hx => by
      have hx2 := (hn.mem_erase_iff).mp hx
      rcases List.mem_cons.mp (h x hx2.2) with e | e
      · exact absurd e hx2.1
      · exact e
    rw [List.length_erase] at ih
    rw [List.length_cons]
    split at ih <;> omega
abbrev Pr := Int × Int
def kp (q : Pr) : List Key := [.inl q.1, .inl q.2]
theorem kp_inj {q r : Pr} (h : kp q = kp r) : q = r := by
  unfold kp at h
  injection h with h1 h2
  injection h2 with h2 _
  injection h1 with h1
  injection h2 with h2
  exact Prod.ext h1 h2

/-! ### lists of ints -/
theorem dpAll_ints {H : Hp} : ∀ ns : List Int, DpAll K H (ns.map V.int) (ns.map PyData.int)
  | [] => .nil
  | n :: ns => .cons (.int n) (dpAll_ints ns)
theorem dp_ints {H : Hp} {a : Addr} {ns : List Int} (h : SqL K H a (ns.map V.int)) : Dp K H (.ref a) (.list (ns.map PyData.int)) := .lst h (dpAll_ints ns)
theorem dp_tints {H : Hp} {a : Addr} {ns : List Int} (h : SqT K H a (ns.map V.int)) : Dp K H (.ref a) (.tuple (ns.map PyData.int)) := .tup h (dpAll_ints ns)
theorem eqvAll_ints : ∀ ns ms : List Int, PyData.eqvAll (ns.map PyData.int) (ms.map PyData.int) = decide (ns = ms)
  | [], [] => rfl
  | [], _ :: _ => rfl
  | _ :: _, [] => rfl
  | n :: ns, m :: ms => by
    show (PyData.eqv (.int n) (.int m) && PyData.eqvAll (ns.map PyData.int) (ms.map PyData.int)) = _
    rw [eqvAll_ints ns ms]
    show ((n == m) && decide (ns = ms)) = _
    by_cases h1 : n = m
    · by_cases h2 : ns = ms
      · simp [h1, h2]
      · simp [h1, h2]
    · simp [h1]
theorem eqv_ints (ns ms : List Int) : PyData.eqv (.list (ns.map PyData.int)) (.list (ms.map PyData.int)) = decide (ns = ms) := eqvAll_ints ns ms
theorem eqv_tints (ns ms : List Int) : PyData.eqv (.tuple (ns.map PyData.int)) (.tuple (ms.map PyData.int)) = decide (ns = ms) := eqvAll_ints ns ms
theorem shaped_lints (ns : List Int) : SeqAt.shaped (.list (ns.map PyData.int)) = true := PySem.W.shaped_ints ns
/-- an item of a written list at a drawn place -/
theorem at_some (Pr : Int → Prop) {ns : List Int} (h : ∀ z ∈ ns, Pr z) {i : Int} (h0 : 0 ≤ i) (h1 : i < ns.length) : ∃ z, Pr z ∧ atI (ns.map V.int) i = some (V.int z) := by
  obtain ⟨z, hz⟩ : ∃ z, ns[i.toNat]? = some z := ⟨ns[i.toNat]'(by omega), List.getElem?_eq_getElem (by omega)⟩
  refine ⟨z, h z (List.mem_of_getElem? hz), at_of (j := i.toNat) (by omega) (by rw [List.getElem?_map, hz]; rfl)⟩
theorem sorted_ext {l m : List Int} (p : l.Perm m) (h1 : l.Pairwise (· ≤ ·)) (h2 : m.Pairwise (· ≤ ·)) : l = m :=
  p.eq_of_pairwise (fun a b _ _ x y => Int.le_antisymm x y) h1 h2
/-- reading an item within a comprehension: the written part said aloud -/
theorem ix_lK {X : Cx} (h : X.K = K) : IxR X (rIxL K) := by
  subst h
  exact ix_list
/-- the same of a tuple -/
theorem ix_tK {X : Cx} (h : X.K = K) : IxR X (rIxT K) := by
  subst h
  exact ix_tup
/-- name op= e, by the operation in place -/
theorem ip_op {X : Cx} {op : Operator} {r : R2} (ho : OpR X (inplaceOp op) r) : PIp X op r := fun pins s σ H x y v u Q I r1 r2 h => ho pins s σ H x y v u Q I r1 r2 h

/-! ### what is shallow enough to be compared -/
theorem lays_map {α : Type} (f : α → PyData) (k : Nat) (h : ∀ x, PyData.canLay0 (f x) = true ∧ PyData.depth (f x) ≤ k) : ∀ l : List α, PyData.canLayAll0 (l.map f) = true ∧ PyData.depthAll (l.map f) ≤ k
  | [] => ⟨by simp [PyData.canLayAll0], by simp [PyData.depthAll]⟩
  | x :: l => by
    have h1 := lays_map f k h l
    have h2 := h x
    refine ⟨by simp [PyData.canLayAll0, h1.1, h2.1], ?_⟩
    simp only [List.map_cons, PyData.depthAll]
    omega
theorem shaped_of {ds : List PyData} {k : Nat} (h : PyData.canLayAll0 ds = true ∧ PyData.depthAll ds ≤ k) (hk : k ≤ 60) : SeqAt.shaped (.list ds) = true ∧ SeqAt.shaped (.tuple ds) = true := by
  have e1 : PyData.depth (.list ds) ≤ 64 := by simp only [PyData.depth]; omega
  have e2 : PyData.depth (.tuple ds) ≤ 64 := by simp only [PyData.depth]; omega
  refine ⟨?_, ?_⟩
  · show (PyData.canLay0 (.list ds) && decide (PyData.depth (.list ds) ≤ 64)) = true
    rw [Bool.and_eq_true]
    exact ⟨by simp only [PyData.canLay0]; exact h.1, decide_eq_true e1⟩
  · show (PyData.canLay0 (.tuple ds) && decide (PyData.depth (.tuple ds) ≤ 64)) = true
    rw [Bool.and_eq_true]
    exact ⟨by simp only [PyData.canLay0]; exact h.1, decide_eq_true e2⟩
theorem lay_int (i : Int) : PyData.canLay0 (.int i) = true ∧ PyData.depth (.int i) ≤ 1 := ⟨by simp [PyData.canLay0], by simp [PyData.depth]⟩
theorem shaped_tints (ns : List Int) : SeqAt.shaped (.tuple (ns.map PyData.int)) = true := (shaped_of (lays_map PyData.int 1 lay_int ns) (by decide)).2

/-! ### what is wished for less is met, too -/
def TEMono (t : TE) : Prop := ∀ (σ : L2.St) (H : Hp) (Q Q' : VK), (∀ v H1, Q v H1 → Q' v H1) → t σ H Q → t σ H Q'
def TAMono (t : TA) : Prop := ∀ (σ : L2.St) (H : Hp) (Q Q' : List V → Hp → Prop), (∀ v H1, Q v H1 → Q' v H1) → t σ H Q → t σ H Q'
def TTMono (t : TT) : Prop := ∀ (σ : L2.St) (H : Hp) (Q Q' : Bool → Hp → Prop), (∀ b H1, Q b H1 → Q' b H1) → t σ H Q → t σ H Q'
def R2Mono (r : R2) : Prop := ∀ (x y : V) (H : Hp) (Q Q' : VK), (∀ v H1, Q v H1 → Q' v H1) → r x y H Q → r x y H Q'
theorem m_var {i : Nat} : TEMono (tVar i) := fun _ _ _ _ h ⟨v, e, z⟩ => ⟨v, e, h _ _ z⟩
theorem m_c {v : V} : TEMono (tC v) := fun _ _ _ _ h z => h _ _ z
theorem m_op {r : R2} {a b : TE} (hr : R2Mono r) (ha : TEMono a) (hb : TEMono b) : TEMono (tOp r a b) := fun σ H Q Q' h z => ha σ H _ _ (fun x H1 q => hb σ H1 _ _ (fun y H2 q2 => hr x y H2 _ _ h q2) q) z
theorem m_nil : TAMono tNil := fun _ _ _ _ h z => h _ _ z
theorem m_cons {t : TE} {u : TA} (ht : TEMono t) (hu : TAMono u) : TAMono (tCons t u) := fun σ H Q Q' h z => ht σ H _ _ (fun x H1 q => hu σ H1 _ _ (fun xs H2 q2 => h _ _ q2) q) z
theorem m_test {t : TE} (ht : TEMono t) : TTMono (tTest t) := fun σ H Q Q' h z => ht σ H _ _ (fun x H1 ⟨k, e, q⟩ => ⟨k, e, h _ _ q⟩) z
theorem m_and {t u : TT} (ht : TTMono t) (hu : TTMono u) : TTMono (tAnd t u) := fun σ H Q Q' h z => ht σ H _ _ (fun c H1 q => by
  cases c with
  | true => exact hu σ H1 _ _ h q
  | false => exact h _ _ q) z
theorem m_rI {C : Int → Int → Prop} {g : Int → Int → V} : R2Mono (rI C g) := fun _ _ _ _ _ h ⟨i, j, e1, e2, c, q⟩ => ⟨i, j, e1, e2, c, h _ _ q⟩
theorem m_rI0 {g : Int → Int → V} : R2Mono (rI0 g) := fun _ _ _ _ _ h ⟨i, j, e1, e2, q⟩ => ⟨i, j, e1, e2, h _ _ q⟩
theorem m_rEq : R2Mono rEq := fun _ _ _ _ _ h ⟨e, q⟩ => ⟨e, h _ _ q⟩
theorem m_rNe : R2Mono rNe := fun _ _ _ _ _ h ⟨e, q⟩ => ⟨e, h _ _ q⟩
theorem m_rIn {n : Bool} : R2Mono (rIn K n) := fun _ _ _ _ _ h ⟨p, xs, e, s, f, a, q⟩ => ⟨p, xs, e, s, f, a, h _ _ q⟩
theorem m_len {i : Nat} : TEMono (tCB (fun xs H Q => ∃ p ys, xs = [V.ref p] ∧ (SqL K H p ys ∨ SqT K H p ys) ∧ Q (.int (ys.length : Int)) H) (tCons (tVar i) tNil)) := fun _ _ _ _ h ⟨v, e, p, ys, e1, e2, q⟩ => ⟨v, e, p, ys, e1, e2, h _ _ q⟩
/-! ### what is never reached -/
def tNev : TS := fun _ _ _ => False
theorem pss_nev {X : Cx} {sts : List Stmt} : PSs X sts tNev := ⟨fun _ _ _ _ _ _ h => h.elim⟩

/-! ### {k: v} with one key, a tuple -/
/-- the new dict stands empty while the pair is made -/
def tDisp1T (tk tv : TE) : TE := fun σ H Q => ∀ p, H p = none → tk σ (upd H p (.dT [])) fun x H1 => tv σ H1 fun y H2 => H2 p = some (.dT []) ∧ ∃ b k, x = .ref b ∧ H2 b = some (.tup (k.map kV)) ∧ Q (.ref p) (upd H2 p (.dT [(k, y)]))
theorem pe_disp1T {X : Cx} {pos : Pos} {k v : PySem.Expr} {tk tv : TE} (hu : X.A.units + 1 < cLine) (hk : PE X k tk) (hv : PE X v tv) : PE X (.Dict [some k] [v] pos) (tDisp1T tk tv) := by
  refine ⟨fun pins s σ H Q I q => ?_⟩
  have hn := I.hok.fresh (Nat.le_refl s.heap.objs.size)
  have I1 := I.laid (a := s.heap.objs.size) (o := .dT []) (h' := s.heap.push { cls := .type "dict", data := .dict #[] }) (t' := s.toks) (fun _ _ z => Heap.get?_push_of_some _ z) (Nat.le_refl _) (dt_empty s.heap I.big)
  rw [arm_eval_Dict, zip_pairTrees [some k] [v] X.env pos rfl rfl, dictDisplay_pairs (pairTrees [some k] [v] X.env pos) (by unfold pairTrees; exact fun z => nomatch z) (show (1 : Nat) < 17 by decide)]
  refine wpAny_bind (wpAny_standAt (wpAny_bind (wpAny_subDictH (knd := tupleKind (mixKind X.prog X.w)) (Q := fun d s2 => wpAny (model X.prog X.w) X.A (pure (Value.ref d)) (EP X pins σ Q) X.xe s2) (Nat.lt_of_succ_lt hu) (show (1 : Nat) ≤ 15 by decide) (thn ((pps_cons hk hv pps_nil).run pins _ σ _ (fun ps H2 => match ps with
    | [(x, y)] => H2 s.heap.objs.size = some (.dT []) ∧ ∃ b k, x = .ref b ∧ H2 b = some (.tup (k.map kV)) ∧ Q (.ref s.heap.objs.size) (upd H2 s.heap.objs.size (.dT [(k, y)]))
    | _ => False) I1 (q _ hn)) fun ws s2 hh => ?_))))
  obtain ⟨ps, H2, I2, rel, hq⟩ := hh
  split at hq
  · rename_i x y
    obtain ⟨e, b, kk, rfl, eb, q2⟩ := hq
    cases rel with
    | cons r t =>
      cases t
      rename_i uv
      obtain ⟨u1, u2⟩ := uv
      obtain ⟨r1, r2⟩ := r
      cases (show u1 = Value.ref b from r1)
      obtain ⟨z, hd, xs, rel, dd⟩ := dt_of I2.hok e
      cases rel
      refine ⟨[(kk, b, u2)], ⟨rfl, rfl, key_of I2.hok eb, trivial⟩, dd, fun h' tk dd' hs => wpAny_pure ⟨.ref s.heap.objs.size, _, ?_, rfl, q2⟩⟩
      obtain ⟨o, es, ep, hq, h2, h3, h4, _, h5⟩ := dd'
      refine d_write I2 (by rw [e]; exact True.intro) hs ⟨o, hq⟩ ⟨by show 1 ≤ sizeLine; decide, hd, _, ((KT.put (k := kk) (b := b) (y := y) (u := u2) (.nil : KT H2 [] []) eb r2)).keeps fun c ys ec => ?_, o, es, ep, hq, h2, h3, h4, h5⟩
      rw [upd_ne (ne_of ec e (fun z => nomatch z))]
      exact ec
  · exact hq.elim

/-! ### d.items() of a dict with tuple keys, walked -/
end
end Rt
namespace L2
open PySem PySem.Spec PyProof.Rows
/-- the pairs, each a new tuple with the key's own tuple in it -/
def Itit (d : Addr) (o : Obj) (kvs : List (List Key × V)) : It :=
  ⟨fun i H => H d = some (.frz o (.dT kvs)) ∧ i < kvs.length, fun i H x H2 => ∃ (T : Addr) (k : List Key) (v : V) (q : Addr), kvs[i]? = some (k, v) ∧ H q = some (.tup (k.map kV)) ∧ x = .ref T ∧ H T = none ∧ H2 = upd H T (.tup [.ref q, v]), fun i H => H d = some (.frz o (.dT kvs)) ∧ kvs.length ≤ i⟩
section
variable {X : Cx} {pins : List (Addr × Obj)} {σ : St} {H : Hp} {s : Shared} {d : Addr} {o : Obj}
theorem frzT2 {kvs : List (List Key × V)} (I : Inv X pins σ H s) (h : H d = some (.frz o (.dT kvs))) :
    (d == sysModules) = false ∧ s.heap.get? d = some o ∧ o.ExactDict ∧ ∃ (es : Array DictEntry) (ep : Nat), o.data = .dict es ep ∧ es.size = kvs.length ∧
      ∀ (i : Nat) (k : List Key) (v : V), kvs[i]? = some (k, v) → ∃ (en : DictEntry) (q : Addr), es[i]? = some en ∧ en.key = .ref q ∧ H q = some (.tup (k.map kV)) ∧ RelV v en.val := by
  obtain ⟨hd, _, nm, xs, pr, oo, es, ep, ho, hx, hdt, he, _⟩ := I.hok d _ h
  rw [hd] at ho
  cases ho
  refine ⟨nm, hd, hx, es, ep, hdt, ?_, fun i k v e => ?_⟩
  · have l1 : es.size = xs.length := size_of_entries he
    have l2 : kvs.length = xs.length := Paired.length pr
    omega
  · obtain ⟨b, hb, e1, e2, e3⟩ := L2.paired_get pr e
    have q := entry_at he i
    rw [hb] at q
    exact ⟨_, b.2.1, q, rfl, e2, e3⟩
end
theorem turn_itemsT {P : Program} {w : World} {K : PySem.W.Frag} {d it : Addr} {o : Obj} {es : Array DictEntry} {ep : Nat} {kvs : List (List Key × V)} {elts : List PySem.Expr} {kk : Nat} {tpos : Pos} (hod : o.data = .dict es ep) :
    Turn P w K (.Tuple elts kk tpos) (Itit d o kvs) [it] it (fun i h => ∃ ok ov, IsItemIter h it d i kvs.length ep ok ov) where
  mem := List.mem_cons_self
  obj := fun i h st b hb => by
    rw [List.mem_singleton.mp hb]
    obtain ⟨ok, ov, e⟩ := st
    exact ⟨_, e, fun v z => nomatch z⟩
  keep := fun i h h2 st k => let ⟨ok, ov, e⟩ := st; ⟨ok, ov, k it List.mem_cons_self _ e⟩
  item := by
    intro X hP hw hK hc i pins s σ H E I hf st hg
    subst hP hw hK
    obtain ⟨hd, hi⟩ := hg
    obtain ⟨hs, hgd, hx, es2, ep2, hdt, hsz, at_⟩ := frzT2 I hd
    obtain ⟨rfl, rfl⟩ := dict_ep hod hdt
    obtain ⟨⟨k, v⟩, hkv⟩ : ∃ p, kvs[i]? = some p := ⟨kvs[i], List.getElem?_eq_getElem hi⟩
    obtain ⟨en, q, hen, hkey, hq, rv⟩ := at_ i k v hkv
    obtain ⟨ok, ov, he⟩ := st
    rw [← hsz] at he
    have hlt : it < s.heap.objs.size := Heap.lt_size he
    have hi2 : i < es2.size := by omega
    have een : es2[i] = en := by
      rw [Array.getElem?_eq_getElem hi2] at hen
      exact Option.some.inj hen
    refine DT.nextI (es := es2) he ⟨o, hgd, hx, hdt⟩ hi2 fun h1 ho hT hz hk => ?_
    rw [een] at ho hT
    refine ⟨_, rfl, wpAny_letOwnedTupleGo_items (s := { s with heap := h1 }) ho fun h2 he2 sb => ?_⟩
    have hT2 : h2.get? s.heap.objs.size = some { cls := .type "tuple", data := .seq #[en.key, en.val] } := (sb.2 _ (Nat.ne_of_gt hlt)).trans hT
    have new : ObjOk X.prog X.w (upd H s.heap.objs.size (.tup [.ref q, v])) h2 s.heap.objs.size (.tup [.ref q, v]) :=
      ⟨by show 2 ≤ sizeLine; decide, [en.key, en.val], .cons hkey (.cons rv .nil), ⟨_, hT2, rfl, _, rfl⟩⟩
    have I1 : Inv X pins σ (upd H s.heap.objs.size (.tup [.ref q, v])) { s with heap := h2 } :=
      I.turnedNew (t' := s.toks) (ch := [it]) (fun b ob hb e => (sb.2 b (fun z => hb (by rw [z]; exact List.mem_cons_self))).trans (hk b ob (fun z => hb (by rw [z]; exact List.mem_cons_self)) e)) hf (Nat.le_refl _) new
    refine ⟨.ref s.heap.objs.size, _, I1, rfl, ⟨_, k, v, q, hkv, hq, rfl, I.hok.fresh (Nat.le_refl _), rfl⟩, ⟨en.key, en.val, ?_⟩, fun b hb => ?_⟩
    · rw [← hsz]
      exact he2
    · rw [List.mem_singleton.mp hb, upd_ne (Nat.ne_of_lt hlt)]
      exact (hf it List.mem_cons_self).1
  done := by
    intro X hP hw hK hc i pins s σ H E I hf st hg
    subst hP hw hK
    obtain ⟨hd, hi⟩ := hg
    obtain ⟨f0, f1, f2, f3, f4, f5⟩ := hf it List.mem_cons_self
    obtain ⟨hs, hgd, hx, es2, ep2, hdt, hsz, _⟩ := frzT2 I hd
    obtain ⟨rfl, rfl⟩ := dict_ep hod hdt
    obtain ⟨ok, ov, he⟩ := st
    rw [← hsz] at he
    exact DT.endI (es := es2) (I.ok.hd hc) he ⟨o, hgd, hx, hdt⟩ (by omega) fun h1 eb => ⟨rfl, I.turned (t' := s.toks) (fun b ob hb e => eb b ob hb e) f0 f1 f3 f4 f5⟩
  self := fun A i s Q E st h => let ⟨_, _, e⟩ := st; PySem.W.kcp_self e h
/-- d.items(): the dict is locked -/
def iItemsT (td : TE) : TI := fun σ H R => td σ H fun x H1 => ∃ d o kvs, x = .ref d ∧ H1 d = some (.frz o (.dT kvs)) ∧ R (Itit d o kvs) H1
theorem pi_itemsT {X : Cx} {e : PySem.Expr} {td : TE} {apos cpos tpos : Pos} {elts : List PySem.Expr} {kk : Nat} (he : PE X e td) (hbase : attributeBase e "items" X.env (eval e X.env) = eval e X.env := by rfl) (hline : (apos.endLine == cpos.line) = true := by rfl) :
    PI X (.Tuple elts kk tpos) (.Call (.Attribute e "items" apos) [] [] cpos) (iItemsT td) := by
  refine ⟨fun pins s σ H R I h => ?_⟩
  refine wpAny_Call_method (T := "dict") (id := "dict.items") hbase rfl hline F.plainAttrs_dict F.slot_dict_items F.type_dict_items (thn (he.run pins s σ H _ I h) fun u s1 ⟨x, H1, I1, rx, d, o, kvs, ex, hd, q⟩ => ?_)
  subst ex
  obtain rfl : u = Value.ref d := rx
  obtain ⟨hs, hgd, hx, es, ep, hdt, hsz, _⟩ := frzT2 I1 hd
  have raw : DT.Raw s1.heap d es ep := ⟨o, hgd, hx, hdt⟩
  refine ⟨raw.typeIs, ?_, ?_⟩
  · exact fun b z => by cases z; exact ⟨o, hgd, hx.2.1⟩
  have I2 : Inv X pins σ H1 { s1 with heap := s1.heap.push { cls := .type "dict_items", data := .fields #[.ref d] } } := I1.kept (t' := s1.toks) fun b ob q => Heap.get?_push_of_some _ q
  have fin : wpAny (model X.prog X.w) X.A (pyIter (.ref s1.heap.objs.size)) (PIE X pins σ (.Tuple elts kk tpos) R) X.xe { s1 with heap := s1.heap.push { cls := .type "dict_items", data := .fields #[.ref d] } } := by
    refine DT.iterI (d := d) (es := es) (ep := ep) ⟨_, Heap.get?_push_size _ rfl, rfl, rfl⟩ (raw.push _) (pi_one (tk := s1.toks) I2 _ (turn_itemsT hdt) ⟨.none, .none, ?_⟩ q)
    rw [← hsz]
    exact Heap.get?_push_size _ rfl
  show wpAny _ _ (callWith cpos (.builtin "dict.items") [.ref d] [] []) _ X.xe s1
  exact method_meetsIn F.slot_dict_items F.entry_dict_items rfl (PySem.evalArgs_none ⟨rfl, raw.typeIs, F.args_dict_items_1 _, _, DT.meetsItems (es := es) (ep := ep) hs, raw, fin⟩)
theorem walk_itemsT {d : Addr} {o : Obj} {kvs : List (List Key × V)} : Walk (Itit d o kvs) kvs.length (fun H => H d = some (.frz o (.dT kvs))) (fun i H x H2 => ∃ (T : Addr) (k : List Key) (v : V) (q : Addr), kvs[i]? = some (k, v) ∧ H q = some (.tup (k.map kV)) ∧ x = .ref T ∧ H T = none ∧ H2 = upd H T (.tup [.ref q, v])) :=
  ⟨fun i _ lt q => ⟨q, lt⟩, fun _ q => ⟨q, Nat.le_refl _⟩, fun i H v H2 _ q w => w⟩
end L2
namespace Rt
open PySem L2 PySem.Spec PyProof.Rows
section
variable {P : Program} {w : World} {K : PySem.W.Frag} {mg : Str → Option Value} {base : Heap}

/-! ### the truth of a dict with tuple keys -/
end
end Rt
namespace L2
open PySem PySem.Spec PyProof.Rows
section
variable {P : Program} {w : World} {A : Around} {E : Value → Shared → Prop} {s : Shared} {κ : Type} [DecidableEq κ] {kn : HeapKind P w κ}
theorem truth_dH {a : Addr} {ys : List (κ × Addr × Value)} {Q : Bool → Shared → Prop} (nm : (a == sysModules) = false) (at_ : s.heap.DictOfH kn a ys) (small : (ys.length : Int) < 2 ^ 63) (q : Q (!ys.isEmpty) { s with toks := s.toks + 1 + 1 }) :
    wpAny (model P w) A (truthy (.ref a)) Q E s := by
  have ne0 : ((ys.length : Int) != 0) = !ys.isEmpty := by
    cases ys with
    | nil => rfl
    | cons y r => simp; omega
  have lens : wpAny (model P w) A (runValue (.builtin "len" ⟨[.ref a], []⟩)) (fun r s2 => r = .int ys.length (s.toks + 1) ∧ Q (!ys.isEmpty) s2) E s :=
    wpAny_runValue (codeAny_builtin PySem.entry_len (by
      rw [Around.under_plainId PySem.plain_len _]
      exact wpAny_mono (wpAny_len_body_dictH (Q := fun r s2 => r = .int ys.length (s.toks + 1) ∧ Q (!ys.isEmpty) s2) nm at_ small ⟨rfl, q⟩) (fun fin s2 ⟨r, e, z⟩ => by rw [e]; exact z) fun _ _ e => e))
  unfold truthy
  refine wpAny_bind (wpAny_callSpecial?_none (name := Str.ofString "__bool__") at_.typeIs PySem.noBool_dict (wpAny_bind ?_))
  exact wpAny_specialOf (name := Str.ofString "__len__") at_.typeIs F.slot_dict_len.lookup (wpAny_bind (wpAny_mono lens (fun r s2 ⟨e, z⟩ => by rw [e]; exact wpAny_pure (ne0 ▸ z)) fun _ _ e => e))
end
def rTruT : V → Hp → (Bool → Hp → Prop) → Prop := fun x H Q => ∃ (p : Addr) (kvs : List (List Key × V)), x = .ref p ∧ H p = some (.dT kvs) ∧ Q (!kvs.isEmpty) H
theorem tru_dT {X : Cx} : TruR X rTruT := by
  intro pins s σ H x v Q I rx h
  obtain ⟨p, kvs, rfl, hp, q⟩ := h
  cases rx
  obtain ⟨z, nm, ys, rel, dd⟩ := dt_of I.hok hp
  have hl : kvs.length = ys.length := Paired.length rel
  have e : (!ys.isEmpty) = !kvs.isEmpty := by
    cases kvs <;> cases ys <;> first | rfl | cases hl
  exact truth_dH nm dd (by rw [← hl]; rw [sizeLine_eq] at z; omega) ⟨H, I.tok _, by rw [e]; exact q⟩
end L2
namespace Rt
open PySem L2 PySem.Spec PyProof.Rows
section
variable {P : Program} {w : World} {K : PySem.W.Frag} {mg : Str → Option Value} {base : Heap}

/-! ### dict(d) of a dict with tuple keys -/
end
end Rt
namespace L2
open PySem PySem.Spec PyProof.Rows
section
variable {P : Program} {w : World} {A : Around} {E : Value → Shared → Prop} {s : Shared} {κ : Type} [DecidableEq κ] {kn : HeapKind P w κ}
theorem copyH {a : Addr} {ys : List (κ × Addr × Value)} {Q : Value → Shared → Prop} (room : kn.room A.in1.in1) (nm : (a == sysModules) = false) (ne0 : s.heap.objs.size ≠ a) (old : (s.heap.push { cls := .type "dict", data := .dict #[] }).DictOfH kn a ys) (small : ys.length ≤ sizeLine)
    (tup : ∀ x ∈ ys, Shared.TypeIs { s with heap := s.heap.push { cls := .type "dict", data := .dict #[] } } (.ref x.2.1) "tuple") (apart : (ys.map fun x => kn.hash x.1).Nodup)
    (q : ∀ h2, h2.DictOfH kn s.heap.objs.size ys → Heap.SameBut s.heap.objs.size (s.heap.push { cls := .type "dict", data := .dict #[] }) h2 → Q (.ref s.heap.objs.size) { s with heap := h2 }) :
    wpAny (model P w) A (call (.type "dict") [.ref a]) Q E s := by
  refine callType_codes (Q₁ := fun ob s1 => ob = .ref s.heap.objs.size ∧ s1 = { s with heap := s.heap.push { cls := .type "dict", data := .dict #[] } }) F.kt_called_dict (F.kt_typeCall_dict_1 _) F.entry_dict_init (kt_code_dict_new _ ⟨rfl, rfl⟩) ?_
  rintro ob s1 ⟨rfl, rfl⟩
  have new : (s.heap.push { cls := .type "dict", data := .dict #[] }).DictOfH kn s.heap.objs.size [] := Heap.DictOfH.new s.heap
  refine ⟨new.typeIs, F.args_dict_init_2 _ _, ?_⟩
  unfold Builtin.«dict.__init__»
  refine wpAny_bind ?_
  unfold Builtin.Dict.selfAndRest
  refine wpAny_bind (wpAny_notOrdered_dict new.typeIs ?_)
  show wpAny _ _ (pure (s.heap.objs.size, [Value.ref a])) _ _ _
  refine wpAny_pure ?_
  show wpAny _ _ (Builtin.Dict.updateFrom "dict.__init__" s.heap.objs.size (.ref a) [] .none) _ _ _
  refine wpAny_mono (updateFrom_dictH (kvs := []) (more := ys) (R := fun r s2 => r = .ok (.ret .none) ∧ ∃ h2, s2 = { s with heap := h2 } ∧ h2.DictOfH kn s.heap.objs.size ys ∧ Heap.SameBut s.heap.objs.size (s.heap.push { cls := .type "dict", data := .dict #[] }) h2) .none room ne0 nm new old (.inr ⟨tup, apart⟩) (by rw [List.length_nil]; omega) fun h2 d2 _ sb => ⟨rfl, h2, rfl, ?_, sb⟩) (fun fin s2 z => ?_) fun e s2 z => ?_
  · rw [← storedAllH_nil_of_nodup ys old.nodup]
    exact d2
  · have good : ∀ (r : Result) (s3 : Shared), (r = .ok (.ret .none) ∧ ∃ h2, s3 = { s with heap := h2 } ∧ h2.DictOfH kn s.heap.objs.size ys ∧ Heap.SameBut s.heap.objs.size (s.heap.push { cls := .type "dict", data := .dict #[] }) h2) → wants (fun r s2 => r = Value.none ∧ Q (Value.ref s.heap.objs.size) s2) E r s3 := fun r s3 ⟨e, h2, e2, d2, sb⟩ => by
      rw [e, e2]
      exact ⟨rfl, q h2 d2 sb⟩
    cases fin with
    | done f => exact good _ _ z
    | again c => exact ⟨z.1, codeAny_mono z.2 fun r s3 y => good r s3 y⟩
  · exact nomatch z.1
end
def rDictT (P : Program) (w : World) : List V → Hp → VK → Prop := fun xs H Q => ∃ (a : Addr) (kvs : List (List Key × V)), xs = [.ref a] ∧ H a = some (.dT kvs) ∧ (kvs.map fun x => tupleKeyHash (mixKind P w) x.1).Nodup ∧ ∀ p, H p = none → Q (.ref p) (upd H p (.dT kvs))
theorem call_dictT {X : Cx} (hu : X.A.units + 2 < cLine) : CallR X (.type "dict") (rDictT X.prog X.w) := by
  intro pins s σ H xs us Q I r q
  obtain ⟨a, kvs, ex, ha, ap, q⟩ := q
  subst ex
  obtain ⟨u, eu, rx⟩ := vals1 r
  subst eu
  cases rx
  have I2 : Inv X pins σ H { s with heap := s.heap.push { cls := .type "dict", data := .dict #[] } } := I.kept (t' := s.toks) fun b o e => Heap.get?_push_of_some _ e
  obtain ⟨z, nm, ys, rel, dd⟩ := dt_of I2.hok ha
  have hl : kvs.length = ys.length := Paired.length rel
  have lt : a < s.heap.objs.size := by
    obtain ⟨_, _, _, _, d0⟩ := dt_of I.hok ha
    obtain ⟨_, _, _, hg, _⟩ := d0
    exact Heap.lt_size hg
  have ek : (ys.map fun x => x.1) = kvs.map fun x => x.1 := by
    have go : ∀ {ks : List (List Key × V)} {zs : List (List Key × Addr × Value)}, KT H ks zs → (zs.map fun x => x.1) = ks.map fun x => x.1 := by
      intro ks zs r
      induction r with
      | nil => rfl
      | cons h _ ih => rw [List.map_cons, List.map_cons, ih, h.1]
    exact go rel
  refine copyH (kn := tupleKind (mixKind X.prog X.w)) (show X.A.units + 1 + 1 < cLine from hu) nm (Nat.ne_of_gt lt) dd (by rw [← hl]; exact z) (fun x hx => ?_) ?_ fun h2 d2 sb => ?_
  · obtain ⟨i, hi⟩ := List.mem_iff_getElem?.mp hx
    obtain ⟨y, _, _, hy, _⟩ := DX.pget rel hi
    obtain ⟨_, its, _, o, ho, hc, _⟩ := I2.hok _ _ hy
    exact ⟨o, ho, hc⟩
  · show (ys.map fun x => tupleKeyHash (mixKind X.prog X.w) x.1).Nodup
    have e2 : (ys.map fun x => tupleKeyHash (mixKind X.prog X.w) x.1) = kvs.map fun x => tupleKeyHash (mixKind X.prog X.w) x.1 := by
      rw [show (fun x : List Key × Addr × Value => tupleKeyHash (mixKind X.prog X.w) x.1) = (tupleKeyHash (mixKind X.prog X.w)) ∘ (fun x => x.1) from rfl, ← List.map_map, ek, List.map_map]
      rfl
    rw [e2]
    exact ap
  · have hm : (s.heap.objs.size == sysModules) = false := beq_eq_false_iff_ne.mpr (Nat.ne_of_gt I.big)
    have hn := I.hok.fresh (Nat.le_refl s.heap.objs.size)
    obtain ⟨o, es, ep, d3, d4, d5, d6, _, d7⟩ := d2
    exact ⟨.ref s.heap.objs.size, upd H s.heap.objs.size (.dT kvs), I.laid (t' := s.toks) (fun b u e => (sb.2 b (Nat.ne_of_lt (Heap.lt_size e))).trans (Heap.get?_push_of_some _ e)) (Nat.le_refl _)
      (show ObjOk X.prog X.w _ _ _ (.dT kvs) from ⟨z, hm, ys, rel.keeps fun c zs ec => by rw [upd_ne (ne_of_none ec hn)]; exact ec, o, es, ep, d3, d4, d5, d6, d7⟩), rfl, q _ hn⟩
end L2
namespace Rt
open PySem L2 PySem.Spec PyProof.Rows
section
variable {P : Program} {w : World} {K : PySem.W.Frag} {mg : Str → Option Value} {base : Heap}

/-! ### is_integer, and the checks -/
def spIsInt (T : Tx P K mg) : Sp := fun vs H Q _ => ∃ (x : V) (lo hi : Int), vs = [x, .int lo, .int hi] ∧ AnyV (OwnT T) H x ∧ Q (.bl (intIn x lo hi)) H
theorem isi_int (T : Tx P K mg) {H : Hp} {x : V} (a : AnyV (OwnT T) H x) : ∃ t, TyX K H x t ∧ (∃ b, PySem.W.kitOne K t (.type "int") = some b ∧ (b = false → ∀ lo hi, intIn x lo hi = false) ∧ ∃ c, PySem.W.kitOne K t (.type "bool") = some c ∧ (c = true → ∀ lo hi, intIn x lo hi = false) ∧ (b = true → c = false → ∃ i, x = .int i)) := by
  cases a with
  | non => exact ⟨_, .base .non, false, kit_ty (by decide +kernel), fun _ _ _ => rfl, false, kit_ty (by decide +kernel), fun _ _ _ => rfl, fun z => nomatch z⟩
  | bl b => exact ⟨_, .base (.bl b), true, kit_ty (by decide +kernel), fun _ _ _ => rfl, true, kit_ty (by decide +kernel), fun _ _ _ => rfl, fun _ z => nomatch z⟩
  | int i => exact ⟨.type "int", .base (.int i), true, kit_ty (by decide +kernel), fun z => Bool.noConfusion z, false, kit_ty (by decide +kernel), fun z => Bool.noConfusion z, fun _ _ => ⟨i, rfl⟩⟩
  | str x => exact ⟨_, .base (.str x), false, kit_ty (by decide +kernel), fun _ _ _ => rfl, false, kit_ty (by decide +kernel), fun _ _ _ => rfl, fun z => nomatch z⟩
  | lst e => exact ⟨_, .base (.lst e), false, kit_ty (by decide +kernel), fun _ _ _ => rfl, false, kit_ty (by decide +kernel), fun _ _ _ => rfl, fun z => nomatch z⟩
  | tup e => exact ⟨_, .base (.tup e), false, kit_ty (by decide +kernel), fun _ _ _ => rfl, false, kit_ty (by decide +kernel), fun _ _ _ => rfl, fun z => nomatch z⟩
  | dct e => exact ⟨_, .base (.dK e), false, kit_ty (by decide +kernel), fun _ _ _ => rfl, false, kit_ty (by decide +kernel), fun _ _ _ => rfl, fun z => nomatch z⟩
  | ins t e => exact ⟨_, .base (t.ty e), false, t.nint, fun _ _ _ => rfl, false, t.nbool, fun _ _ _ => rfl, fun z => nomatch z⟩
theorem ok_is_integer (T : Tx P K mg) : FnOk P w K mg base CX0 lv_is_integer T.a_is_integer T.d_is_integer ["told", "low", "high"] (spIsInt T) := by
  refine T.F_is_integer.ok sc_is_integer (fun vs H Q E h => ?_) (fun cdv A outer s H vs Q E hr h => ?_)
  · obtain ⟨x, lo, hi, rfl, _⟩ := h
    rfl
  · obtain ⟨x, lo, hi, rfl, a, k⟩ := h
    refine ⟨_, (pss_one (ps_ret (pe_and (pe_callB call_isi (by rfl) T.n_isinstance (by decide +kernel) (pa_cons (pv 0) (pa_cons (pe_bltn (v := .ty "int") rfl T.n_int (by decide +kernel) rfl) pa_nil))) (pe_and (pe_not (pe_callB call_isi (by rfl) T.n_isinstance (by decide +kernel) (pa_cons (pv 0) (pa_cons (pe_bltn (v := .ty "bool") rfl T.n_bool (by decide +kernel) rfl) pa_nil)))) (pe_one (pe_chain op_le op_le (pv 1) (pv 0) (pv 2))))))), ?_⟩
    obtain ⟨t, ty, b, e1, h1, c, e2, h2, h3⟩ := isi_int T a
    refine ⟨_, rfl, _, _, _, _, b, rfl, .ty _, ty, e1, b, rfl, ?_⟩
    cases b with
    | false => exact iteF (by rw [h1 rfl lo hi] at k; exact k)
    | true =>
      refine iteT ?_
      refine ⟨_, rfl, _, _, _, _, c, rfl, .ty _, ty, e2, c, rfl, _, rfl, ?_⟩
      cases c with
      | true => exact iteF (by rw [h2 rfl lo hi] at k; exact k)
      | false =>
        refine iteT ?_
        obtain ⟨i, rfl⟩ := h3 rfl rfl
        refine ⟨_, rfl, _, rfl, _, _, rfl, rfl, _, rfl, ?_⟩
        have ke : Q (V.bl (decide (lo ≤ i) && decide (i ≤ hi))) H := k
        refine ite2 (fun c1 => ?_) (fun c1 => ?_)
        · rw [c1] at ke
          exact ⟨_, rfl, _, _, rfl, rfl, ke⟩
        · rw [show decide (lo ≤ i) = false from by simpa using c1] at ke
          exact ke
/-- base, take and the like: a value in the range, or the error of the class C -/
def spChk (T : Tx P K mg) (C : Addr) (lo hi : Int) : Sp := fun vs H Q E => ∃ x : V, vs = [x] ∧ AnyV (OwnT T) H x ∧ (intIn x lo hi = true → Q .non H) ∧ (intIn x lo hi = false → E (.ref C) none H)

theorem ok_check_base (T : Tx P K mg) : FnOk P w K mg base (L2.CX P w) lv_check_base T.a_check_base T.d_check_base ["base"] (spChk T T.C_BadBase 2 16) := by
  refine T.F_check_base.okX sc_check_base (fun vs H Q E h => ?_) (fun cdv A outer s H vs Q E hr h => ?_)
  · obtain ⟨x, rfl, _⟩ := h
    rfl
  · obtain ⟨x, rfl, a, k1, k2⟩ := h
    refine ⟨_, (pss_one (ps_if (pt_not (pt_val (pe_call (ok_is_integer T) (hr.mono (by decide)) rfl T.g_is_integer T.F_is_integer.kp T.b_is_integer .nil pass0 (pa_cons (pv 0) (pa_cons (pe_glob (v := .int 2) rfl T.c_LEAST_BASE ⟨_, rfl⟩) (pa_cons (pe_glob (v := .int 16) rfl T.c_GREATEST_BASE ⟨_, rfl⟩) pa_nil)))))) (pss_one (ps_raise rfl (takes_of rfl rfl rfl rfl) (pmk_own PySem.F.excBase_ValueError T.x_BadBase T.g_BadBase T.k_BadBase (raises_own T.s_BadBase T.t_BadBase) rfl))) pss_nil)), ?_⟩
    refine ⟨_, rfl, _, _, _, rfl, a, _, rfl, ?_⟩
    cases e : intIn x 2 16 with
    | true => exact iteF (k1 e)
    | false => exact iteT (k2 e)

theorem ok_check_take (T : Tx P K mg) : FnOk P w K mg base (L2.CX P w) lv_check_take T.a_check_take T.d_check_take ["take"] (spChk T T.C_BadTake 1 2) := by
  refine T.F_check_take.okX sc_check_take (fun vs H Q E h => ?_) (fun cdv A outer s H vs Q E hr h => ?_)
  · obtain ⟨x, rfl, _⟩ := h
    rfl
  · obtain ⟨x, rfl, a, k1, k2⟩ := h
    refine ⟨_, (pss_one (ps_if (pt_not (pt_val (pe_call (ok_is_integer T) (hr.mono (by decide)) rfl T.g_is_integer T.F_is_integer.kp T.b_is_integer .nil pass0 (pa_cons (pv 0) (pa_cons pe_int (pa_cons (pe_glob (v := .int 2) rfl T.c_GREATEST_TAKE ⟨_, rfl⟩) pa_nil)))))) (pss_one (ps_raise rfl (takes_of rfl rfl rfl rfl) (pmk_own PySem.F.excBase_ValueError T.x_BadTake T.g_BadTake T.k_BadTake (raises_own T.s_BadTake T.t_BadTake) rfl))) pss_nil)), ?_⟩
    refine ⟨_, rfl, _, _, _, rfl, a, _, rfl, ?_⟩
    cases e : intIn x 1 2 with
    | true => exact iteF (k1 e)
    | false => exact iteT (k2 e)

/-! ### divisors up to a greatest one -/
def spDivisor (T : Tx P K mg) : Sp := fun vs H Q E => ∃ (x : V) (g : Int), vs = [x, .int g] ∧ 1 ≤ g ∧ g ≤ 100 ∧ AnyV (OwnT T) H x ∧ (intIn x 1 g = true → Q .non H) ∧ (intIn x 1 g = false → E (.ref T.C_BadDivisor) none H)
theorem ok_check_divisor (T : Tx P K mg) : FnOk P w K mg base (L2.CX P w) lv_check_divisor T.a_check_divisor T.d_check_divisor ["d", "greatest"] (spDivisor T) := by
  refine FunD.ok T.F_check_divisor sc_check_divisor (fun vs H Q E h => ?_) (fun cdv A outer s H vs Q E hr h => ?_)
  · obtain ⟨x, g, rfl, _⟩ := h
    rfl
  · obtain ⟨x, g, rfl, g1, g2, a, k1, k2⟩ := h
    refine ⟨_, (pss_one (ps_if (pt_not (pt_val (pe_call (ok_is_integer T) (hr.mono (by decide)) rfl T.g_is_integer T.F_is_integer.kp T.b_is_integer .nil pass0 (pa_cons (pv 0) (pa_cons pe_int (pa_cons (pv 1) pa_nil)))))) (pss_one (ps_raise rfl (takes_of rfl rfl rfl rfl) (SkE.pmk_own1 PySem.F.excBase_ValueError T.x_BadDivisor T.g_BadDivisor T.k_BadDivisor (raises_own T.s_BadDivisor T.t_BadDivisor) rfl (pe_joined (PJ.cons pe_str (PJ.cons (pe_fmt (pv 1)) PJ.nil)))))) pss_nil)), ?_⟩
    refine ⟨_, rfl, _, rfl, _, _, _, rfl, a, _, rfl, ?_⟩
    cases e : intIn x 1 g with
    | true => exact iteF (k1 e)
    | false =>
      have sm : g.natAbs.log2 < 1920 := Nat.lt_of_le_of_lt (Nat.log2_le_self _) (by omega)
      refine iteT ⟨_, rfl, (by rw [Str.length_append, sizeLine_eq]; exact Nat.le_trans (Nat.add_le_add (Nat.zero_le 0) (show ("no integer from 1 to " : Str).length ≤ 21 by decide)) (by decide)), _, rfl, .inr ⟨g, rfl, sm, _, rfl, ?_, k2 e⟩⟩
      rw [Str.length_append, Str.length_append, sizeLine_eq]
      have e0 := int_text_length_le (k := 1920) (by decide) sm
      have e2 : (Str.ofString (toString g)).length = (toString g).length := PySem.ofString_length _
      have e3 : ("no integer from 1 to " : Str).length ≤ 21 := by decide
      have e4 : Str.empty.length = 0 := rfl
      have e5 : ((toString g : Str)).length = (Str.ofString (toString g)).length := rfl
      omega

/-! ### enumerate(tuple) -/
end
end Rt
namespace EnumX
open PySem PyProof.Rows
theorem new1 {u : Value} {ob : Obj} {Z : Heap → Prop} (B : Begins u ob Z) : Meets (Builtin.«enumerate.__new__» ⟨[.type "enumerate", u], []⟩) (fun _ R s => Z s.heap ∧
      R (.ok (.ret (.ref (s.heap.push ob).objs.size))) { s with heap := (s.heap.push ob).push ⟨.type "enumerate", none, .fields #[.none, .bool false, .ref s.heap.objs.size, rawInt 0, .none, .none], #[]⟩ }) := by
  refine Meets.of_wp fun P w A R s hyp => ?_
  obtain ⟨z, fin⟩ := hyp
  obtain ⟨hp, g, d, tk, os⟩ := s
  have se := sub_enumerate
  have go : ∀ {A2 : Around} {E2 Q2 : Value → Shared → Prop}, Q2 (.ref hp.objs.size) ⟨hp.push ob, g, d, tk, os⟩ → wpAny (model P w) A2 (pyIter u) Q2 E2 ⟨hp, g, d, tk, os⟩ := fun q => B.iter P w _ _ ⟨hp, g, d, tk, os⟩ _ z q
  wp_walk using go
  refine wpAny_stack_any fun stk => (wpAny_pure ?_)
  split
  · rename_i cc _ _ _ _ _
    cases (cc == Value.type "enumerate") <;> (wp_walk using go; exact ⟨_, rfl, fin⟩)
  · wp_walk using go
    exact ⟨_, rfl, fin⟩
theorem made1 {P : Program} {w : World} {A : Around} {E Q : Value → Shared → Prop} {s : Shared} {u : Value} {ob : Obj} {Z : Heap → Prop} (B : Begins u ob Z) (z : Z s.heap)
    (q : ∀ h2, IsEnum h2 (s.heap.objs.size + 1) s.heap.objs.size 0 .none → h2.get? s.heap.objs.size = some ob → (∀ b o, s.heap.get? b = some o → h2.get? b = some o) → Q (.ref (s.heap.objs.size + 1)) { s with heap := h2 }) :
    wpAny (model P w) A (call (.type "enumerate") [u]) Q E s := by
  refine callType_new F.called_enumerate (by decide) (F.typeCall_enumerate_1 u) (F.newCall_enumerate_1 u) (fun ob => F.args_object_init_2 ob u) F.entry_enumerate_new (new1 B) ⟨z, ?_⟩
  have sz : (s.heap.push ob).objs.size = s.heap.objs.size + 1 := Heap.size_push ..
  have at1 : ((s.heap.push ob).push ⟨.type "enumerate", none, .fields #[.none, .bool false, .ref s.heap.objs.size, rawInt 0, .none, .none], #[]⟩).get? (s.heap.objs.size + 1) = some ⟨.type "enumerate", none, .fields #[.none, .bool false, .ref s.heap.objs.size, rawInt 0, .none, .none], #[]⟩ := by
    rw [← sz]
    exact Heap.get?_push_size _ rfl
  show _ ∧ _
  rw [sz]
  exact ⟨⟨_, at1, rfl⟩, q _ at1 (Heap.get?_push_of_some _ (Heap.get?_push_size _ B.free)) fun b o e => Heap.get?_push_of_some _ (Heap.get?_push_of_some _ e)⟩
/-- at the end nothing is drawn -/
theorem drawn_out {P : Program} {w : World} {A : Around} (hh : A.handled = none) (it t : Addr) (ne : t ≠ it) (its : Array Value) (n : Nat) (hn : its.size ≤ n) : Draws P w A it [it, t] n (fun _ _ => True) (fun j h => j = n ∧ h.IsTupleIter it t n ∧ h.IsTuple t its) where
  live := fun _ _ ⟨_, ⟨o, e, _⟩, _⟩ => ⟨o, e⟩
  frame := fun _ _ _ ⟨z, a, b⟩ k => ⟨z, a.at fun o e => k it List.mem_cons_self o e, b.at fun o e => k t (List.mem_cons_of_mem _ List.mem_cons_self) o e⟩
  item := fun j _ _ _ lt ⟨z, _⟩ _ => absurd z (Nat.ne_of_lt lt)
  done := fun s Q E ⟨_, a, b⟩ q => wpAny_nextOf_tuple_end hh a b (Array.getElem?_eq_none hn) q
end EnumX
namespace L2
open PySem PySem.Spec PyProof.Rows
/-- the tuple at a, each item in a new pair with its place -/
def IteT (K : PySem.W.Frag) (a : Addr) : It where
  go := fun i H => ∃ (ys : List V) (y : V), SqT K H a ys ∧ ys[i]? = some y
  yld := fun i H v H2 => ∃ c y, v = .ref c ∧ H c = none ∧ H2 = upd H c (.tup [.int (i : Nat), y]) ∧ ∀ ys, SqT K H a ys → ys[i]? = some y
  stop := fun i H => ∃ ys : List V, SqT K H a ys ∧ ys.length ≤ i
theorem turn_enumT {P : Program} {w : World} {K : PySem.W.Frag} {elts : List PySem.Expr} {kk : Nat} {tpos : Pos} (a e it : Addr) :
    Turn P w K (.Tuple elts kk tpos) (IteT K a) [e, it] e (fun i h => (∃ old, IsEnum h e it ((i : Nat) : Int) old) ∧ h.IsTupleIter it a i ∧ e ≠ it) where
  mem := List.mem_cons_self
  obj := fun i h st b hb => by
    obtain ⟨⟨v0, en⟩, ⟨o, g1, g2, g3⟩, _⟩ := st
    rcases List.mem_cons.mp hb with z | hb2
    · rw [z]
      exact ⟨_, en, fun v q => nomatch q⟩
    · rw [List.mem_singleton.mp hb2]
      exact ⟨o, g1, fun v q => by rw [g3] at q; cases q⟩
  keep := fun i h h2 st k => by
    obtain ⟨⟨v0, en⟩, ti, ne⟩ := st
    exact ⟨⟨v0, k e List.mem_cons_self _ en⟩, ti.at fun o q => k it (List.mem_cons_of_mem _ List.mem_cons_self) o q, ne⟩
  item := by
    intro X hP hw hK hc i pins s σ H E I hf st hg
    subst hP hw hK
    obtain ⟨⟨v0, en⟩, ti, ne⟩ := st
    obtain ⟨ys, y, sq, hy⟩ := hg
    obtain ⟨its, vals, tp, ln⟩ := I.tuple sq
    obtain ⟨u, hu, ru⟩ := vals.get hy
    have tpl : s.heap.IsTuple a its.toArray := tp
    have le : e < s.heap.objs.size := Heap.lt_size en
    have li : it < s.heap.objs.size := by
      obtain ⟨_, q, _⟩ := ti
      exact Heap.lt_size q
    have nea : e ≠ a := fun z => by
      obtain ⟨o, g1, g2, _⟩ := tpl
      rw [← z, (show s.heap.get? e = some _ from en)] at g1
      rw [← Option.some.inj g1] at g2
      exact absurd (show Value.type "enumerate" = Value.type "tuple" from g2) (by decide)
    have nia : it ≠ a := fun z => by
      obtain ⟨o, g1, g2, _⟩ := tpl
      obtain ⟨o2, f1, f2, _⟩ := ti
      rw [← z, f1] at g1
      rw [← Option.some.inj g1, f2] at g2
      exact absurd g2 (by decide)
    refine wpAny_pyNext_enum_itemD (Draws.tuple (show X.A.in1.handled = none from I.ok.hd hc) it a (Ne.symm nia) its.toArray) en ⟨ti, tpl⟩ (by have := (List.getElem?_eq_some_iff.mp hu).1; simpa using this) ne (by simp [ne, nea]) fun x h2 tk px eo st2 nt sz kp => ?_
    have exu : x = u := by
      have px2 : its.toArray[i]? = some x := px
      rw [List.getElem?_toArray, hu] at px2
      exact (Option.some.inj px2).symm
    subst exu
    refine ⟨_, rfl, wpAny_letOwnedTupleGo_enum (s := { s with heap := h2, toks := tk + 1 }) eo fun h3 en3 sb => ?_⟩
    have nt3 : h3.get? s.heap.objs.size = some { cls := .type "tuple", data := .seq #[.int i tk, x] } := (sb.2 _ (Nat.ne_of_gt le)).trans nt
    have nw : ObjOk X.prog X.w (upd H s.heap.objs.size (.tup [.int (i : Nat), y])) h3 s.heap.objs.size (.tup [.int (i : Nat), y]) := ⟨by show 2 ≤ sizeLine; decide, [.int i tk, x], .cons ⟨_, rfl⟩ (.cons ru .nil), ⟨_, nt3, rfl, _, rfl⟩⟩
    have J : Inv X pins σ (upd H s.heap.objs.size (.tup [.int (i : Nat), y])) { s with heap := h3, toks := tk + 1 } :=
      I.turnedNew (ch := [e, it]) (fun b ob hb q => (sb.2 b (fun z => hb (z ▸ List.mem_cons_self))).trans (kp b ob (fun z => hb (z ▸ List.mem_cons_self)) (fun z => hb (z ▸ List.mem_cons_of_mem _ List.mem_cons_self)) q)) hf (Nat.le_refl _) nw
    refine ⟨.ref s.heap.objs.size, _, J, rfl, ⟨_, y, rfl, I.hok.fresh (Nat.le_refl _), rfl, fun zs hz => by rw [I.tuple_inj hz sq]; exact hy⟩, ⟨⟨x, ?_⟩, st2.1.at fun o q => (sb.2 it (Ne.symm ne)).trans q, ne⟩, fun b hb => ?_⟩
    · rw [show ((i + 1 : Nat) : Int) = (i : Int) + 1 from by omega]
      exact en3
    · have lb : b < s.heap.objs.size := by
        rcases List.mem_cons.mp hb with z | hb2
        · rw [z]
          exact le
        · rw [List.mem_singleton.mp hb2]
          exact li
      rw [upd_ne (Nat.ne_of_lt lb)]
      exact (hf b hb).1
  done := by
    intro X hP hw hK hc i pins s σ H E I hf st hg
    subst hP hw hK
    obtain ⟨⟨v0, en⟩, ti, ne⟩ := st
    obtain ⟨ys, sq, ln⟩ := hg
    obtain ⟨its, vals, tp, _⟩ := I.tuple sq
    obtain ⟨f0, f1, f2, f3, f4, f5⟩ := hf it (List.mem_cons_of_mem _ List.mem_cons_self)
    have tpl : s.heap.IsTuple a its.toArray := tp
    have nia : it ≠ a := fun z => by
      obtain ⟨o, g1, g2, _⟩ := tpl
      obtain ⟨o2, q1, q2, _⟩ := ti
      rw [← z, q1] at g1
      rw [← Option.some.inj g1, q2] at g2
      exact absurd g2 (by decide)
    have hl := vals.length
    refine wpAny_pyNext_enum_endD (EnumX.drawn_out (show X.A.in1.handled = none from I.ok.hd hc) it a (Ne.symm nia) its.toArray i (by simp; omega)) en ⟨rfl, ti, tpl⟩ fun h2 eb => ⟨rfl, I.turned (t' := s.toks) (fun b o hb q => eb b o hb q) f0 f1 f3 f4 f5⟩
  self := fun A i s Q E st h => let ⟨⟨_, en⟩, _⟩ := st; wpAny_pyIter_enum en h
def iEnumT (K : PySem.W.Frag) (ta : TA) : TI := fun σ H R => ta σ H fun vs H1 => ∃ a ys, vs = [.ref a] ∧ SqT K H1 a ys ∧ R (IteT K a) H1
theorem pi_enumT {X : Cx} {e : PySem.Expr} {ta : TA} {p pos tpos : Pos} {elts : List PySem.Expr} {kk : Nat} (hg : Gl X "enumerate") (hm : X.mg "enumerate" = none) (ha : PA X [e] ta) (hs : starEach [e] X.env = [(false, eval e X.env)] := by rfl) :
    PI X (.Tuple elts kk tpos) (.Call (.Name "enumerate" p) [e] [] pos) (iEnumT X.K ta) := by
  refine ⟨fun pins s σ H R I wish => ?_⟩
  refine Call_ (ld_blt I hg hm boot_enumerate (PyProof.Rows.callWith_type1 (thn (ha.run pos pins s σ H _ I wish) fun us s1 hh => ?_) hs rfl))
  obtain ⟨vs, H1, I1, r1, a, ys, rfl, sq, q⟩ := hh
  cases r1 with
  | cons r rr =>
    cases rr
    cases r
    obtain ⟨its, vals, tp, ln⟩ := I1.tuple sq
    have tpl : s1.heap.IsTuple a its.toArray := tp
    refine EnumX.made1 (begins_tuple a its.toArray) tpl fun h2 en nw kp => wpAny_pyIter_enum en ?_
    have J : Inv X pins σ H1 { s1 with heap := h2 } := I1.kept (t' := s1.toks) kp
    refine ⟨s1.heap.objs.size + 1, [s1.heap.objs.size + 1, s1.heap.objs.size], _, _, H1, rfl, J, turn_enumT a (s1.heap.objs.size + 1) s1.heap.objs.size, ⟨⟨.none, en⟩, ⟨_, nw, rfl, rfl⟩, Nat.succ_ne_self _⟩, fun b hb => ?_, q⟩
    have le : s1.heap.objs.size ≤ b := by
      rcases List.mem_cons.mp hb with z | hb2
      · rw [z]
        exact Nat.le_succ _
      · rw [List.mem_singleton.mp hb2]
        exact Nat.le_refl _
    exact I1.fpOk le (I1.hok.fresh le)
theorem walk_enumT {K : PySem.W.Frag} {a : Addr} {ys : List V} : Walk (IteT K a) ys.length (fun H => SqT K H a ys) (YPair (fun i => some (.int (i : Nat))) (fun i => ys[i]?)) := by
  refine ⟨fun i _ lt q => ⟨ys, ys[i], q, by simp [lt]⟩, fun _ q => ⟨ys, q, Nat.le_refl _⟩, fun i H v H2 _ q w => ?_⟩
  obtain ⟨c, y, e1, e2, e3, e4⟩ := w
  exact ⟨c, .int (i : Nat), y, e1, e2, e3, rfl, e4 ys q⟩
end L2
namespace Rt
open PySem L2 PySem.Spec PyProof.Rows
section
variable {P : Program} {w : World} {K : PySem.W.Frag} {mg : Str → Option Value} {base : Heap}

/-! ### what stands where a value points -/
theorem AnyV.at {T : Addr → Prop} {H H1 : Hp} {c : Addr} {o : HO} (a : AnyV T H (.ref c)) (S : Same H H1) (e : H1 c = some o) : H c = some o := by
  cases a with
  | lst e2 => rw [S _ _ e2] at e; rw [← e]; exact e2
  | tup e2 => rw [S _ _ e2] at e; rw [← e]; exact e2
  | dct e2 => rw [S _ _ e2] at e; rw [← e]; exact e2
  | ins t e2 => rw [S _ _ e2] at e; rw [← e]; exact e2
/-- the things of the tuple x -/
def tupOf (H : Hp) (x : V) : Option (List V) := match x with
  | .ref c => match H c with
    | some (.tup ys) => some ys
    | _ => none
  | _ => none
theorem tupOf_ref {H : Hp} {c : Addr} {ys : List V} (h : H c = some (.tup ys)) : tupOf H (.ref c) = some ys := by
  show (match H c with | some (.tup ys) => some ys | _ => none) = _
  rw [h]
theorem tupOf_some {H : Hp} {x : V} {ys : List V} (h : tupOf H x = some ys) : ∃ c, x = .ref c ∧ H c = some (.tup ys) := by
  cases x with
  | ref c =>
    refine ⟨c, rfl, ?_⟩
    have h2 : (match H c with | some (.tup ys) => some ys | _ => none) = some ys := h
    split at h2
    · rename_i zs e
      cases h2
      exact e
    · cases h2
  | _ => cases h
theorem tupOf_same {T : Addr → Prop} {H H2 : Hp} {x : V} (a : AnyV T H x) (S : Same H H2) : tupOf H2 x = tupOf H x := by
  cases e : tupOf H x with
  | some ys =>
    obtain ⟨c, rfl, h⟩ := tupOf_some e
    exact tupOf_ref (S _ _ h)
  | none =>
    cases e2 : tupOf H2 x with
    | none => rfl
    | some ys =>
      obtain ⟨c, rfl, h⟩ := tupOf_some e2
      rw [tupOf_ref (a.at S h)] at e
      cases e
/-- its things are any values -/
def ItemsAny (T : Addr → Prop) (H : Hp) (x : V) : Prop := ∀ ys, tupOf H x = some ys → ∀ y ∈ ys, AnyV T H y
theorem ItemsAny.same {T : Addr → Prop} {H H2 : Hp} {x : V} (h : ItemsAny T H x) (a : AnyV T H x) (S : Same H H2) : ItemsAny T H2 x := fun ys e y hy => by
  rw [tupOf_same a S] at e
  exact (h ys e y hy).mono S
theorem ItemsAny.ints {T : Addr → Prop} {H : Hp} {c : Addr} {ns : List Int} (h : H c = some (.tup (ns.map V.int))) : ItemsAny T H (.ref c) := fun ys e y hy => by
  rw [tupOf_ref h] at e
  cases e
  obtain ⟨z, _, rfl⟩ := List.mem_map.mp hy
  exact .int z
theorem ItemsAny.non {T : Addr → Prop} {H : Hp} {x : V} (h : tupOf H x = none) : ItemsAny T H x := fun ys e => by
  rw [h] at e
  cases e
/-- the place of the first thing that is no integer from a to b -/
def firstW (a b : Int) : List V → Option Nat
  | [] => none
  | y :: ys => if intIn y a b = true then (firstW a b ys).map (· + 1) else some 0
theorem firstW_none {a b : Int} : ∀ {ys : List V}, (∀ y ∈ ys, intIn y a b = true) → firstW a b ys = none
  | [], _ => rfl
  | y :: ys, h => by
    unfold firstW
    rw [if_pos (h y List.mem_cons_self), firstW_none fun z hz => h z (List.mem_cons_of_mem _ hz)]
    rfl
theorem firstW_all {a b : Int} : ∀ {ys : List V}, firstW a b ys = none → ∀ y ∈ ys, intIn y a b = true
  | [], _, _, hy => by cases hy
  | z :: ys, h, y, hy => by
    unfold firstW at h
    by_cases e : intIn z a b = true
    · rw [if_pos e] at h
      rcases List.mem_cons.mp hy with rfl | hy
      · exact e
      · exact firstW_all (Option.map_eq_none_iff.mp h) y hy
    · rw [if_neg e] at h
      cases h
theorem firstW_at {a b : Int} : ∀ {ys : List V} {i : Nat} {y : V}, (∀ (j : Nat) (z : V), j < i → ys[j]? = some z → intIn z a b = true) → ys[i]? = some y → intIn y a b = false → firstW a b ys = some i
  | [], i, y, _, h, _ => by cases h
  | z :: ys, 0, y, _, h, e => by
    cases h
    unfold firstW
    rw [if_neg (by rw [e]; exact Bool.false_ne_true)]
  | z :: ys, i + 1, y, h0, h, e => by
    unfold firstW
    rw [if_pos (h0 0 z (Nat.succ_pos _) rfl), firstW_at (i := i) (y := y) (fun j x hj hx => h0 (j + 1) x (Nat.succ_lt_succ hj) hx) h e]
    rfl
theorem firstW_lt {a b : Int} : ∀ {ys : List V} {i : Nat}, firstW a b ys = some i → i < ys.length
  | [], _, h => by cases h
  | y :: ys, i, h => by
    unfold firstW at h
    by_cases e : intIn y a b = true
    · rw [if_pos e] at h
      obtain ⟨j, hj, rfl⟩ := Option.map_eq_some_iff.mp h
      exact Nat.succ_lt_succ (firstW_lt hj)
    · rw [if_neg e] at h
      cases h
      exact Nat.succ_pos _
theorem firstW_some {a b : Int} : ∀ {ys : List V} {i : Nat}, firstW a b ys = some i → (∀ (j : Nat) (z : V), j < i → ys[j]? = some z → intIn z a b = true) ∧ ∃ y, ys[i]? = some y ∧ intIn y a b = false
  | [], _, h => by cases h
  | y :: ys, i, h => by
    unfold firstW at h
    by_cases e : intIn y a b = true
    · rw [if_pos e] at h
      obtain ⟨j, hj, rfl⟩ := Option.map_eq_some_iff.mp h
      obtain ⟨h1, z, h2, h3⟩ := firstW_some hj
      refine ⟨fun m v hm hv => ?_, z, h2, h3⟩
      cases m with
      | zero =>
        cases hv
        exact e
      | succ m => exact h1 m v (by omega) hv
    · rw [if_neg e] at h
      cases h
      exact ⟨fun m v hm => absurd hm (Nat.not_lt_zero _), y, rfl, by simpa using e⟩
/-- what is wrong of a tuple of lo to hi integers from a to b: nothing, None, or the first wrong place -/
def verdict (lo hi : Nat) (a b : Int) (o : Option (List V)) : Option V := match o with
  | none => some .non
  | some ys => if lo ≤ ys.length ∧ ys.length ≤ hi then (firstW a b ys).map fun i => .int (i : Nat) else some .non
theorem verdict_some (lo hi : Nat) (a b : Int) (ys : List V) : verdict lo hi a b (some ys) = if lo ≤ ys.length ∧ ys.length ≤ hi then (firstW a b ys).map fun i => .int (i : Nat) else some .non := rfl
theorem verdict_good {lo hi : Nat} {a b : Int} {ys : List V} (l1 : lo ≤ ys.length) (l2 : ys.length ≤ hi) (h : ∀ y ∈ ys, intIn y a b = true) : verdict lo hi a b (some ys) = none := by
  rw [verdict_some, if_pos ⟨l1, l2⟩, firstW_none h]
  rfl
theorem verdict_none {lo hi : Nat} {a b : Int} {o : Option (List V)} (h : verdict lo hi a b o = none) : ∃ ys, o = some ys ∧ lo ≤ ys.length ∧ ys.length ≤ hi ∧ ∀ y ∈ ys, intIn y a b = true := by
  cases o with
  | none => cases h
  | some ys =>
    rw [verdict_some] at h
    by_cases l : lo ≤ ys.length ∧ ys.length ≤ hi
    · rw [if_pos l] at h
      exact ⟨ys, rfl, l.1, l.2, firstW_all (Option.map_eq_none_iff.mp h)⟩
    · rw [if_neg l] at h
      cases h

/-! ### tuples of so many things; the first wrong one -/
def isTup (lo hi : Int) (o : Option (List V)) : Bool := match o with
  | none => false
  | some ys => decide (lo ≤ (ys.length : Int)) && decide ((ys.length : Int) ≤ hi)
theorem isi_tup (T : Tx P K mg) {H : Hp} {x : V} (a : AnyV (OwnT T) H x) : ∃ t, TyX K H x t ∧ ∃ b, PySem.W.kitOne K t (.type "tuple") = some b ∧ (b = false → tupOf H x = none) ∧ (b = true → ∃ c ys, x = .ref c ∧ H c = some (.tup ys)) := by
  have no : ∀ {c : Addr} {o : HO}, H c = some o → (∀ ys, o ≠ .tup ys) → tupOf H (.ref c) = none := fun {c o} e h => by
    cases q : tupOf H (.ref c) with
    | none => rfl
    | some ys =>
      obtain ⟨c', e1, e2⟩ := tupOf_some q
      cases e1
      rw [e] at e2
      exact absurd (Option.some.inj e2) (h ys)
  cases a with
  | non => exact ⟨_, .base .non, false, kit_ty (by decide +kernel), fun _ => rfl, fun z => nomatch z⟩
  | bl b => exact ⟨_, .base (.bl b), false, kit_ty (by decide +kernel), fun _ => rfl, fun z => nomatch z⟩
  | int i => exact ⟨.type "int", .base (.int i), false, kit_ty (by decide +kernel), fun _ => rfl, fun z => nomatch z⟩
  | str x => exact ⟨_, .base (.str x), false, kit_ty (by decide +kernel), fun _ => rfl, fun z => nomatch z⟩
  | lst e => exact ⟨_, .base (.lst e), false, kit_ty (by decide +kernel), fun _ => no e (fun _ z => nomatch z), fun z => nomatch z⟩
  | tup e => exact ⟨_, .base (.tup e), true, kit_ty (by decide +kernel), fun z => (nomatch z), fun _ => ⟨_, _, rfl, e⟩⟩
  | dct e => exact ⟨_, .base (.dK e), false, kit_ty (by decide +kernel), fun _ => no e (fun _ z => nomatch z), fun z => nomatch z⟩
  | ins t e => exact ⟨_, .base (t.ty e), false, t.ntuple, fun _ => no e (fun _ z => nomatch z), fun z => nomatch z⟩

def spIsTup (T : Tx P K mg) : Sp := fun vs H Q _ => ∃ (x : V) (lo hi : Int), vs = [x, .int lo, .int hi] ∧ AnyV (OwnT T) H x ∧ Q (.bl (isTup lo hi (tupOf H x))) H
theorem ok_is_tuple (T : Tx P K mg) : FnOk P w K mg base CX0 lv_is_tuple T.a_is_tuple T.d_is_tuple ["told", "fewest", "most"] (spIsTup T) := by
  refine T.F_is_tuple.ok sc_is_tuple (fun vs H Q E h => ?_) (fun cdv A outer s H vs Q E hr h => ?_)
  · obtain ⟨x, lo, hi, rfl, _⟩ := h
    rfl
  · obtain ⟨x, lo, hi, rfl, a, k⟩ := h
    refine ⟨_, (pss_one (ps_ret (pe_and (pe_callB call_isi (by rfl) T.n_isinstance (by decide +kernel) (pa_cons (pv 0) (pa_cons (pe_bltn (v := .ty "tuple") rfl T.n_tuple (by decide +kernel) rfl) pa_nil))) (pe_one (pe_chain op_le op_le (pv 1) (pe_callB call_len_seq (by rfl) T.n_len (by decide +kernel) (pa_cons (pv 0) pa_nil)) (pv 2)))))), ?_⟩
    obtain ⟨t, ty, q, e1, h1, h2⟩ := isi_tup T a
    refine ⟨_, rfl, _, _, _, _, q, rfl, .ty _, ty, e1, q, rfl, ?_⟩
    cases q with
    | false =>
      rw [h1 rfl] at k
      exact iteF k
    | true =>
      obtain ⟨c, ys, rfl, e⟩ := h2 rfl
      rw [tupOf_ref e] at k
      have k : Q (V.bl (decide (lo ≤ (ys.length : Int)) && decide ((ys.length : Int) ≤ hi))) H := k
      refine iteT ⟨_, rfl, _, rfl, c, ys, rfl, .inr (SqT.of e), _, _, rfl, rfl, _, rfl, ?_⟩
      refine ite2 (fun g1 => ?_) (fun g1 => ?_)
      · rw [g1] at k
        exact ⟨_, rfl, _, _, rfl, rfl, k⟩
      · rw [show decide (lo ≤ (ys.length : Int)) = false from by simpa using g1] at k
        exact k
def optN (o : Option Nat) : V := match o with
  | none => .non
  | some i => .int (i : Nat)
def spFirstW (T : Tx P K mg) : Sp := fun vs H Q _ => ∃ (c : Addr) (ys : List V) (a b : Int), vs = [.ref c, .int a, .int b] ∧ H c = some (.tup ys) ∧ ys.length ≤ 1000 ∧ (∀ y ∈ ys, AnyV (OwnT T) H y) ∧ ∀ H2, Same H H2 → Q (optN (firstW a b ys)) H2
theorem ok_first_wrong (T : Tx P K mg) : FnOk P w K mg base CX0 lv_first_wrong T.a_first_wrong T.d_first_wrong ["told", "low", "high"] (spFirstW T) := by
  refine T.F_first_wrong.ok sc_first_wrong (fun vs H Q E h => ?_) (fun cdv A outer s H vs Q E hr h => ?_)
  · obtain ⟨c, ys, a, b, rfl, _⟩ := h
    rfl
  · obtain ⟨c, ys, a, b, rfl, e, hl, hy, k⟩ := h
    refine ⟨_, (pss_cons (ps_for PassesOwn.never rfl (pi_enumT (by rfl) T.n_enumerate (pa_cons (pv 0) pa_nil)) (pg_tup rfl (pgs_cons (pg_name (i := 3) sc_first_wrong.nd rfl (Or.inl rfl)) (pgs_cons (pg_name (i := 4) sc_first_wrong.nd rfl (Or.inl rfl)) pgs_nil))) (pss_one (ps_if (pt_not (pt_val (pe_call (ok_is_integer T) (hr.mono (by decide)) rfl T.g_is_integer T.F_is_integer.kp T.b_is_integer .nil pass0 (pa_cons (pv 4) (pa_cons (pv 1) (pa_cons (pv 2) pa_nil)))))) (pss_one (ps_ret (pv 3))) pss_nil)))
      (pss_one (ps_ret pe_non))), ?_⟩
    refine ⟨_, rfl, c, ys, rfl, SqT.of e, ?_⟩
    refine for_it (walk_enumT (a := c) (ys := ys)) (fun i σ H2 => ∃ v3 v4 : Option V, Same H H2 ∧ (∀ (j : Nat) (z : V), j < i → ys[j]? = some z → intIn z a b = true) ∧ σ = [some (.ref c), some (.int a), some (.int b), v3, v4]) ⟨none, none, fun _ _ e => e, fun j z lt _ => absurd lt (Nat.not_lt_zero _), rfl⟩ (fun i σ H2 _ ⟨_, _, S, _, _⟩ => SqT.of (S _ _ e)) ?_ ?_
    · rintro i x' σ H2 H3 hi ⟨v3, v4, S, hf, rfl⟩ ⟨p, x2, y, rfl, np, rfl, e2, hy'⟩
      cases e2
      have hy' : ys[i]? = some y := hy'
      refine ⟨p, _, rfl, SqT.of upd_same, rfl, _, _, rfl, _, _, rfl, rfl, ?_⟩
      have S3 := S.trans (same_upd (o := .tup [.int (i : Nat), y]) np)
      have ay : AnyV (OwnT T) (upd H2 p (.tup [.int (i : Nat), y])) y := (hy y (List.mem_of_getElem? hy')).mono S3
      refine ⟨_, rfl, _, rfl, _, rfl, y, a, b, rfl, ay, _, rfl, ?_⟩
      cases g : intIn y a b with
      | true =>
        refine iteF ⟨_, _, S3, fun j z lt hz => ?_, rfl⟩
        rcases Nat.lt_or_ge j i with q | q
        · exact hf j z q hz
        · rw [show j = i by omega, hy'] at hz
          cases hz
          exact g
      | false =>
        have k2 := k _ S3
        rw [firstW_at hf hy' g] at k2
        exact iteT ⟨_, rfl, k2⟩
    · rintro σ H2 ⟨v3, v4, S, hf, rfl⟩
      have k2 := k _ S
      rw [firstW_none fun y hy => by
        obtain ⟨j, hj⟩ := List.mem_iff_getElem?.mp hy
        exact hf j y (List.getElem?_eq_some_iff.mp hj).1 hj] at k2
      exact k2

/-! ### weights -/
abbrev wVerd (lo : Nat) (H : Hp) (x : V) : Option V := verdict lo 12 (-(10 ^ 6)) (10 ^ 6) (tupOf H x)
def spWeights (T : Tx P K mg) : Sp := fun vs H Q E => ∃ (x : V) (lo : Nat), vs = [x, .int (lo : Int)] ∧ AnyV (OwnT T) H x ∧ ItemsAny (OwnT T) H x ∧ (wVerd lo H x = none → ∀ H2, Same H H2 → Q .non H2) ∧
  ∀ v, wVerd lo H x = some v → ∀ H2 d, Same H H2 → H2 d = none → E (.ref T.C_BadWeights) (some d) (upd H2 d (.xd [(("index" : Str), v)]))
theorem ok_check_weights (T : Tx P K mg) : FnOk P w K mg base (L2.CX P w) lv_check_weights T.a_check_weights T.d_check_weights ["told", "fewest"] (spWeights T) := by
  refine T.F_check_weights.okX sc_check_weights (fun vs H Q E h => ?_) (fun cdv A outer s H vs Q E hr h => ?_)
  · obtain ⟨x, lo, rfl, _⟩ := h
    rfl
  · obtain ⟨x, lo, rfl, a, ia, k1, k2⟩ := h
    refine ⟨_, (pss_cons (ps_if (pt_not (pt_val (pe_call (ok_is_tuple T) (hr.mono (by decide)) rfl T.g_is_tuple T.F_is_tuple.kp T.b_is_tuple .nil pass0 (pa_cons (pv 0) (pa_cons (pv 1) (pa_cons (pe_glob (v := .int 12) rfl T.c_MOST_WEIGHTS ⟨_, rfl⟩) pa_nil)))))) (pss_one (ps_raiseF T.x_BadWeights ar_BadWeights rfl hr (takes_of rfl rfl rfl rfl) (pa_cons pe_non pa_nil))) pss_nil)
      (pss_cons (ps_set (i := 2) sc_check_weights.nd rfl (Or.inl rfl) (pe_call (ok_first_wrong T) (hr.mono (by decide)) rfl T.g_first_wrong T.F_first_wrong.kp T.b_first_wrong .nil pass0 (pa_cons (pv 0) (pa_cons (pe_un un_neg (pe_glob (v := .int 1000000) rfl T.c_GREATEST_WEIGHT ⟨_, rfl⟩)) (pa_cons (pe_glob (v := .int 1000000) rfl T.c_GREATEST_WEIGHT ⟨_, rfl⟩) pa_nil)))))
      (pss_one (ps_if (pt_cmpR op_notN (pv 2) pe_non (nomark _)) (pss_one (ps_raiseF T.x_BadWeights ar_BadWeights rfl hr (takes_of rfl rfl rfl rfl) (pa_cons (pv 2) pa_nil))) pss_nil)))), ?_⟩
    refine ⟨_, rfl, _, rfl, x, (lo : Int), 12, rfl, a, _, rfl, ?_⟩
    cases e : tupOf H x with
    | none =>
      have ev : wVerd lo H x = some .non := by unfold wVerd; rw [e]; rfl
      exact iteT ⟨_, rfl, .inl rfl, fun d hd => k2 _ ev H d (Same.refl H) hd⟩
    | some ys =>
      obtain ⟨c, rfl, hc⟩ := tupOf_some e
      show if (!(decide ((lo : Int) ≤ (ys.length : Int)) && decide ((ys.length : Int) ≤ 12))) = true then _ else _
      by_cases l : lo ≤ ys.length ∧ ys.length ≤ 12
      · rw [show (decide ((lo : Int) ≤ (ys.length : Int)) && decide ((ys.length : Int) ≤ 12)) = true from by rw [Bool.and_eq_true, decide_eq_true_eq, decide_eq_true_eq]; omega]
        have ev : wVerd lo H (.ref c) = (firstW (-(10 ^ 6)) (10 ^ 6) ys).map fun i => .int (i : Nat) := by
          unfold wVerd
          rw [e, verdict_some]
          exact if_pos l
        rw [ev] at k1 k2
        refine iteF ⟨_, rfl, _, rfl, c, ys, -(10 ^ 6), 10 ^ 6, rfl, hc, by omega, fun y hy => ia ys e y hy, fun H2 S2 => ?_⟩
        cases ef : firstW (-(10 ^ 6)) (10 ^ 6) ys with
        | none =>
          rw [ef] at k1
          refine ⟨_, rfl, rfl, _, rfl, ?_⟩
          rw [show decide (optN none = V.non) = true from decide_eq_true rfl]
          exact iteF (k1 rfl H2 S2)
        | some i =>
          have li : i < ys.length := by
            have := firstW_lt ef
            exact this
          rw [ef] at k2
          refine ⟨_, rfl, rfl, _, rfl, ?_⟩
          rw [show decide (optN (some i) = V.non) = false from decide_eq_false (fun z => nomatch z)]
          have sm : ((i : Int)).natAbs.log2 < 1920 := Nat.lt_of_le_of_lt (Nat.log2_le_self _) (by omega)
          exact iteT ⟨_, rfl, _, rfl, .inr ⟨_, rfl, sm⟩, fun d hd => k2 _ rfl H2 d S2 hd⟩
      · have ev : wVerd lo H (.ref c) = some .non := by
          unfold wVerd
          rw [e, verdict_some]
          exact if_neg l
        rw [show (decide ((lo : Int) ≤ (ys.length : Int)) && decide ((ys.length : Int) ≤ 12)) = false from by rw [Bool.and_eq_false_iff, decide_eq_false_iff_not, decide_eq_false_iff_not]; omega]
        exact iteT ⟨_, rfl, .inl rfl, fun d hd => k2 _ ev H d (Same.refl H) hd⟩

/-! ### sums -/
def sfl (x y u v : V) : List (Str × V) := putF "_loop" v (putF "_first" u (putF "_take" y (putF "_base" x [])))
theorem sn1 : ¬ (("_base" : Str) = "_take") := by decide +kernel
theorem sn2 : ¬ (("_base" : Str) = "_first") := by decide +kernel
theorem sn3 : ¬ (("_base" : Str) = "_loop") := by decide +kernel
theorem sn4 : ¬ (("_take" : Str) = "_first") := by decide +kernel
theorem sn5 : ¬ (("_take" : Str) = "_loop") := by decide +kernel
theorem sn6 : ¬ (("_first" : Str) = "_loop") := by decide +kernel
theorem sfl_base (x y u v : V) : (sfl x y u v).lookup ("_base" : Str) = some x := by
  unfold sfl
  rw [lookup_putF, if_neg sn3, lookup_putF, if_neg sn2, lookup_putF, if_neg sn1, lookup_putF, if_pos rfl]
theorem sfl_take (x y u v : V) : (sfl x y u v).lookup ("_take" : Str) = some y := by
  unfold sfl
  rw [lookup_putF, if_neg sn5, lookup_putF, if_neg sn4, lookup_putF, if_pos rfl]
theorem sfl_first (x y u v : V) : (sfl x y u v).lookup ("_first" : Str) = some u := by
  unfold sfl
  rw [lookup_putF, if_neg sn6, lookup_putF, if_pos rfl]
theorem sfl_loop (x y u v : V) : (sfl x y u v).lookup ("_loop" : Str) = some v := by
  unfold sfl
  rw [lookup_putF, if_pos rfl]
/-- weights -/
def Wts (lo : Nat) (ns : List Int) : Prop := lo ≤ ns.length ∧ ns.length ≤ 12 ∧ ∀ z ∈ ns, -(10 ^ 6) ≤ z ∧ z ≤ 10 ^ 6
/-- the Sum of these parts stands at p -/
def SumAt (T : Tx P K mg) (H : Hp) (p : Addr) (b t : Int) (fs ls : List Int) : Prop := ∃ (dx f l : Addr), H p = some (.ins T.C_Sum dx (sfl (.int b) (.int t) (.ref f) (.ref l))) ∧ H f = some (.tup (fs.map V.int)) ∧ H l = some (.tup (ls.map V.int)) ∧ 2 ≤ b ∧ b ≤ 16 ∧ 1 ≤ t ∧ t ≤ 2 ∧ Wts 0 fs ∧ Wts 1 ls
theorem SumAt.same {T : Tx P K mg} {H H' : Hp} {p : Addr} {b t : Int} {fs ls : List Int} (h : SumAt T H p b t fs ls) (s : Same H H') : SumAt T H' p b t fs ls :=
  let ⟨dx, f, l, e1, e2, e3, r⟩ := h
  ⟨dx, f, l, s _ _ e1, s _ _ e2, s _ _ e3, r⟩
theorem SumAt.but {T : Tx P K mg} {H H' : Hp} {p r : Addr} {ys : List V} {b t : Int} {fs ls : List Int} (h : SumAt T H p b t fs ls) (hr : H r = some (.lst ys)) (s : But r H H') : SumAt T H' p b t fs ls :=
  let ⟨dx, f, l, e1, e2, e3, q⟩ := h
  ⟨dx, f, l, s _ _ e1 (ne_of e1 hr (by intro z; cases z)), s _ _ e2 (ne_of e2 hr (by intro z; cases z)), s _ _ e3 (ne_of e3 hr (by intro z; cases z)), q⟩
theorem wVerd_good {H : Hp} {c : Addr} {lo : Nat} {ns : List Int} (h : H c = some (.tup (ns.map V.int))) (w : Wts lo ns) : wVerd lo H (.ref c) = none := by
  unfold wVerd
  rw [tupOf_ref h]
  refine verdict_good (by rw [List.length_map]; exact w.1) (by rw [List.length_map]; exact w.2.1) fun y hy => ?_
  obtain ⟨z, hz, rfl⟩ := List.mem_map.mp hy
  exact intIn_of (w.2.2 z hz).1 (w.2.2 z hz).2
/-- Sum(base, take, first, loop), of any values -/
def spSumI (T : Tx P K mg) : Sp := fun vs H Q E => ∃ (p dx : Addr) (x y u v : V), vs = [.ref p, x, y, u, v] ∧ H p = some (.ins T.C_Sum dx []) ∧ AnyV (OwnT T) H x ∧ AnyV (OwnT T) H y ∧ AnyV (OwnT T) H u ∧ AnyV (OwnT T) H v ∧ ItemsAny (OwnT T) H u ∧ ItemsAny (OwnT T) H v ∧
  (intIn x 2 16 = false → E (.ref T.C_BadBase) none H) ∧ (intIn x 2 16 = true → intIn y 1 2 = false → E (.ref T.C_BadTake) none H) ∧
  (intIn x 2 16 = true → intIn y 1 2 = true → ∀ w, wVerd 0 H u = some w → ∀ H2 d, Same H H2 → H2 d = none → E (.ref T.C_BadWeights) (some d) (upd H2 d (.xd [(("index" : Str), w)]))) ∧
  (intIn x 2 16 = true → intIn y 1 2 = true → wVerd 0 H u = none → ∀ w, wVerd 1 H v = some w → ∀ H2 d, Same H H2 → H2 d = none → E (.ref T.C_BadWeights) (some d) (upd H2 d (.xd [(("index" : Str), w)]))) ∧
  (intIn x 2 16 = true → intIn y 1 2 = true → wVerd 0 H u = none → wVerd 1 H v = none → ∀ H', H' p = some (.ins T.C_Sum dx (sfl x y u v)) → (∀ c o, H c = some o → c ≠ p → H' c = some o) → Q .non H')
theorem ok_Sum___init__ (T : Tx P K mg) : FnOk P w K mg base (L2.CX P w) lv_Sum___init__ T.a_Sum___init__ T.d_Sum___init__ ["self", "base", "take", "first", "loop"] (spSumI T) := by
  refine T.F_Sum___init__.okX sc_Sum___init__ (fun vs H Q E h => ?_) (fun cdv A outer s H vs Q E hr h => ?_)
  · obtain ⟨p, dx, x, y, u, v, rfl, _⟩ := h
    rfl
  · obtain ⟨p, dx, x, y, u, v, rfl, hp, ax, ay, au, av, iu, iv, e1, e2, e3, e4, k⟩ := h
    refine ⟨_, (pss_cons (ps_expr (pe_call (ok_check_base T) (hr.mono (by decide)) rfl T.g_check_base T.F_check_base.kp T.b_check_base .nil (passes_call (takes_of rfl rfl rfl rfl) fun _ _ _ _ h => h) (pa_cons (pv 1) pa_nil)))
      (pss_cons (ps_expr (pe_call (ok_check_take T) (hr.mono (by decide)) rfl T.g_check_take T.F_check_take.kp T.b_check_take .nil (passes_call (takes_of rfl rfl rfl rfl) fun _ _ _ _ h => h) (pa_cons (pv 2) pa_nil)))
      (pss_cons (ps_expr (pe_call (ok_check_weights T) (hr.mono (by decide)) rfl T.g_check_weights T.F_check_weights.kp T.b_check_weights .nil (passes_call (takes_of rfl rfl rfl rfl) fun _ _ _ _ h => h) (pa_cons (pv 3) (pa_cons pe_int pa_nil))))
      (pss_cons (ps_expr (pe_call (ok_check_weights T) (hr.mono (by decide)) rfl T.g_check_weights T.F_check_weights.kp T.b_check_weights .nil (passes_call (takes_of rfl rfl rfl rfl) fun _ _ _ _ h => h) (pa_cons (pv 4) (pa_cons pe_int pa_nil))))
      (pss_cons (ps_fld (pv 0) (pv 1) rfl)
      (pss_cons (ps_fld (pv 0) (pv 2) rfl)
      (pss_cons (ps_fld (pv 0) (pv 3) rfl)
      (pss_one (ps_fld (pv 0) (pv 4) rfl))))))))), ?_⟩
    refine ⟨_, rfl, x, rfl, ax, fun g1 => ?_, e1⟩
    refine ⟨_, rfl, y, rfl, ay, fun g2 => ?_, e2 g1⟩
    refine ⟨_, rfl, u, 0, rfl, au, iu, fun g3 H1 S1 => ?_, fun w hw => e3 g1 g2 w hw⟩
    have ev : wVerd 1 H1 v = wVerd 1 H v := by
      unfold wVerd
      rw [tupOf_same av S1]
    refine ⟨_, rfl, v, 1, rfl, av.mono S1, iv.same av S1, fun g4 H2 S2 => ?_, fun w hw H2 d S2 hd => e4 g1 g2 g3 w (ev ▸ hw) H2 d (S1.trans S2) hd⟩
    have S := S1.trans S2
    have hp2 := S _ _ hp
    refine ⟨_, rfl, _, rfl, p, _, dx, _, rfl, hp2, T.cl_Sum, T.na_Sum_base, (by show 0 < 1000; decide), ?_⟩
    refine ⟨_, rfl, _, rfl, p, _, dx, _, rfl, upd_same, T.cl_Sum, T.na_Sum_take, (by show 1 < 1000; decide), ?_⟩
    refine ⟨_, rfl, _, rfl, p, _, dx, _, rfl, upd_same, T.cl_Sum, T.na_Sum_first, (by show 2 < 1000; decide), ?_⟩
    refine ⟨_, rfl, _, rfl, p, _, dx, _, rfl, upd_same, T.cl_Sum, T.na_Sum_loop, (by show 3 < 1000; decide), ?_⟩
    refine k g1 g2 g3 (ev ▸ g4) _ upd_same fun c o e hc => ?_
    rw [upd_ne hc, upd_ne hc, upd_ne hc, upd_ne hc]
    exact S _ _ e
/-- a Sum of good parts is made -/
theorem mk_sum {T : Tx P K mg} {H1 : Hp} {p dx f l : Addr} {b t : Int} {fs ls : List Int} {R : Hp → Prop} {E : XK} (np : H1 p = none) (nd : H1 dx = none) (hf : H1 f = some (.tup (fs.map V.int))) (hl : H1 l = some (.tup (ls.map V.int))) (b1 : 2 ≤ b) (b2 : b ≤ 16) (t1 : 1 ≤ t) (t2 : t ≤ 2) (w1 : Wts 0 fs) (w2 : Wts 1 ls)
    (k : ∀ H2, SumAt T H2 p b t fs ls → Same H1 H2 → R H2) : spSumI T (.ref p :: ([.int b, .int t, .ref f, .ref l] ++ [])) (upd (upd H1 dx (.own p)) p (.ins T.C_Sum dx [])) (fun v H2 => v = .non ∧ R H2) E := by
  have S : Same H1 (upd (upd H1 dx (.own p)) p (.ins T.C_Sum dx [])) := fun c o e => by
    rw [upd_ne (ne_of_none e np), upd_ne (ne_of_none e nd)]
    exact e
  have hf2 := S _ _ hf
  have hl2 := S _ _ hl
  have nf : ∀ {v : V} {lo hi : Int} {G : Prop}, intIn v lo hi = true → intIn v lo hi = false → G := fun p q => Bool.noConfusion (p.symm.trans q)
  have g3 := wVerd_good hf2 w1
  have g4 := wVerd_good hl2 w2
  refine ⟨p, dx, .int b, .int t, .ref f, .ref l, rfl, upd_same, .int b, .int t, .tup hf2, .tup hl2, .ints hf2, .ints hl2, nf (intIn_of b1 b2), fun _ => nf (intIn_of t1 t2), fun _ _ w hw => ?_, fun _ _ _ w hw => ?_, fun _ _ _ _ H2 h2 kp => ⟨rfl, ?_⟩⟩
  · rw [g3] at hw
    cases hw
  · rw [g4] at hw
    cases hw
  · exact k H2 ⟨dx, f, l, h2, kp _ _ hf2 (ne_of_none hf np), kp _ _ hl2 (ne_of_none hl np), b1, b2, t1, t2, w1, w2⟩ (Same.made np nd kp)
/-! ### its parts -/
def spGetS (T : Tx P K mg) (g : V → V → V → V → V) : Sp := fun vs H Q _ => ∃ (p dx : Addr) (x y u v : V), vs = [.ref p] ∧ H p = some (.ins T.C_Sum dx (sfl x y u v)) ∧ Q (g x y u v) H
theorem ok_Sum_base (T : Tx P K mg) : FnOk P w K mg base CX0 lv_Sum_base T.a_Sum_base T.d_Sum_base ["self"] (spGetS T fun x _ _ _ => x) := by
  refine T.F_Sum_base.ok sc_Sum_base (fun vs H Q E h => ?_) (fun cdv A outer s H vs Q E hr h => ?_)
  · obtain ⟨p, dx, x, y, u, v, rfl, _⟩ := h
    rfl
  · obtain ⟨p, dx, x, y, u, v, rfl, e, k⟩ := h
    exact ⟨_, (pss_one (ps_ret (pe_fld (pv 0) rfl))), _, rfl, p, _, dx, _, _, rfl, e, T.cl_Sum, T.na_Sum_base, sfl_base x y u v, k⟩
theorem ok_Sum_take (T : Tx P K mg) : FnOk P w K mg base CX0 lv_Sum_take T.a_Sum_take T.d_Sum_take ["self"] (spGetS T fun _ y _ _ => y) := by
  refine T.F_Sum_take.ok sc_Sum_take (fun vs H Q E h => ?_) (fun cdv A outer s H vs Q E hr h => ?_)
  · obtain ⟨p, dx, x, y, u, v, rfl, _⟩ := h
    rfl
  · obtain ⟨p, dx, x, y, u, v, rfl, e, k⟩ := h
    exact ⟨_, (pss_one (ps_ret (pe_fld (pv 0) rfl))), _, rfl, p, _, dx, _, _, rfl, e, T.cl_Sum, T.na_Sum_take, sfl_take x y u v, k⟩
theorem ok_Sum_first (T : Tx P K mg) : FnOk P w K mg base CX0 lv_Sum_first T.a_Sum_first T.d_Sum_first ["self"] (spGetS T fun _ _ u _ => u) := by
  refine T.F_Sum_first.ok sc_Sum_first (fun vs H Q E h => ?_) (fun cdv A outer s H vs Q E hr h => ?_)
  · obtain ⟨p, dx, x, y, u, v, rfl, _⟩ := h
    rfl
  · obtain ⟨p, dx, x, y, u, v, rfl, e, k⟩ := h
    exact ⟨_, (pss_one (ps_ret (pe_fld (pv 0) rfl))), _, rfl, p, _, dx, _, _, rfl, e, T.cl_Sum, T.na_Sum_first, sfl_first x y u v, k⟩
theorem ok_Sum_loop (T : Tx P K mg) : FnOk P w K mg base CX0 lv_Sum_loop T.a_Sum_loop T.d_Sum_loop ["self"] (spGetS T fun _ _ _ v => v) := by
  refine T.F_Sum_loop.ok sc_Sum_loop (fun vs H Q E h => ?_) (fun cdv A outer s H vs Q E hr h => ?_)
  · obtain ⟨p, dx, x, y, u, v, rfl, _⟩ := h
    rfl
  · obtain ⟨p, dx, x, y, u, v, rfl, e, k⟩ := h
    exact ⟨_, (pss_one (ps_ret (pe_fld (pv 0) rfl))), _, rfl, p, _, dx, _, _, rfl, e, T.cl_Sum, T.na_Sum_loop, sfl_loop x y u v, k⟩
/-- what is a Sum, or the error -/
theorem isi_sum (T : Tx P K mg) {H : Hp} {x : V} (a : AnyV (fun _ => False) H x) : ∃ t, TyX K H x t ∧ PySem.W.kitOne K t (.ref T.C_Sum) = some false := by
  cases a with
  | non => exact ⟨_, .base .non, T.kin_Sum_NoneType⟩
  | bl b => exact ⟨_, .base (.bl b), T.kin_Sum_bool⟩
  | int i => exact ⟨_, .base (.int i), T.kin_Sum_int⟩
  | str x => exact ⟨_, .base (.str x), T.kin_Sum_str⟩
  | lst e => exact ⟨_, .base (.lst e), T.kin_Sum_list⟩
  | tup e => exact ⟨_, .base (.tup e), T.kin_Sum_tuple⟩
  | dct e => exact ⟨_, .base (.dK e), T.kin_Sum_dict⟩
  | ins t e => exact t.elim
def spChkSum (T : Tx P K mg) : Sp := fun vs H Q E => ∃ x : V, vs = [x] ∧ ((∃ p dx fs, x = .ref p ∧ H p = some (.ins T.C_Sum dx fs) ∧ Q .non H) ∨ (AnyV (fun _ => False) H x ∧ E (.ref T.C_BadSum) none H))
theorem ok_check_sum (T : Tx P K mg) : FnOk P w K mg base (L2.CX P w) lv_check_sum T.a_check_sum T.d_check_sum ["told"] (spChkSum T) := by
  refine T.F_check_sum.okX sc_check_sum (fun vs H Q E h => ?_) (fun cdv A outer s H vs Q E hr h => ?_)
  · obtain ⟨x, rfl, _⟩ := h
    rfl
  · obtain ⟨x, rfl, h⟩ := h
    refine ⟨_, (pss_one (ps_if (pt_not (pt_val (pe_callB call_isi (by rfl) T.n_isinstance (by decide +kernel) (pa_cons (pv 0) (pa_cons (pe_glob (v := .ref T.C_Sum) rfl T.g_Sum rfl) pa_nil))))) (pss_one (ps_raise rfl (takes_of rfl rfl rfl rfl) (pmk_own PySem.F.excBase_ValueError T.x_BadSum T.g_BadSum T.k_BadSum (raises_own T.s_BadSum T.t_BadSum) rfl))) pss_nil)), ?_⟩
    rcases h with ⟨p, dx, fs, rfl, e, k⟩ | ⟨a, k⟩
    · exact ⟨_, rfl, _, _, _, _, _, rfl, .own _, .base (T.ins_Sum _ _ _ _ e), T.kis_Sum, _, rfl, iteF k⟩
    · obtain ⟨t, ty, e⟩ := isi_sum T a
      exact ⟨_, rfl, _, _, _, _, _, rfl, .own _, ty, e, _, rfl, iteT k⟩

/-! ### the law's draws: what is drawn lies in its range; nothing but the row of the draws changes -/
theorem fmod_bd (x : Int) {m : Int} (h : 0 < m) : 0 ≤ x.fmod m ∧ x.fmod m < m := by
  rw [Int.fmod_eq_emod_of_nonneg x (by omega)]
  exact ⟨Int.emod_nonneg x (by omega), Int.emod_lt_of_pos x h⟩
abbrev rowL (a : Addr) (i s c : Int) : List V := [.ref a, .int i, .int s, .int c]
/-- the script at a: locked, or of the top's own -/
def Scr (K : PySem.W.Frag) (H : Hp) (a : Addr) (xs : List V) : Prop := (∃ o, H a = some (.frz o (.lst xs))) ∨ SqL K (fun _ => none) a xs
theorem scr_of {H : Hp} {a : Addr} {xs : List V} (hO : ∀ b, H b = none ∨ ∃ o xs, H b = some (.frz o (.lst xs))) (h : SqL K H a xs) : Scr K H a xs := by
  rcases h with (h | h) | h
  · rcases hO a with z | ⟨o, ys, z⟩
    · rw [z] at h; cases h
    · rw [z] at h; cases h
  · exact .inl h
  · exact .inr (.inr h)
theorem Scr.seq {H : Hp} {a : Addr} {xs : List V} (h : Scr K H a xs) : SqL K H a xs := by
  rcases h with h | (h | ⟨o, h⟩) | h
  · exact .inl (.inr h)
  · cases h
  · cases h
  · exact .inr h
theorem Scr.mono {H H' : Hp} {a : Addr} {xs : List V} (h : Scr K H a xs) (k : ∀ b o u, H b = some (.frz o u) → H' b = some (.frz o u)) : Scr K H' a xs := by
  rcases h with ⟨o, h⟩ | h
  · exact .inl ⟨o, k _ _ _ h⟩
  · exact .inr h
/-- at r the row of the draws over the script at a -/
def RowAt (K : PySem.W.Frag) (H : Hp) (r a : Addr) (ns : List Int) : Prop := ∃ i s c : Int, H r = some (.lst (rowL a i s c)) ∧ 0 ≤ i ∧ 0 ≤ c ∧ Scr K H a (ns.map V.int) ∧ ns.length ≤ 63
theorem RowAt.same {H H' : Hp} {r a : Addr} {ns : List Int} (h : RowAt K H r a ns) (e : Same H H') : RowAt K H' r a ns :=
  let ⟨i, s, c, h1, h2, h3, h4, h5⟩ := h
  ⟨i, s, c, e _ _ h1, h2, h3, h4.mono fun _ _ _ z => e _ _ z, h5⟩
/-- another list is changed -/
theorem RowAt.put {H : Hp} {r a q : Addr} {ns : List Int} {ys : List V} {o : HO} (h : RowAt K H r a ns) (hq : H q = some (.lst ys)) (n : q ≠ r) : RowAt K (upd H q o) r a ns :=
  let ⟨i, s, c, h1, h2, h3, h4, h5⟩ := h
  ⟨i, s, c, by rw [upd_ne (Ne.symm n)]; exact h1, h2, h3, h4.mono fun b o' u z => by rw [upd_ne (ne_of z hq (by intro y; cases y))]; exact z, h5⟩
/-- the row as the law lays it -/
theorem RowAt.start {H : Hp} {r a : Addr} {ns : List Int} {i s c : Int} (hr : H r = none) (hS : Scr K H a (ns.map V.int)) (hl : ns.length ≤ 63) (hi : 0 ≤ i) (hc : 0 ≤ c) : RowAt K (upd H r (.lst (rowL a i s c))) r a ns :=
  ⟨i, s, c, upd_same, hi, hc, hS.mono fun b o u z => by rw [upd_ne (ne_of_none z hr)]; exact z, hl⟩
def spTaken (K : PySem.W.Frag) : Sp := fun vs H Q _ => ∃ (r a : Addr) (ns : List Int) (m : Int), vs = [.ref r, .int m] ∧ 0 < m ∧ m ≤ 10 ^ 41 ∧ RowAt K H r a ns ∧
  ∀ (v : Int) (H' : Hp), 0 ≤ v → v < m → RowAt K H' r a ns → But r H H' → Q (.int v) H'
theorem ok__law_taken (T : Tx P K mg) : FnOk P w K mg base CX0 lv__law_taken T.a__law_taken T.d__law_taken ["_law_row", "_law_many"] (spTaken K) := by
  refine T.F__law_taken.ok sc__law_taken (fun vs H Q E h => ?_) (fun cdv A outer s H vs Q E hr h => ?_)
  · obtain ⟨r, a, ns, m, rfl, _⟩ := h
    rfl
  · obtain ⟨r, a, ns, m, rfl, m0, m1, ⟨i, s, c, hR, i0, c0, hK, hlen⟩, k⟩ := h
    have hKB : ∀ H', But r H H' → Scr K H' a (ns.map V.int) := fun H' b => hK.mono fun c o u z => b c _ z (ne_of z hR (by intro y; cases y))
    have hdv : ∀ x : Int, CDivW x m := fun x => wide_div m0 (b := 140) (by omega) (by decide) (by decide)
    have back : ∀ (v : Int) (i' s' c' : Int) (H' : Hp), 0 ≤ v → v < m → 0 ≤ i' → 0 ≤ c' → H' r = some (.lst (rowL a i' s' c')) → But r H H' → Q (.int v) H' := fun v i' s' c' H' v0 v1 z1 z2 e b =>
      k v H' v0 v1 ⟨i', s', c', e, z1, z2, hKB _ b, hlen⟩ b
    refine ⟨_, (pss_cons (ps_if (pt_cmpR op_gt (pe_ix ix_list (pv 0) pe_int (fun _ _ => rfl)) pe_int (nomark _)) (pss_cons (ps_set (i := 2) sc__law_taken.nd rfl (Or.inl rfl) (pe_op op_modN (pe_callTy call_int1 (by rfl) T.n_int (by decide +kernel) (pa_cons (pe_ix ix_list (pv 0) pe_int (fun _ _ => rfl)) pa_nil)) (pv 1)))
      (pss_cons (ps_asg (pe_op op_fdivW (pe_ix ix_list (pv 0) pe_int (fun _ _ => rfl)) (pv 1)) (pg_sub (pv 0) pe_int set_list))
      (pss_one (ps_ret (pv 2))))) pss_nil)
      (pss_cons (ps_asg (pe_op op_add (pe_ix ix_list (pv 0) pe_int (fun _ _ => rfl)) pe_int) (pg_sub (pv 0) pe_int set_list))
      (pss_cons (ps_if (pt_cmpR op_gt (pe_ix ix_list (pv 0) pe_int (fun _ _ => rfl)) (pe_callB call_len_seq (by rfl) T.n_len (by decide +kernel) (pa_cons (pe_ix ix_list (pv 0) pe_int (fun _ _ => rfl)) pa_nil)) (nomark _)) (pss_cons (ps_asg (pe_op op_modN (pe_callTy call_int1 (by rfl) T.n_int (by decide +kernel) (pa_cons (pe_op op_add (pe_op op_mul (pe_ix ix_list (pv 0) pe_int (fun _ _ => rfl)) pe_int) pe_int) pa_nil)) pe_int) (pg_sub (pv 0) pe_int set_list))
      (pss_one (ps_ret (pe_op op_modN (pe_callTy call_int1 (by rfl) T.n_int (by decide +kernel) (pa_cons (pe_op op_fdivW (pe_ix ix_list (pv 0) pe_int (fun _ _ => rfl)) pe_int) pa_nil)) (pv 1))))) pss_nil)
      (pss_cons (ps_set (i := 3) sc__law_taken.nd rfl (Or.inl rfl) (pe_ix ix_list (pe_ix ix_list (pv 0) pe_int (fun _ _ => rfl)) (pe_op op_sub (pe_ix ix_list (pv 0) pe_int (fun _ _ => rfl)) pe_int) (fun _ _ => rfl)))
      (pss_cons (ps_asg (pe_op op_modN (pe_callTy call_int1 (by rfl) T.n_int (by decide +kernel) (pa_cons (pe_op op_add (pe_op op_add (pe_op op_mul (pe_ix ix_list (pv 0) pe_int (fun _ _ => rfl)) pe_int) (pv 3)) pe_int) pa_nil)) pe_int) (pg_sub (pv 0) pe_int set_list))
      (pss_cons (ps_if (pt_cmpR op_ge (pv 3) (pe_op op_pow pe_int pe_int) (nomark _)) (pss_one (ps_asg (pe_op op_fdivW (pv 3) (pv 1)) (pg_sub (pv 0) pe_int set_list))) pss_nil)
      (pss_one (ps_ret (pe_op op_modN (pe_callTy call_int1 (by rfl) T.n_int (by decide +kernel) (pa_cons (pv 3) pa_nil)) (pv 1)))))))))), ?_⟩
    refine ⟨_, rfl, r, _, _, _, rfl, rfl, SqL.of hR, rfl, _, _, rfl, rfl, _, rfl, ?_⟩
    refine ite2 (fun g => ?_) (fun g => ?_)
    · -- a great cell's digits
      obtain ⟨v0, v1⟩ := fmod_bd c m0
      refine ⟨_, rfl, r, _, _, _, rfl, rfl, SqL.of hR, rfl, .inl ⟨_, rfl, _, rfl, _, _, rfl, rfl, by omega, ?_⟩⟩
      refine ⟨_, rfl, r, _, _, _, rfl, rfl, SqL.of hR, rfl, _, rfl, _, _, rfl, rfl, hdv c, _, rfl, r, _, _, _, rfl, rfl, hR, rfl, ?_⟩
      exact ⟨_, rfl, back _ i s (c / m) _ v0 v1 i0 (Int.ediv_nonneg c0 (by omega)) upd_same But.put⟩
    · refine ⟨_, rfl, r, _, _, _, rfl, rfl, SqL.of hR, rfl, _, _, rfl, rfl, _, rfl, r, _, _, _, rfl, rfl, hR, rfl, ?_⟩
      -- behind the script's end?
      have hR1 : upd H r (.lst (rowL a (i + 1) s c)) r = some (.lst (rowL a (i + 1) s c)) := upd_same
      have hB1 : But r H (upd H r (.lst (rowL a (i + 1) s c))) := But.put
      have hS1 : SqL K (upd H r (.lst (rowL a (i + 1) s c))) a (ns.map V.int) := (hKB _ hB1).seq
      refine ⟨_, rfl, r, _, _, _, rfl, rfl, SqL.of hR1, rfl, _, rfl, r, _, _, _, rfl, rfl, SqL.of hR1, rfl, a, _, rfl, .inl hS1, _, _, rfl, rfl, _, rfl, ?_⟩
      refine ite2 (fun g2 => ?_) (fun g2 => ?_)
      · refine ⟨_, rfl, r, _, _, _, rfl, rfl, SqL.of hR1, rfl, _, _, rfl, rfl, .inr ⟨by decide, by decide⟩, _, _, rfl, rfl, .inl ⟨_, rfl, _, _, rfl, rfl, (show (2147483647 : Int) ≠ 0 by decide), ?_⟩⟩
        refine ⟨_, rfl, r, _, _, _, rfl, rfl, hR1, rfl, ?_⟩
        refine ⟨_, rfl, r, _, _, _, rfl, rfl, SqL.of upd_same, rfl, _, _, rfl, rfl, wide_div (by decide) (b := 3) (by decide) (by decide) (by decide), .inl ⟨_, rfl, _, rfl, _, _, rfl, rfl, by omega, ?_⟩⟩
        obtain ⟨v0, v1⟩ := fmod_bd ((s * 48271 + 11).fmod 2147483647 / 7) m0
        exact back _ (i + 1) _ c _ v0 v1 (by omega) c0 upd_same (hB1.trans But.put)
      · have g3 : i + 1 ≤ (ns.length : Int) := by
          simp only [decide_eq_true_eq, List.length_map] at g2
          omega
        obtain ⟨z, hz⟩ : ∃ z, ns[i.toNat]? = some z := ⟨ns[i.toNat]'(by omega), List.getElem?_eq_getElem (by omega)⟩
        have hz1 : atI (ns.map V.int) (i + 1 - 1) = some (V.int z) := at_of (j := i.toNat) (by omega) (by rw [List.getElem?_map, hz]; rfl)
        refine ⟨_, rfl, r, _, _, _, rfl, rfl, SqL.of hR1, rfl, _, rfl, r, _, _, _, rfl, rfl, SqL.of hR1, rfl, _, _, rfl, rfl, a, _, _, _, rfl, rfl, hS1, hz1, ?_⟩
        refine ⟨_, rfl, r, _, _, _, rfl, rfl, SqL.of hR1, rfl, _, _, rfl, rfl, .inr ⟨by decide, by decide⟩, _, rfl, _, _, rfl, rfl, _, _, rfl, rfl, .inl ⟨_, rfl, _, _, rfl, rfl, (show (2147483647 : Int) ≠ 0 by decide), ?_⟩⟩
        refine ⟨_, rfl, r, _, _, _, rfl, rfl, hR1, rfl, ?_⟩
        have hR2 : upd (upd H r (.lst (rowL a (i + 1) s c))) r (.lst (rowL a (i + 1) ((s * 48271 + z + 11).fmod 2147483647) c)) r = some (.lst (rowL a (i + 1) ((s * 48271 + z + 11).fmod 2147483647) c)) := upd_same
        have hB2 : But r H (upd (upd H r (.lst (rowL a (i + 1) s c))) r (.lst (rowL a (i + 1) ((s * 48271 + z + 11).fmod 2147483647) c))) := hB1.trans But.put
        obtain ⟨v0, v1⟩ := fmod_bd z m0
        refine ⟨_, rfl, _, _, rfl, rfl, ⟨by decide, by decide, by decide⟩, _, _, rfl, rfl, _, rfl, ?_⟩
        refine ite2 (fun g4 => ?_) (fun g4 => ?_)
        · refine ⟨_, rfl, _, rfl, _, _, rfl, rfl, hdv z, _, rfl, r, _, _, _, rfl, rfl, hR2, rfl, ?_⟩
          have z0 : 0 ≤ z := by
            have g5 : (10 : Int) ^ 18 ≤ z := by simpa using g4
            exact Int.le_trans (by decide) g5
          refine ⟨_, rfl, .inl ⟨_, rfl, _, rfl, _, _, rfl, rfl, by omega, ?_⟩⟩
          exact back _ (i + 1) _ (z / m) _ v0 v1 (by omega) (Int.ediv_nonneg z0 (by omega)) upd_same (hB2.trans But.put)
        · refine ⟨_, rfl, .inl ⟨_, rfl, _, rfl, _, _, rfl, rfl, by omega, ?_⟩⟩
          exact back _ (i + 1) _ c _ v0 v1 (by omega) c0 hR2 hB2

/-! ### a menu: an item of a written list at a drawn place -/
theorem RowAt.new {H : Hp} {r a p : Addr} {ns : List Int} {o : HO} (h : RowAt K H r a ns) (hp : H p = none) : RowAt K (upd H p o) r a ns := h.same (same_upd hp)
theorem RowAt.ne {H : Hp} {r a p : Addr} {ns : List Int} (h : RowAt K H r a ns) (hp : H p = none) : p ≠ r :=
  let ⟨_, _, _, h1, _⟩ := h
  (ne_of_none h1 hp).symm
theorem But.new {H H1 : Hp} {r p : Addr} {o : HO} (b : But r H H1) (hp : H1 p = none) : But r H (upd H1 p o) := b.trans (Same.but (same_upd hp))
theorem But.free {H H1 : Hp} {r p : Addr} (b : But r H H1) (n : p ≠ r) (hp : H1 p = none) : H p = none := by
  cases q : H p with
  | none => rfl
  | some o =>
    rw [b p o q n] at hp
    cases hp
/-- an item of the list laid at p, at a place that is drawn -/
theorem menu {H1 : Hp} {r a p : Addr} {ns items : List Int} {m : Int} (Pr : Int → Prop) (hP : ∀ z ∈ items, Pr z) (hl : (items.length : Int) = m) (R1 : RowAt K H1 r a ns) (hp : H1 p = none) {Q : VK}
    (k : ∀ (z : Int) (H2 : Hp), Pr z → RowAt K H2 r a ns → But r H1 H2 → H2 p = some (.lst (items.map V.int)) → Q (.int z) H2) (h0 : 0 < m) (h1 : m ≤ 10 ^ 41) :
    spTaken K ([.ref r, .int m] ++ []) (upd H1 p (.lst (items.map V.int))) (fun y H2 => rIxL K (.ref p) y H2 Q) E0 := by
  refine ⟨r, a, ns, m, rfl, h0, h1, R1.new hp, fun w H2 w0 w1 R2 B2 => ?_⟩
  obtain ⟨z, hz, he⟩ := at_some Pr hP w0 (by omega)
  have npr := R1.ne hp
  exact ⟨p, _, _, _, rfl, rfl, SqL.of (B2 _ _ upd_same npr), he, k z H2 hz R2 ((Same.but (same_upd hp)).trans B2) (B2 _ _ upd_same npr)⟩
theorem at_someV (Pr : V → Prop) {xs : List V} (h : ∀ z ∈ xs, Pr z) {i : Int} (h0 : 0 ≤ i) (h1 : i < xs.length) : ∃ z, Pr z ∧ atI xs i = some z := by
  obtain ⟨z, hz⟩ : ∃ z, xs[i.toNat]? = some z := ⟨xs[i.toNat]'(by omega), List.getElem?_eq_getElem (by omega)⟩
  exact ⟨z, h z (List.mem_of_getElem? hz), at_of (j := i.toNat) (by omega) hz⟩
theorem menuV {H1 : Hp} {r a p : Addr} {ns : List Int} {items : List V} {m : Int} (Pr : V → Prop) (hP : ∀ z ∈ items, Pr z) (hl : (items.length : Int) = m) (R1 : RowAt K H1 r a ns) (hp : H1 p = none) {Q : VK}
    (k : ∀ (z : V) (H2 : Hp), Pr z → RowAt K H2 r a ns → But r H1 H2 → H2 p = some (.lst items) → Q z H2) (h0 : 0 < m) (h1 : m ≤ 10 ^ 41) :
    spTaken K ([.ref r, .int m] ++ []) (upd H1 p (.lst items)) (fun y H2 => rIxL K (.ref p) y H2 Q) E0 := by
  refine ⟨r, a, ns, m, rfl, h0, h1, R1.new hp, fun w H2 w0 w1 R2 B2 => ?_⟩
  obtain ⟨z, hz, he⟩ := at_someV Pr hP w0 (by omega)
  have npr := R1.ne hp
  exact ⟨p, _, _, _, rfl, rfl, SqL.of (B2 _ _ upd_same npr), he, k z H2 hz R2 ((Same.but (same_upd hp)).trans B2) (B2 _ _ upd_same npr)⟩
/-- a plain value: None, a bool, an int, a text -/
def flatA : V → Bool
  | .non => true | .bl _ => true | .int _ => true | .str _ => true | _ => false
theorem any_flat {T : Addr → Prop} {H : Hp} {v : V} (h : flatA v = true) : AnyV T H v := by
  cases v with
  | non => exact .non
  | bl b => exact .bl b
  | int i => exact .int i
  | str x => exact .str x
  | _ => cases h

/-! ### the row is a list -/
theorem RowAt.lst {H : Hp} {r a : Addr} {ns : List Int} (h : RowAt K H r a ns) : ∃ ys, H r = some (.lst ys) := let ⟨_, _, _, h1, _⟩ := h; ⟨_, h1⟩

/-! ### a power -/
def spPower : Sp := fun vs H Q _ => ∃ b k : Int, vs = [.int b, .int k] ∧ 0 ≤ b ∧ b ≤ 1000 ∧ 0 ≤ k ∧ k ≤ 1000000 ∧ Q (.int (b ^ k.toNat)) H
theorem ok__law_power (T : Tx P K mg) : FnOk P w K mg base CX0 lv__law_power T.a__law_power T.d__law_power ["_law_base", "_law_many"] spPower := by
  refine T.F__law_power.ok sc__law_power (fun vs H Q E h => ?_) (fun cdv A outer s H vs Q E hr h => ?_)
  · obtain ⟨b, k, rfl, _⟩ := h
    rfl
  · obtain ⟨b, k, rfl, b0, b1, k0, k1, q⟩ := h
    refine ⟨_, (pss_cons (ps_set (i := 2) sc__law_power.nd rfl (Or.inl rfl) pe_int)
      (pss_cons (ps_for PassesOwn.never rfl (pi_range1 (by rfl) T.n_range (pa_cons (pv 1) pa_nil)) (pg_name (i := 3) sc__law_power.nd rfl (Or.inl rfl)) (pss_one (ps_set (i := 2) sc__law_power.nd rfl (Or.inl rfl) (pe_op op_mul (pv 2) (pv 0)))))
      (pss_one (ps_ret (pv 2))))), ?_⟩
    refine ⟨_, rfl, k, rfl, by omega, by omega, ?_⟩
    refine for_range (lo := 0) (fun i σ H2 => ∃ v : Option V, σ = [some (.int b), some (.int k), some (.int (b ^ i)), v] ∧ H2 = H) ⟨none, by rw [Int.pow_zero]; rfl, rfl⟩ ?_ ?_
    · rintro i σ H2 hi ⟨v, rfl, rfl⟩
      refine ⟨_, rfl, _, rfl, _, _, rfl, rfl, .inr ⟨by omega, by omega⟩, ?_⟩
      exact ⟨_, by rw [Int.pow_succ]; rfl, rfl⟩
    · rintro σ H2 ⟨v, rfl, rfl⟩
      exact ⟨_, rfl, q⟩

/-! ### tuples cut and joined -/
theorem cutV_take (xs : List V) (k : Nat) : cutV xs none (some (k : Int)) = xs.take k := by
  unfold cutV
  rw [HT.sIx_none, HT.sIx_nat, List.drop_zero, Nat.sub_zero]
  rcases Nat.le_total k xs.length with h | h
  · rw [Nat.min_eq_left h]
  · rw [Nat.min_eq_right h, List.take_of_length_le (Nat.le_refl _), List.take_of_length_le h]
theorem cutV_drop (xs : List V) (k : Nat) : cutV xs (some (k : Int)) none = xs.drop k := by
  unfold cutV
  rw [HT.sIx_none, HT.sIx_nat]
  rcases Nat.le_total k xs.length with h | h
  · rw [Nat.min_eq_left h, List.take_of_length_le (by rw [List.length_drop]; exact Nat.le_refl _)]
  · rw [Nat.min_eq_right h, List.drop_of_length_le (Nat.le_refl _), List.drop_of_length_le h, List.take_nil]
/-- what is before it, then t[k + 1:] -/
theorem tail_cat {σ : L2.St} {H : Hp} {c q : Addr} {ys xs : List V} {k : Nat} {Q : VK} (h6 : σ[6]? = some (some (.ref q))) (h7 : σ[7]? = some (some (.int (k : Int)))) (hq : H q = some (.tup xs)) (hc : H c = some (.tup ys)) (ny : ys ≠ []) (sz : ys.length + xs.length ≤ 1000) (nk : xs ≠ [])
    (hQ : ∀ (w' : Addr) (H2 : Hp), Same H H2 → H2 w' = some (.tup (ys ++ xs.drop (k + 1))) → (w' = c ∨ H w' = none) → Q (.ref w') H2) :
    tSl (rSlT K) (tVar 6) (tPart (tOp (rI0 fun i j => V.int (i + j)) (tVar 7) (tC (V.int 1)))) tNoPart σ H (fun y H2 => rCatA K (.ref c) y H2 Q) := by
  have e1 : ((k : Int) + 1) = ((k + 1 : Nat) : Int) := by omega
  refine ⟨_, h6, _, h7, _, _, rfl, rfl, _, rfl, q, xs, rfl, SqT.of hq, ?_, fun p hp => ?_⟩
  · rintro ⟨z, _⟩
    rw [e1, HT.sIx_nat] at z
    have : 0 < xs.length := List.length_pos_iff.mpr nk
    omega
  · rw [e1, cutV_drop]
    have S := same_upd (o := .tup (xs.drop (k + 1))) hp
    refine ⟨c, p, ys, xs.drop (k + 1), rfl, rfl, SqT.of (S _ _ hc), SqT.of upd_same, ?_, fun e => absurd e ny, fun _ e => ?_, fun _ _ p2 hp2 => ?_⟩
    · have := List.length_drop (l := xs) (i := k + 1)
      have h2 : (1000 : Nat) ≤ sizeLine := by decide
      omega
    · refine hQ c _ S ?_ (.inl rfl)
      have e3 := S _ _ hc
      rw [e] at e3 ⊢
      rw [List.append_nil]
      exact e3
    · refine hQ p2 _ (S.trans (same_upd hp2)) upd_same (.inr ?_)
      by_cases z : p2 = p
      · rw [z]
        exact hp
      · rw [upd_ne z] at hp2
        exact hp2

/-! ### whether an int is among ints -/
theorem inV_ints (r : Int) : ∀ s : List Int, inV (.int r) (s.map V.int) = s.elem r
  | [] => rfl
  | z :: s => by
    show ((z == r) || inV (.int r) (s.map V.int)) = _
    rw [inV_ints r s, List.elem_cons]
    by_cases h : z = r
    · subst h; simp
    · have h2 : ¬ r = z := fun e => h e.symm
      rw [show (z == r) = false from by simpa using h, show (r == z) = false from by simpa using h2]
      rfl
theorem flat_ints (s : List Int) : (s.map V.int).all flatV = true := by
  rw [List.all_eq_true]
  intro v hv
  obtain ⟨z, _, rfl⟩ := List.mem_map.mp hv
  rfl

/-! ### rests of powers, until one comes again or there are twenty -/
def simI (B d : Int) : Nat → List Int → Int → List Int × Int
  | 0, s, r => (s, r)
  | n + 1, s, r => if s.elem r then (s, r) else simI B d n (s ++ [r]) (r * B % d)
/-- where the rest stands in the list -/
def idxI (r : Int) : List Int → Nat
  | [] => 0
  | z :: s => if z == r then 0 else idxI r s + 1
def simOk (B d : Int) : Bool :=
  let F := simI B d 20 [] (1 % d)
  let j := if F.1.elem F.2 then idxI F.2 F.1 else 0
  decide (j ≤ 11) && (decide (j < F.1.length) && (decide (F.1.length ≤ 20) && (F.1.all fun z => decide (0 ≤ z) && decide (z < d))))
theorem simAll : ((List.range 15).all fun b => (List.range 2).all fun t => (List.range 30).all fun d => simOk (((b + 2 : Nat) : Int) ^ (t + 1)) ((d + 1 : Nat) : Int)) = true := by decide +kernel
theorem sim_ok {b t d : Int} (b1 : 2 ≤ b) (b2 : b ≤ 16) (t1 : 1 ≤ t) (t2 : t ≤ 2) (d1 : 1 ≤ d) (d2 : d ≤ 30) : simOk (b ^ t.toNat) d = true := by
  have h := simAll
  rw [List.all_eq_true] at h
  have h1 := h (b - 2).toNat (List.mem_range.mpr (by omega))
  rw [List.all_eq_true] at h1
  have h2 := h1 (t - 1).toNat (List.mem_range.mpr (by omega))
  rw [List.all_eq_true] at h2
  have h3 := h2 (d - 1).toNat (List.mem_range.mpr (by omega))
  rw [show (((b - 2).toNat + 2 : Nat) : Int) = b by omega, show (t - 1).toNat + 1 = t.toNat by omega, show (((d - 1).toNat + 1 : Nat) : Int) = d by omega] at h3
  exact h3
theorem idxI_spec {r : Int} : ∀ {s : List Int}, s.elem r = true → s[idxI r s]? = some r ∧ ∀ m, m < idxI r s → ∀ z, s[m]? = some z → z ≠ r
  | [], h => by cases h
  | z :: s, h => by
    by_cases e : z = r
    · subst e
      have e0 : idxI z (z :: s) = 0 := by simp [idxI]
      rw [e0]
      exact ⟨rfl, fun m hm => absurd hm (Nat.not_lt_zero _)⟩
    · have e0 : idxI r (z :: s) = idxI r s + 1 := by simp [idxI, e]
      rw [e0]
      have h' : s.elem r = true := by
        have := List.elem_iff.mp h
        rcases List.mem_cons.mp this with q | q
        · exact absurd q.symm e
        · exact List.elem_iff.mpr q
      obtain ⟨i1, i2⟩ := idxI_spec h'
      refine ⟨i1, fun m hm y hy => ?_⟩
      cases m with
      | zero =>
        cases hy
        exact e
      | succ m => exact i2 m (by omega) y hy
theorem sim_stop {B d r : Int} {s : List Int} {n : Nat} (h : s.elem r = true ∨ n = 0) : simI B d n s r = (s, r) := by
  cases n with
  | zero => rfl
  | succ n =>
    rcases h with h | h
    · simp only [simI, h, if_true]
    · cases h
theorem sim_go {B d r : Int} {s : List Int} {n : Nat} (h : s.elem r = false) : simI B d (n + 1) s r = simI B d n (s ++ [r]) (r * B % d) := by
  simp only [simI, h]
  simp

/-! ### the law's sums -/
def WOk (z : Int) : Prop := -1000 ≤ z ∧ z ≤ 1000
structure SumOk (b t : Int) (fs ls : List Int) : Prop where
  b1 : 2 ≤ b
  b2 : b ≤ 16
  t1 : 1 ≤ t
  t2 : t ≤ 2
  lf : fs.length ≤ 11
  l1 : 1 ≤ ls.length
  l2 : ls.length ≤ 12
  wf : ∀ z ∈ fs, WOk z
  wl : ∀ z ∈ ls, WOk z
theorem But.putN {r p : Addr} {H H1 : Hp} {o : HO} (b : But r H H1) (hp : H p = none) : But r H (upd H1 p o) := fun c o' e n => by
  rw [upd_ne (ne_of_none e hp)]
  exact b c o' e n
theorem mul01 {u w : Int} (u0 : 0 ≤ u) (u1 : u < 2) (w0 : 0 ≤ w) (w1 : w < 2) : 0 ≤ u * w ∧ u * w ≤ 1 := by
  obtain rfl | rfl : u = 0 ∨ u = 1 := by omega
  · rw [Int.zero_mul]; omega
  · rw [Int.one_mul]; omega
/-- weights by a unit and shifts -/
theorem wok_unit {z u d v : Int} (z0 : 0 ≤ z) (z1 : z < d) (u1 : 1 ≤ u) (u2 : u ≤ 30) (d1 : 1 ≤ d) (d2 : d ≤ 30) (v0 : 0 ≤ v) (v1 : v < 3) : -900 ≤ z * u + d * (v - 1) ∧ z * u + d * (v - 1) ≤ 900 := by
  have h1 : z * u ≤ 29 * 30 := Int.mul_le_mul (by omega) u2 (by omega) (by omega)
  have h2 : 0 ≤ z * u := Int.mul_nonneg z0 (by omega)
  obtain rfl | rfl | rfl : v = 0 ∨ v = 1 ∨ v = 2 := by omega
  · omega
  · omega
  · omega
def spLawSum (K : PySem.W.Frag) : Sp := fun vs H Q _ => ∃ (r a : Addr) (ns : List Int) (d : Int), vs = [.ref r, .int d] ∧ 1 ≤ d ∧ d ≤ 30 ∧ RowAt K H r a ns ∧
  ∀ (b t : Int) (fs ls : List Int) (q f l : Addr) (H' : Hp), SumOk b t fs ls → RowAt K H' r a ns → But r H H' → H' q = some (.lst [.int b, .int t, .ref f, .ref l]) → H' f = some (.tup (fs.map V.int)) → H' l = some (.tup (ls.map V.int)) → q ≠ r → H q = none → Q (.ref q) H'
theorem ok__law_sum (T : Tx P K mg) : FnOk P w K mg base CX0 lv__law_sum T.a__law_sum T.d__law_sum ["_law_row", "_law_d"] (spLawSum K) := by
  refine T.F__law_sum.ok sc__law_sum (fun vs H Q E h => ?_) (fun cdv A outer s H vs Q E hr h => ?_)
  · obtain ⟨r, a, ns, d, rfl, _⟩ := h
    rfl
  · obtain ⟨r, a, ns, d, rfl, d1, d2, R0, k⟩ := h
    have nd : d ≠ 0 := by omega
    refine ⟨_, (Evl.pss_cut (ps_par (i := 2) (j := 3) rfl sc__law_sum.nd rfl rfl (by decide) rfl rfl (pa_cons (pe_ix ix_list (pe_lst (pa_cons pe_int (pa_cons pe_int (pa_cons pe_int (pa_cons pe_int (pa_cons (pe_op op_add pe_int (pe_call (ok__law_taken T) (hr.mono (by decide)) rfl T.g__law_taken T.F__law_taken.kp T.b__law_taken .nil pass0 (pa_cons (pv 0) (pa_cons pe_int pa_nil)))) pa_nil)))))) (pe_call (ok__law_taken T) (hr.mono (by decide)) rfl T.g__law_taken T.F__law_taken.kp T.b__law_taken .nil pass0 (pa_cons (pv 0) (pa_cons pe_int pa_nil))) (fun _ _ => rfl)) (pa_cons (pe_op op_add pe_int (pe_op op_mul (pe_call (ok__law_taken T) (hr.mono (by decide)) rfl T.g__law_taken T.F__law_taken.kp T.b__law_taken .nil pass0 (pa_cons (pv 0) (pa_cons pe_int pa_nil))) (pe_call (ok__law_taken T) (hr.mono (by decide)) rfl T.g__law_taken T.F__law_taken.kp T.b__law_taken .nil pass0 (pa_cons (pv 0) (pa_cons pe_int pa_nil))))) pa_nil)) (by rfl))
      (Evl.pss_cut (ps_par (i := 4) (j := 5) rfl sc__law_sum.nd rfl rfl (by decide) rfl rfl (pa_cons (pe_call (ok__law_power T) (hr.mono (by decide)) rfl T.g__law_power T.F__law_power.kp T.b__law_power .nil pass0 (pa_cons (pv 2) (pa_cons (pv 3) pa_nil))) (pa_cons (pe_call (ok__law_taken T) (hr.mono (by decide)) rfl T.g__law_taken T.F__law_taken.kp T.b__law_taken .nil pass0 (pa_cons (pv 0) (pa_cons pe_int pa_nil))) pa_nil)) (by rfl))
      (Evl.pss_cut (ps_setLc (i := 6) (own := [("_law_k", 12)]) (g := gName 12) (tt := tYes) rfl sc__law_sum.nd rfl rfl (sw_true rfl rfl rfl (by decide +kernel)) (pi_range1 (by rfl) T.n_range (pa_cons (pe_call (ok__law_taken T) (hr.mono (by decide)) rfl T.g__law_taken T.F__law_taken.kp T.b__law_taken .nil pass0 (pa_cons (pv 0) (pa_cons pe_int pa_nil))) pa_nil)) (blkOk_by (own := [("_law_k", 12)]) (N := ["_law_row", "_law_d", "_law_base", "_law_take", "_law_block", "_law_kind", "_law_first", "_law_loop", "_law_some", "_law_rest", "_law_at", "_law_unit", "_law_k", "_law_weight_here"]) (sc := defScope s__law_sum) (by decide +kernel)) (fun _ _ _ _ _ => pg_name (i := 12) sc__law_sum.nd rfl (Or.inl rfl)) (fun _ _ _ _ _ => pts_nil) (fun _ _ _ _ _ => (pe_op op_sub (pe_call (ok__law_taken T) (hr.mono (by decide)) rfl T.g__law_taken T.F__law_taken.kp T.b__law_taken .nil pass0 (pa_cons (pv 0) (pa_cons pe_int pa_nil))) pe_int)))
      (Evl.pss_cut (ps_setLc (i := 7) (own := [("_law_k", 12)]) (g := gName 12) (tt := tYes) rfl sc__law_sum.nd rfl rfl (sw_true rfl rfl rfl (by decide +kernel)) (pi_range1 (by rfl) T.n_range (pa_cons (pe_op op_add pe_int (pe_call (ok__law_taken T) (hr.mono (by decide)) rfl T.g__law_taken T.F__law_taken.kp T.b__law_taken .nil pass0 (pa_cons (pv 0) (pa_cons pe_int pa_nil)))) pa_nil)) (blkOk_by (own := [("_law_k", 12)]) (N := ["_law_row", "_law_d", "_law_base", "_law_take", "_law_block", "_law_kind", "_law_first", "_law_loop", "_law_some", "_law_rest", "_law_at", "_law_unit", "_law_k", "_law_weight_here"]) (sc := defScope s__law_sum) (by decide +kernel)) (fun _ _ _ _ _ => pg_name (i := 12) sc__law_sum.nd rfl (Or.inl rfl)) (fun _ _ _ _ _ => pts_nil) (fun _ _ _ _ _ => (pe_op op_sub (pe_call (ok__law_taken T) (hr.mono (by decide)) rfl T.g__law_taken T.F__law_taken.kp T.b__law_taken .nil pass0 (pa_cons (pv 0) (pa_cons pe_int pa_nil))) pe_int)))
      (Evl.pss_cut (ps_if (pt_cmpR op_gt (pv 5) pe_int (nomark _)) (Evl.pss_cut (ps_par (i := 8) (j := 9) rfl sc__law_sum.nd rfl rfl (by decide) rfl rfl (pa_cons (pe_lst pa_nil) (pa_cons (pe_op op_modN pe_int (pv 1)) pa_nil)) (by rfl))
      (Evl.pss_cut (ps_while PassesOwn.never (PW.pt (pw_and (pt_cmpR op_notIn_seq (pv 9) (pv 8) (by with_unfolding_all rfl)) (pw_and1 (pt_cmpR op_lt (pe_callB call_len_seq (by rfl) T.n_len (by decide +kernel) (pa_cons (pv 8) pa_nil)) pe_int (nomark _))))) (pss_cons (ps_expr (pe_bm PySem.F.plainAttrs_list PySem.F.slot_list_append PySem.F.type_list_append mt_append (pv 8) (pa_cons (pv 9) pa_nil)))
      (pss_one (ps_set (i := 9) sc__law_sum.nd rfl (Or.inl rfl) (pe_op op_modN (pe_op op_mul (pv 9) (pv 4)) (pv 1))))))
      (Evl.pss_cut (ps_set (i := 10) sc__law_sum.nd rfl (Or.inl rfl) (pe_ifExp (pt_cmpR op_in_seq (pv 9) (pv 8) (by with_unfolding_all rfl)) (pe_bm PySem.F.plainAttrs_list PySem.F.slot_list_index PySem.F.type_list_index mt_index (pv 8) (pa_cons (pv 9) pa_nil)) pe_int))
      (Evl.pss_cut (ps_par (i := 6) (j := 7) rfl sc__law_sum.nd rfl rfl (by decide) rfl rfl (pa_cons (pe_slice sl_list (pv 8) po_none (po_some (pv 10))) (pa_cons (pe_slice sl_list (pv 8) (po_some (pv 10)) po_none) pa_nil)) (by rfl))
      (Evl.pss_cut (ps_if (pt_cmpR op_gt (pe_callB call_len_seq (by rfl) T.n_len (by decide +kernel) (pa_cons (pv 7) pa_nil)) pe_int (nomark _)) (pss_one (ps_set (i := 7) sc__law_sum.nd rfl (Or.inl rfl) (pe_slice sl_list (pv 7) po_none (po_some pe_int)))) pss_nil)
      (Evl.pss_cut (ps_set (i := 11) sc__law_sum.nd rfl (Or.inr rfl) (pe_ifExp (pt_cmpR op_eq (pv 5) pe_int (nomark _)) (pe_op op_add pe_int (pe_call (ok__law_taken T) (hr.mono (by decide)) rfl T.g__law_taken T.F__law_taken.kp T.b__law_taken .nil pass0 (pa_cons (pv 0) (pa_cons (pv 1) pa_nil)))) pe_int))
      (Evl.pss_cut (ps_setLc (i := 6) (own := [("_law_weight_here", 13)]) (g := gName 13) (tt := tYes) rfl sc__law_sum.nd rfl rfl (sw_true rfl rfl rfl (by decide +kernel)) (pi_list (pv 6)) (blkOk_by (own := [("_law_weight_here", 13)]) (N := ["_law_row", "_law_d", "_law_base", "_law_take", "_law_block", "_law_kind", "_law_first", "_law_loop", "_law_some", "_law_rest", "_law_at", "_law_unit", "_law_k", "_law_weight_here"]) (sc := defScope s__law_sum) (by decide +kernel)) (fun _ _ _ _ _ => pg_name (i := 13) sc__law_sum.nd rfl (Or.inl rfl)) (fun _ _ _ _ _ => pts_nil) (fun _ _ _ _ _ => (pe_op op_add (pe_op op_mul (pv 13) (pv 11)) (pe_op op_mul (pv 1) (pe_op op_sub (pe_call (ok__law_taken T) (hr.mono (by decide)) rfl T.g__law_taken T.F__law_taken.kp T.b__law_taken .nil pass0 (pa_cons (pv 0) (pa_cons pe_int pa_nil))) pe_int)))))
      (Evl.pss_cut (ps_setLc (i := 7) (own := [("_law_weight_here", 13)]) (g := gName 13) (tt := tYes) rfl sc__law_sum.nd rfl rfl (sw_true rfl rfl rfl (by decide +kernel)) (pi_list (pv 7)) (blkOk_by (own := [("_law_weight_here", 13)]) (N := ["_law_row", "_law_d", "_law_base", "_law_take", "_law_block", "_law_kind", "_law_first", "_law_loop", "_law_some", "_law_rest", "_law_at", "_law_unit", "_law_k", "_law_weight_here"]) (sc := defScope s__law_sum) (by decide +kernel)) (fun _ _ _ _ _ => pg_name (i := 13) sc__law_sum.nd rfl (Or.inl rfl)) (fun _ _ _ _ _ => pts_nil) (fun _ _ _ _ _ => (pe_op op_add (pe_op op_mul (pv 13) (pv 11)) (pe_op op_mul (pv 1) (pe_op op_sub (pe_call (ok__law_taken T) (hr.mono (by decide)) rfl T.g__law_taken T.F__law_taken.kp T.b__law_taken .nil pass0 (pa_cons (pv 0) (pa_cons pe_int pa_nil))) pe_int)))))
      (pss_one (ps_if (pt_cmpR op_eq (pv 5) pe_int (nomark _)) (Evl.pss_cut (ps_set (i := 10) sc__law_sum.nd rfl (Or.inl rfl) (pe_call (ok__law_taken T) (hr.mono (by decide)) rfl T.g__law_taken T.F__law_taken.kp T.b__law_taken .nil pass0 (pa_cons (pv 0) (pa_cons (pe_callB call_len_seq (by rfl) T.n_len (by decide +kernel) (pa_cons (pv 7) pa_nil)) pa_nil))))
      (pss_one (ps_asg (pe_op op_add (pe_ix ix_list (pv 7) (pv 10) (fun _ _ => rfl)) pe_int) (pg_sub (pv 7) (pv 10) set_list)))) pss_nil)))))))))) pss_nil)
      (pss_one (ps_ret (pe_lst (pa_cons (pv 2) (pa_cons (pv 3) (pa_cons (pe_callTy call_tuple_of (by rfl) T.n_tuple (by decide +kernel) (pa_cons (pv 6) pa_nil)) (pa_cons (pe_callTy call_tuple_of (by rfl) T.n_tuple (by decide +kernel) (pa_cons (pv 7) pa_nil)) pa_nil)))))))))))), ?_⟩
    -- the base, the figures
    refine ⟨fun σ H1 => ∃ b t : Int, 2 ≤ b ∧ b ≤ 16 ∧ 1 ≤ t ∧ t ≤ 2 ∧ RowAt K H1 r a ns ∧ But r H H1 ∧ σ = [some (.ref r), some (.int d), some (.int b), some (.int t), none, none, none, none, none, none, none, none, none, none], ?_, ?_⟩
    · refine ⟨_, rfl, r, a, ns, _, rfl, by decide, by decide, R0, fun v H3 v0 v1 R3 B3 => ?_⟩
      refine ⟨_, _, rfl, rfl, by show 5 ≤ sizeLine; decide, fun p hp => ⟨_, rfl, ?_⟩⟩
      refine menu (items := [10, 2, 3, 6, 2 + v]) (fun z => 2 ≤ z ∧ z ≤ 16) (by
        intro z hz
        simp only [List.mem_cons, List.not_mem_nil, or_false] at hz
        omega) rfl R3 hp (fun b H4 hb R4 B4 _ => ?_) (by show (0 : Int) < 5; decide) (by show (5 : Int) ≤ 10 ^ 41; decide)
      refine ⟨_, rfl, r, a, ns, _, rfl, by decide, by decide, R4, fun u H5 u0 u1 R5 B5 => ?_⟩
      refine ⟨_, rfl, r, a, ns, _, rfl, by decide, by decide, R5, fun x H6 x0 x1 R6 B6 => ?_⟩
      obtain ⟨m0, m1⟩ := mul01 u0 u1 x0 x1
      exact ⟨_, _, rfl, rfl, .inl ⟨by omega, by omega⟩, _, _, rfl, rfl, _, _, rfl, b, 1 + u * x, hb.1, hb.2, by omega, by omega, R6, B3.trans (B4.trans (B5.trans B6)), rfl⟩
    clear R0
    rintro σ H1 ⟨b, t, b1, b2, t1, t2, R1, B1, rfl⟩
    have hB2 : 2 ≤ b ^ t.toNat ∧ b ^ t.toNat ≤ 256 := by
      obtain rfl | rfl : t = 1 ∨ t = 2 := by omega
      · rw [show (1 : Int).toNat = 1 from rfl, Int.pow_one]; omega
      · rw [show (2 : Int).toNat = 2 from rfl, Int.pow_succ, Int.pow_one]
        have h1 : b * b ≤ 16 * 16 := Int.mul_le_mul b2 b2 (by omega) (by omega)
        have h2 : 2 * 2 ≤ b * b := Int.mul_le_mul b1 b1 (by omega) (by omega)
        omega
    refine ⟨fun σ H2 => ∃ kd : Int, 0 ≤ kd ∧ kd < 4 ∧ RowAt K H2 r a ns ∧ But r H H2 ∧ σ = [some (.ref r), some (.int d), some (.int b), some (.int t), some (.int (b ^ t.toNat)), some (.int kd), none, none, none, none, none, none, none, none], ?_, ?_⟩
    · refine ⟨_, rfl, _, rfl, b, t, rfl, by omega, by omega, by omega, by omega, _, rfl, r, a, ns, _, rfl, by decide, by decide, R1, fun v H3 v0 v1 R3 B3 => ?_⟩
      exact ⟨_, _, rfl, v, v0, v1, R3, B1.trans B3, rfl⟩
    clear R1 B1
    rintro σ H1 ⟨kd, kd0, kd1, R1, B1, rfl⟩
    refine ⟨fun σ H2 => ∃ (f : Addr) (fs : List Int), f ≠ r ∧ H f = none ∧ H2 f = some (.lst (fs.map V.int)) ∧ fs.length ≤ 11 ∧ (∀ z ∈ fs, WOk z) ∧ RowAt K H2 r a ns ∧ But r H H2 ∧ σ = [some (.ref r), some (.int d), some (.int b), some (.int t), some (.int (b ^ t.toNat)), some (.int kd), some (.ref f), none, none, none, none, none, none, none], ?_, ?_⟩
    · refine ⟨_, rfl, r, a, ns, _, rfl, by decide, by decide, R1, fun v H3 v0 v1 R3 B3 => ?_⟩
      refine ⟨v, rfl, by omega, by omega, fun f hf => ?_⟩
      have nfr := R3.ne hf
      have hf0 : H f = none := (B1.trans B3).free nfr hf
      refine lc_range (lo := 0) (n := v.toNat) (fun i H4 => RowAt K H4 r a ns ∧ But r H H4 ∧ ∃ fs : List Int, fs.length = i ∧ (∀ z ∈ fs, WOk z) ∧ H4 f = some (.lst (fs.map V.int))) ⟨R3.new hf, (B1.trans B3).new hf, [], rfl, fun _ z => (nomatch z), upd_same⟩ ?_ ?_
      · rintro i H4 hi ⟨R4, B4, fs, hfs, wf, hL⟩
        refine ⟨rfl, _, rfl, r, a, ns, _, rfl, by decide, by decide, R4, fun u H5 u0 u1 R5 B5 => ?_⟩
        have hL5 := B5 _ _ hL nfr
        refine ⟨_, _, rfl, rfl, _, hL5, by rw [List.length_map]; exact small1000 (by omega), R5.put hL5 nfr, (B4.trans B5).putN hf0, fs ++ [u - 4], by simp; omega, fun z hz => ?_, by rw [upd_same, List.map_append]; rfl⟩
        rcases List.mem_append.mp hz with hz | hz
        · exact wf z hz
        · rw [List.mem_singleton.mp hz]
          exact ⟨by omega, by omega⟩
      · rintro H4 ⟨R4, B4, fs, hfs, wf, hL⟩
        exact ⟨f, fs, nfr, hf0, hL, by omega, wf, R4, B4, rfl⟩
    clear R1 B1
    rintro σ H1 ⟨f, fs, nfr, hf0, hf, lf, wf, R1, B1, rfl⟩
    refine ⟨fun σ H2 => ∃ (l : Addr) (ls : List Int), l ≠ r ∧ H l = none ∧ l ≠ f ∧ H2 f = some (.lst (fs.map V.int)) ∧ H2 l = some (.lst (ls.map V.int)) ∧ 1 ≤ ls.length ∧ ls.length ≤ 12 ∧ (∀ z ∈ ls, WOk z) ∧ RowAt K H2 r a ns ∧ But r H H2 ∧ σ = [some (.ref r), some (.int d), some (.int b), some (.int t), some (.int (b ^ t.toNat)), some (.int kd), some (.ref f), some (.ref l), none, none, none, none, none, none], ?_, ?_⟩
    · refine ⟨_, rfl, r, a, ns, _, rfl, by decide, by decide, R1, fun v H3 v0 v1 R3 B3 => ?_⟩
      have hf3 := B3 _ _ hf nfr
      refine ⟨_, _, rfl, rfl, 1 + v, rfl, by omega, by omega, fun l hl => ?_⟩
      have nlr := R3.ne hl
      have nlf : l ≠ f := (ne_of_none hf3 hl).symm
      have hl0 : H l = none := (B1.trans B3).free nlr hl
      refine lc_range (lo := 0) (n := (1 + v).toNat) (fun i H4 => RowAt K H4 r a ns ∧ But r H H4 ∧ H4 f = some (.lst (fs.map V.int)) ∧ ∃ ls : List Int, ls.length = i ∧ (∀ z ∈ ls, WOk z) ∧ H4 l = some (.lst (ls.map V.int))) ⟨R3.new hl, (B1.trans B3).new hl, same_upd hl _ _ hf3, [], rfl, fun _ z => (nomatch z), upd_same⟩ ?_ ?_
      · rintro i H4 hi ⟨R4, B4, hf4, ls, hls, wl, hL⟩
        refine ⟨rfl, _, rfl, r, a, ns, _, rfl, by decide, by decide, R4, fun u H5 u0 u1 R5 B5 => ?_⟩
        have hL5 := B5 _ _ hL nlr
        refine ⟨_, _, rfl, rfl, _, hL5, by rw [List.length_map]; exact small1000 (by omega), R5.put hL5 nlr, (B4.trans B5).putN hl0, by rw [upd_ne nlf.symm]; exact B5 _ _ hf4 nfr, ls ++ [u - 4], by simp; omega, fun z hz => ?_, by rw [upd_same, List.map_append]; rfl⟩
        rcases List.mem_append.mp hz with hz | hz
        · exact wl z hz
        · rw [List.mem_singleton.mp hz]
          exact ⟨by omega, by omega⟩
      · rintro H4 ⟨R4, B4, hf4, ls, hls, wl, hL⟩
        exact ⟨l, ls, nlr, hl0, nlf, hf4, hL, by omega, by omega, wl, R4, B4, rfl⟩
    clear R1 B1 hf
    rintro σ H1 ⟨l, ls, nlr, hl0, nlf, hf, hl, l1, l2, wl, R1, B1, rfl⟩
    refine ⟨fun σ H2 => ∃ (f l : Addr) (fs ls : List Int) (x8 x9 x10 x11 x12 x13 : Option V), H2 f = some (.lst (fs.map V.int)) ∧ H2 l = some (.lst (ls.map V.int)) ∧ SumOk b t fs ls ∧ RowAt K H2 r a ns ∧ But r H H2 ∧ σ = [some (.ref r), some (.int d), some (.int b), some (.int t), some (.int (b ^ t.toNat)), some (.int kd), some (.ref f), some (.ref l), x8, x9, x10, x11, x12, x13], ?_, ?_⟩
    · refine ⟨_, rfl, _, _, rfl, rfl, _, rfl, ?_⟩
      refine ite2 (fun g => ?_) (fun g => ?_)
      · have sok := sim_ok b1 b2 t1 t2 d1 d2
        generalize hBB : b ^ t.toNat = B at sok hB2
        have e1 : (1 : Int).fmod d = 1 % d := Int.fmod_eq_emod_of_nonneg _ (by omega)
        have r0 := Int.emod_nonneg 1 nd
        have r1 := Int.emod_lt_of_pos 1 (show 0 < d by omega)
        refine ⟨fun σ H2 => ∃ S : Addr, S ≠ r ∧ H S = none ∧ H2 S = some (.lst []) ∧ RowAt K H2 r a ns ∧ But r H H2 ∧ σ = [some (.ref r), some (.int d), some (.int b), some (.int t), some (.int B), some (.int kd), some (.ref f), some (.ref l), some (.ref S), some (.int (1 % d)), none, none, none, none], ?_, ?_⟩
        · refine ⟨by show 0 ≤ sizeLine; decide, fun S hS => ?_⟩
          have nSr := R1.ne hS
          exact ⟨_, rfl, _, _, rfl, rfl, nd, _, _, rfl, S, nSr, B1.free nSr hS, upd_same, R1.new hS, B1.new hS, by rw [← e1]; rfl⟩
        clear R1 B1 hf hl
        rintro σ H1 ⟨S, nSr, hS0, hS, R1, B1, rfl⟩
        refine ⟨fun σ H2 => ∃ (s : List Int) (rr : Int), simI B d 20 [] (1 % d) = (s, rr) ∧ H2 S = some (.lst (s.map V.int)) ∧ RowAt K H2 r a ns ∧ But r H H2 ∧ σ = [some (.ref r), some (.int d), some (.int b), some (.int t), some (.int B), some (.int kd), some (.ref f), some (.ref l), some (.ref S), some (.int rr), none, none, none, none], ?_, ?_⟩
        · refine while_by (fun σ H2 => ∃ (s : List Int) (rr : Int) (n : Nat), s.length + n = 20 ∧ simI B d 20 [] (1 % d) = simI B d n s rr ∧ 0 ≤ rr ∧ rr < d ∧ H2 S = some (.lst (s.map V.int)) ∧ RowAt K H2 r a ns ∧ But r H H2 ∧ σ = [some (.ref r), some (.int d), some (.int b), some (.int t), some (.int B), some (.int kd), some (.ref f), some (.ref l), some (.ref S), some (.int rr), none, none, none, none])
            (fun _ H2 => match H2 S with | some (.lst xs) => 20 - xs.length | _ => 0) ⟨[], 1 % d, 20, rfl, rfl, r0, r1, hS, R1, B1, rfl⟩ ?_ ?_
          · clear hS R1 B1
            rintro σ H2 ⟨s, rr, n, hn, hs, rr0, rr1, hS, R2, B2, rfl⟩
            refine ⟨_, rfl, _, rfl, S, _, rfl, .inl (SqL.of hS), rfl, flat_ints s, _, rfl, ?_⟩
            rw [inV_ints]
            refine ite2 (fun g1 => ?_) (fun g1 => ?_)
            · have g2 : s.elem rr = false := by simpa using g1
              refine ⟨_, rfl, S, _, rfl, .inl (SqL.of hS), _, _, rfl, rfl, _, rfl, ?_⟩
              rw [List.length_map]
              refine ite2 (fun g3 => ?_) (fun g3 => ?_)
              · have g4 : s.length < 20 := by
                  have : (s.length : Int) < 20 := of_decide_eq_true g3
                  omega
                obtain ⟨n', rfl⟩ : ∃ n', n = n' + 1 := ⟨n - 1, by omega⟩
                rw [sim_go g2] at hs
                refine ⟨_, rfl, .inl ⟨rfl, _, SqL.of hS⟩, _, rfl, S, _, _, rfl, rfl, hS, by rw [List.length_map]; exact small1000 (by omega), ?_⟩
                have e2 : (rr * B).fmod d = rr * B % d := Int.fmod_eq_emod_of_nonneg _ (by omega)
                refine ⟨_, rfl, _, rfl, _, _, rfl, rfl, .inl ⟨by omega, by omega⟩, _, rfl, _, _, rfl, rfl, nd, ⟨s ++ [rr], rr * B % d, n', by simp; omega, hs, Int.emod_nonneg _ nd, Int.emod_lt_of_pos _ (by omega), by rw [upd_same, List.map_append]; rfl, R2.put hS nSr, B2.putN hS0, by rw [← e2]; rfl⟩, ?_⟩
                rw [upd_same, hS]
                simp
                omega
              · refine ⟨s, rr, ?_, hS, R2, B2, rfl⟩
                have g4 : ¬ (s.length : Int) < 20 := fun z => g3 (decide_eq_true z)
                rw [hs]
                exact sim_stop (.inr (by omega))
            · refine ⟨s, rr, ?_, hS, R2, B2, rfl⟩
              rw [hs]
              exact sim_stop (.inl (by simpa using g1))
          · exact m_and (m_test (m_op m_rIn m_var m_var)) (m_test (m_op m_rI0 m_len m_c))
        clear R1 B1 hS
        rintro σ H1 ⟨s, rr, hs, hS, R1, B1, rfl⟩
        unfold simOk at sok
        rw [hs] at sok
        simp only [Bool.and_eq_true, decide_eq_true_eq] at sok
        obtain ⟨at0, hat⟩ : ∃ at0 : Nat, at0 = (if s.elem rr = true then idxI rr s else 0) := ⟨_, rfl⟩
        obtain ⟨j1, j2, j3, j4⟩ := sok
        rw [← hat] at j1 j2
        have sb : ∀ z ∈ s, 0 ≤ z ∧ z < d := fun z hz => by
          have := List.all_eq_true.mp j4 z hz
          simpa using this
        refine ⟨fun σ H2 => H2 S = some (.lst (s.map V.int)) ∧ RowAt K H2 r a ns ∧ But r H H2 ∧ σ = [some (.ref r), some (.int d), some (.int b), some (.int t), some (.int B), some (.int kd), some (.ref f), some (.ref l), some (.ref S), some (.int rr), some (.int (at0 : Int)), none, none, none], ?_, ?_⟩
        · refine ⟨_, rfl, _, rfl, S, _, rfl, .inl (SqL.of hS), rfl, flat_ints s, _, rfl, ?_⟩
          rw [inV_ints]
          refine ite2 (fun g1 => ?_) (fun g1 => ?_)
          · have g1 : s.elem rr = true := g1
            rw [if_pos g1] at hat
            obtain ⟨i1, i2⟩ := idxI_spec g1
            refine ⟨_, rfl, .inl ⟨rfl, _, SqL.of hS⟩, _, rfl, S, _, .int rr, at0, .int rr, rfl, rfl, SqL.of hS, rfl, flat_ints s, by rw [List.getElem?_map, hat, i1]; rfl, by simp [eqV], fun m z' hm hz' => ?_, hS, R1, B1, rfl⟩
            rw [List.getElem?_map] at hz'
            obtain ⟨y, hy, rfl⟩ := Option.map_eq_some_iff.mp hz'
            have := i2 m (by omega) y hy
            simpa [eqV] using this
          · have g1 : ¬ s.elem rr = true := g1
            rw [if_neg g1] at hat
            subst hat
            exact ⟨hS, R1, B1, rfl⟩
        clear R1 B1 hS
        rintro σ H1 ⟨hS, R1, B1, rfl⟩
        refine ⟨fun σ H2 => ∃ (f l : Addr), f ≠ r ∧ l ≠ r ∧ f ≠ l ∧ H f = none ∧ H l = none ∧ H2 f = some (.lst ((s.take at0).map V.int)) ∧ H2 l = some (.lst ((s.drop at0).map V.int)) ∧ RowAt K H2 r a ns ∧ But r H H2 ∧ σ = [some (.ref r), some (.int d), some (.int b), some (.int t), some (.int B), some (.int kd), some (.ref f), some (.ref l), some (.ref S), some (.int rr), some (.int (at0 : Int)), none, none, none], ?_, ?_⟩
        · refine ⟨_, rfl, _, rfl, _, rfl, S, _, rfl, SqL.of hS, fun f hf => ?_⟩
          rw [cutV_take, ← List.map_take]
          have nSf : S ≠ f := ne_of_none hS hf
          have hS2 := same_upd (o := .lst ((s.take at0).map V.int)) hf _ _ hS
          refine ⟨_, rfl, _, rfl, _, rfl, S, _, rfl, SqL.of hS2, fun l hl => ?_⟩
          rw [cutV_drop, ← List.map_drop]
          have R2 := R1.new (o := .lst ((s.take at0).map V.int)) hf
          have nfr := R1.ne hf
          have nlr := R2.ne hl
          have B2 := B1.new (o := .lst ((s.take at0).map V.int)) hf
          refine ⟨_, _, rfl, f, l, nfr, nlr, ne_of_none upd_same hl, B1.free nfr hf, B2.free nlr hl, same_upd hl _ _ upd_same, upd_same, R2.new hl, B2.new hl, rfl⟩
        clear R1 B1 hS
        rintro σ H1 ⟨f, l, nfr, nlr, nfl, hf0, hl0, hf, hl, R1, B1, rfl⟩
        refine ⟨fun σ H2 => ∃ (l : Addr) (ls : List Int), l ≠ r ∧ f ≠ l ∧ H l = none ∧ H2 f = some (.lst ((s.take at0).map V.int)) ∧ H2 l = some (.lst (ls.map V.int)) ∧ 1 ≤ ls.length ∧ ls.length ≤ 12 ∧ (∀ z ∈ ls, 0 ≤ z ∧ z < d) ∧ RowAt K H2 r a ns ∧ But r H H2 ∧ σ = [some (.ref r), some (.int d), some (.int b), some (.int t), some (.int B), some (.int kd), some (.ref f), some (.ref l), some (.ref S), some (.int rr), some (.int (at0 : Int)), none, none, none], ?_, ?_⟩
        · refine ⟨_, rfl, l, _, rfl, .inl (SqL.of hl), _, _, rfl, rfl, _, rfl, ?_⟩
          have lb : ∀ z ∈ s.drop at0, 0 ≤ z ∧ z < d := fun z hz => sb z (List.mem_of_mem_drop hz)
          have ll : (s.drop at0).length = s.length - at0 := List.length_drop
          rw [List.length_map]
          refine ite2 (fun g1 => ?_) (fun g1 => ?_)
          · refine ⟨_, rfl, _, rfl, l, _, rfl, SqL.of hl, fun l2 hl2 => ?_⟩
            have ec : cutV ((s.drop at0).map V.int) none (some 12) = ((s.drop at0).take 12).map V.int := (cutV_take _ 12).trans (List.map_take ..).symm
            rw [ec]
            have nl2r := R1.ne hl2
            refine ⟨l2, _, nl2r, ne_of_none hf hl2, B1.free nl2r hl2, same_upd hl2 _ _ hf, upd_same, ?_, ?_, fun z hz => lb z (List.mem_of_mem_take hz), R1.new hl2, B1.new hl2, rfl⟩
            · rw [List.length_take]; omega
            · rw [List.length_take]; omega
          · have g2 : ¬ (12 : Int) < ((s.drop at0).length : Int) := fun z => g1 (decide_eq_true z)
            exact ⟨l, _, nlr, nfl, hl0, hf, hl, by omega, by omega, lb, R1, B1, rfl⟩
        clear R1 B1 hf hl
        rintro σ H1 ⟨l, ls, nlr, nfl, hl0, hf, hl, l1, l2, lb, R1, B1, rfl⟩
        obtain ⟨fs, hfs⟩ : ∃ fs, fs = s.take at0 := ⟨_, rfl⟩
        have lf : fs.length ≤ 11 := by rw [hfs, List.length_take]; omega
        have fb : ∀ z ∈ fs, 0 ≤ z ∧ z < d := fun z hz => sb z (List.mem_of_mem_take (hfs ▸ hz))
        rw [← hfs] at hf
        refine ⟨fun σ H2 => ∃ u : Int, 1 ≤ u ∧ u ≤ 30 ∧ H2 f = some (.lst (fs.map V.int)) ∧ H2 l = some (.lst (ls.map V.int)) ∧ RowAt K H2 r a ns ∧ But r H H2 ∧ σ = [some (.ref r), some (.int d), some (.int b), some (.int t), some (.int B), some (.int kd), some (.ref f), some (.ref l), some (.ref S), some (.int rr), some (.int (at0 : Int)), some (.int u), none, none], ?_, ?_⟩
        · refine ⟨_, rfl, rfl, _, rfl, ?_⟩
          refine ite2 (fun g1 => ?_) (fun g1 => ?_)
          · refine ⟨_, rfl, _, rfl, r, a, ns, d, rfl, by omega, by omega, R1, fun v H3 v0 v1 R3 B3 => ?_⟩
            exact ⟨_, _, rfl, rfl, 1 + v, by omega, by omega, B3 _ _ hf nfr, B3 _ _ hl nlr, R3, B1.trans B3, rfl⟩
          · exact ⟨1, by decide, by decide, hf, hl, R1, B1, rfl⟩
        clear R1 B1 hf hl
        rintro σ H1 ⟨u, u1, u2, hf, hl, R1, B1, rfl⟩
        refine ⟨fun σ H2 => ∃ (f2 : Addr) (fs2 : List Int), f2 ≠ r ∧ f2 ≠ l ∧ H f2 = none ∧ fs2.length ≤ 11 ∧ (∀ z ∈ fs2, -900 ≤ z ∧ z ≤ 900) ∧ H2 f2 = some (.lst (fs2.map V.int)) ∧ H2 l = some (.lst (ls.map V.int)) ∧ RowAt K H2 r a ns ∧ But r H H2 ∧ σ = [some (.ref r), some (.int d), some (.int b), some (.int t), some (.int B), some (.int kd), some (.ref f2), some (.ref l), some (.ref S), some (.int rr), some (.int (at0 : Int)), some (.int u), none, none], ?_, ?_⟩
        · refine ⟨_, rfl, f, rfl, ⟨_, SqL.of hf⟩, fun f2 hN => ?_⟩
          have nNr := R1.ne hN
          have nNs : f ≠ f2 := ne_of_none hf hN
          have nNk : l ≠ f2 := ne_of_none hl hN
          have hN0 : H f2 = none := B1.free nNr hN
          refine lc_list (K := K) (a := f) (xs := fs.map V.int) (fun i H4 => RowAt K H4 r a ns ∧ But r H H4 ∧ H4 f = some (.lst (fs.map V.int)) ∧ H4 l = some (.lst (ls.map V.int)) ∧ ∃ us : List Int, us.length = i ∧ (∀ z ∈ us, -900 ≤ z ∧ z ≤ 900) ∧ H4 f2 = some (.lst (us.map V.int)))
            ⟨R1.new hN, B1.new hN, same_upd hN _ _ hf, same_upd hN _ _ hl, [], rfl, fun _ z => (nomatch z), upd_same⟩ (fun i H4 hi P => SqL.of P.2.2.1) ?_ ?_
          · rintro i x H4 hx ⟨R4, B4, hs4, hk4, us, hus, wu, hL⟩
            obtain ⟨z, hz, rfl⟩ : ∃ z, fs[i]? = some z ∧ V.int z = x := by
              rw [List.getElem?_map] at hx
              obtain ⟨z, hz, e⟩ := Option.map_eq_some_iff.mp hx
              exact ⟨z, hz, e⟩
            obtain ⟨z0, z1⟩ := fb z (List.mem_of_getElem? hz)
            have hil : i < fs.length := (List.getElem?_eq_some_iff.mp hz).1
            refine ⟨rfl, _, rfl, _, rfl, _, _, rfl, rfl, .inl ⟨by omega, by omega⟩, _, rfl, _, rfl, r, a, ns, _, rfl, by decide, by decide, R4, fun v H5 v0 v1 R5 B5 => ?_⟩
            have hL5 := B5 _ _ hL nNr
            obtain ⟨w0, w1⟩ := wok_unit z0 z1 u1 u2 d1 d2 v0 v1
            refine ⟨_, _, rfl, rfl, _, _, rfl, rfl, .inl ⟨by omega, by omega⟩, _, _, rfl, rfl, _, hL5, by rw [List.length_map]; exact small1000 (by omega), R5.put hL5 nNr, (B4.trans B5).putN hN0, by rw [upd_ne nNs]; exact B5 _ _ hs4 nfr, by rw [upd_ne nNk]; exact B5 _ _ hk4 nlr, us ++ [z * u + d * (v - 1)], by simp; omega, fun y hy => ?_, by rw [upd_same, List.map_append]; rfl⟩
            rcases List.mem_append.mp hy with hy | hy
            · exact wu y hy
            · rw [List.mem_singleton.mp hy]
              exact ⟨w0, w1⟩
          · rw [List.length_map]
            rintro H4 ⟨R4, B4, hs4, hk4, us, hus, wu, hL⟩
            exact ⟨f2, us, nNr, nNk.symm, hN0, by omega, wu, hL, hk4, R4, B4, rfl⟩
        clear R1 B1 hf hl
        rintro σ H1 ⟨f2, fs2, nf2r, nf2l, hf20, lf2, wf2, hf2, hl, R1, B1, rfl⟩
        refine ⟨fun σ H2 => ∃ (l2 : Addr) (ls2 : List Int), l2 ≠ r ∧ f2 ≠ l2 ∧ H l2 = none ∧ 1 ≤ ls2.length ∧ ls2.length ≤ 12 ∧ (∀ z ∈ ls2, -900 ≤ z ∧ z ≤ 900) ∧ H2 f2 = some (.lst (fs2.map V.int)) ∧ H2 l2 = some (.lst (ls2.map V.int)) ∧ RowAt K H2 r a ns ∧ But r H H2 ∧ σ = [some (.ref r), some (.int d), some (.int b), some (.int t), some (.int B), some (.int kd), some (.ref f2), some (.ref l2), some (.ref S), some (.int rr), some (.int (at0 : Int)), some (.int u), none, none], ?_, ?_⟩
        · refine ⟨_, rfl, l, rfl, ⟨_, SqL.of hl⟩, fun l3 hN => ?_⟩
          have nNr := R1.ne hN
          have nNs : l ≠ l3 := ne_of_none hl hN
          have nNk : f2 ≠ l3 := ne_of_none hf2 hN
          have hN0 : H l3 = none := B1.free nNr hN
          refine lc_list (K := K) (a := l) (xs := ls.map V.int) (fun i H4 => RowAt K H4 r a ns ∧ But r H H4 ∧ H4 l = some (.lst (ls.map V.int)) ∧ H4 f2 = some (.lst (fs2.map V.int)) ∧ ∃ us : List Int, us.length = i ∧ (∀ z ∈ us, -900 ≤ z ∧ z ≤ 900) ∧ H4 l3 = some (.lst (us.map V.int)))
            ⟨R1.new hN, B1.new hN, same_upd hN _ _ hl, same_upd hN _ _ hf2, [], rfl, fun _ z => (nomatch z), upd_same⟩ (fun i H4 hi P => SqL.of P.2.2.1) ?_ ?_
          · rintro i x H4 hx ⟨R4, B4, hs4, hk4, us, hus, wu, hL⟩
            obtain ⟨z, hz, rfl⟩ : ∃ z, ls[i]? = some z ∧ V.int z = x := by
              rw [List.getElem?_map] at hx
              obtain ⟨z, hz, e⟩ := Option.map_eq_some_iff.mp hx
              exact ⟨z, hz, e⟩
            obtain ⟨z0, z1⟩ := lb z (List.mem_of_getElem? hz)
            have hil : i < ls.length := (List.getElem?_eq_some_iff.mp hz).1
            refine ⟨rfl, _, rfl, _, rfl, _, _, rfl, rfl, .inl ⟨by omega, by omega⟩, _, rfl, _, rfl, r, a, ns, _, rfl, by decide, by decide, R4, fun v H5 v0 v1 R5 B5 => ?_⟩
            have hL5 := B5 _ _ hL nNr
            obtain ⟨w0, w1⟩ := wok_unit z0 z1 u1 u2 d1 d2 v0 v1
            refine ⟨_, _, rfl, rfl, _, _, rfl, rfl, .inl ⟨by omega, by omega⟩, _, _, rfl, rfl, _, hL5, by rw [List.length_map]; exact small1000 (by omega), R5.put hL5 nNr, (B4.trans B5).putN hN0, by rw [upd_ne nNs]; exact B5 _ _ hs4 nlr, by rw [upd_ne nNk]; exact B5 _ _ hk4 nf2r, us ++ [z * u + d * (v - 1)], by simp; omega, fun y hy => ?_, by rw [upd_same, List.map_append]; rfl⟩
            rcases List.mem_append.mp hy with hy | hy
            · exact wu y hy
            · rw [List.mem_singleton.mp hy]
              exact ⟨w0, w1⟩
          · rw [List.length_map]
            rintro H4 ⟨R4, B4, hs4, hk4, us, hus, wu, hL⟩
            exact ⟨l3, us, nNr, nNk, hN0, by omega, by omega, wu, hk4, hL, R4, B4, rfl⟩
        clear R1 B1 hl hf2
        rintro σ H1 ⟨l3, ls2, nl2r, nf2l2, hl20, l21, l22, wl2, hf2, hl2, R1, B1, rfl⟩
        have wfo : ∀ z ∈ fs2, WOk z := fun z hz => ⟨by have := wf2 z hz; omega, by have := wf2 z hz; omega⟩
        have wlo : ∀ z ∈ ls2, WOk z := fun z hz => ⟨by have := wl2 z hz; omega, by have := wl2 z hz; omega⟩
        refine ⟨_, rfl, rfl, _, rfl, ?_⟩
        refine ite2 (fun g1 => ?_) (fun g1 => ?_)
        · refine ⟨fun σ H2 => ∃ (j : Nat), j < ls2.length ∧ H2 f2 = some (.lst (fs2.map V.int)) ∧ H2 l3 = some (.lst (ls2.map V.int)) ∧ RowAt K H2 r a ns ∧ But r H H2 ∧ σ = [some (.ref r), some (.int d), some (.int b), some (.int t), some (.int B), some (.int kd), some (.ref f2), some (.ref l3), some (.ref S), some (.int rr), some (.int (j : Int)), some (.int u), none, none], ?_, ?_⟩
          · refine ⟨_, rfl, _, rfl, l3, _, rfl, .inl (SqL.of hl2), r, a, ns, _, rfl, by rw [List.length_map]; omega, by rw [List.length_map]; omega, R1, fun v H3 v0 v1 R3 B3 => ?_⟩
            rw [List.length_map] at v1
            exact ⟨v.toNat, by omega, B3 _ _ hf2 nf2r, B3 _ _ hl2 nl2r, R3, B1.trans B3, by rw [Int.toNat_of_nonneg v0]; rfl⟩
          clear hf2 hl2 R1 B1
          rintro σ H2 ⟨j, hj, hf2, hl2, R2, B2, rfl⟩
          have hz : ls2[j]? = some ls2[j] := List.getElem?_eq_getElem hj
          refine ⟨_, rfl, _, rfl, l3, _, _, _, rfl, rfl, SqL.of hl2, at_of (j := j) rfl (by rw [List.getElem?_map, hz]; rfl), _, _, rfl, rfl, _, rfl, _, rfl, l3, _, _, j, rfl, rfl, hl2, ?_, ?_⟩
          · rw [List.length_map]
            unfold ixN
            rw [if_pos (by omega), if_pos (by omega), Int.toNat_natCast]
          · refine ⟨f2, l3, fs2, ls2.set j (ls2[j] + 1), _, _, _, _, _, _, by rw [upd_ne nf2l2]; exact hf2, by rw [upd_same, List.map_set], ⟨b1, b2, t1, t2, lf2, by rw [List.length_set]; exact l21, by rw [List.length_set]; exact l22, wfo, fun z hz => ?_⟩, R2.put hl2 nl2r, B2.putN hl20, rfl⟩
            rcases List.mem_or_eq_of_mem_set hz with h | h
            · exact wlo z h
            · have := wl2 _ (List.getElem_mem hj)
              exact ⟨by omega, by omega⟩
        · exact ⟨f2, l3, fs2, ls2, _, _, _, _, _, _, hf2, hl2, ⟨b1, b2, t1, t2, lf2, l21, l22, wfo, wlo⟩, R1, B1, rfl⟩
      · exact ⟨f, l, fs, ls, _, _, _, _, _, _, hf, hl, ⟨b1, b2, t1, t2, lf, l1, l2, wf, wl⟩, R1, B1, rfl⟩
    clear R1 B1 hf hl wl wf l1 l2 lf hl0 hf0
    rintro σ H1 ⟨f, l, fs, ls, x8, x9, x10, x11, x12, x13, hf, hl, ok, R1, B1, rfl⟩
    refine ⟨_, rfl, _, rfl, _, rfl, f, _, rfl, .inl ⟨SqL.of hf, fun f2 hf2 => ?_⟩⟩
    have hl2 := same_upd (o := .tup (fs.map V.int)) hf2 _ _ hl
    refine ⟨_, rfl, l, _, rfl, .inl ⟨SqL.of hl2, fun l2 hl3 => ⟨by show 4 ≤ sizeLine; decide, fun q hq => ?_⟩⟩⟩
    have R2 := R1.new (o := .tup (fs.map V.int)) hf2
    have R3 := R2.new (o := .tup (ls.map V.int)) hl3
    have nqr := R3.ne hq
    have B3 := ((B1.new (o := .tup (fs.map V.int)) hf2).new (o := .tup (ls.map V.int)) hl3)
    exact k b t fs ls q f2 l2 _ ok (R3.new hq) (B3.new hq) upd_same (same_upd hq _ _ (same_upd hl3 _ _ upd_same)) (same_upd hq _ _ upd_same) nqr (B3.free nqr hq)

/-! ### the block -/
def blockOf (b t : Int) : Int := if t = 1 then b else b * b
theorem block_bd {b t : Int} (h1 : 2 ≤ b) (h2 : b ≤ 16) : 2 ≤ blockOf b t ∧ blockOf b t ≤ 256 := by
  unfold blockOf
  split
  · omega
  · have q : b * b ≤ 16 * 16 := Int.mul_le_mul h2 h2 (by omega) (by omega)
    have r : 2 * 2 ≤ b * b := Int.mul_le_mul h1 h1 (by omega) (by omega)
    omega
theorem pow_block {b t : Int} (t1 : 1 ≤ t) (t2 : t ≤ 2) : b ^ t.toNat = blockOf b t := by
  unfold blockOf
  by_cases h : t = 1
  · rw [if_pos h, h]
    exact Int.pow_succ b 0 |>.trans (by rw [Int.pow_zero, Int.one_mul])
  · have h2 : t = 2 := by omega
    rw [if_neg h, h2]
    exact Int.pow_succ b 1 |>.trans (by rw [Int.pow_succ, Int.pow_zero, Int.one_mul])

/-! ### tricks -/
def spBlockOf : Sp := fun vs H Q _ => ∃ b t : Int, vs = [.int b, .int t] ∧ 2 ≤ b ∧ b ≤ 16 ∧ Q (.int (blockOf b t)) H
theorem ok_block_of (T : Tx P K mg) : FnOk P w K mg base CX0 lv_block_of T.a_block_of T.d_block_of ["base", "take"] spBlockOf := by
  refine T.F_block_of.ok sc_block_of (fun vs H Q E h => ?_) (fun cdv A outer s H vs Q E hr h => ?_)
  · obtain ⟨b, t, rfl, _⟩ := h
    rfl
  · obtain ⟨b, t, rfl, h1, h2, k⟩ := h
    refine ⟨_, (pss_one (ps_ret (pe_ifExp (pt_cmpR op_eq (pv 1) pe_int (nomark _)) (pv 0) (pe_op op_mul (pv 0) (pv 0))))), ?_⟩
    refine ⟨_, rfl, rfl, _, rfl, ?_⟩
    refine ite2 (fun c => ?_) (fun c => ?_)
    · have c1 : t = 1 := by simpa using c
      have k2 : Q (.int b) H := by
        have e : blockOf b t = b := by unfold blockOf; rw [if_pos c1]
        rw [e] at k
        exact k
      exact ⟨_, rfl, k2⟩
    · have c1 : ¬ t = 1 := by simpa using c
      have k2 : Q (.int (b * b)) H := by
        have e : blockOf b t = b * b := by unfold blockOf; rw [if_neg c1]
        rw [e] at k
        exact k
      exact ⟨_, rfl, _, rfl, _, _, rfl, rfl, .inl ⟨by omega, by omega⟩, k2⟩

/-! ### the weight at a place -/
def wAt (fs ls : List Int) (k : Nat) : Int := if k < fs.length then fs.getD k 0 else ls.getD ((k - fs.length) % ls.length) 0
theorem at_ints {ns : List Int} {k : Nat} (h : k < ns.length) : atI (ns.map V.int) (k : Int) = some (V.int (ns.getD k 0)) := by
  refine at_of (j := k) rfl ?_
  rw [List.getElem?_map, List.getD_eq_getElem?_getD, List.getElem?_eq_getElem h]
  rfl
theorem wAt_first {fs ls : List Int} {k : Nat} (h : k < fs.length) : atI (fs.map V.int) (k : Int) = some (V.int (wAt fs ls k)) := by
  unfold wAt
  rw [if_pos h]
  exact at_ints h
theorem wAt_loop {fs ls : List Int} {k : Nat} (h : ¬ k < fs.length) (hl : 1 ≤ ls.length) : atI (ls.map V.int) (((k : Int) - (fs.length : Int)).fmod (ls.length : Int)) = some (V.int (wAt fs ls k)) := by
  unfold wAt
  rw [if_neg h, Int.fmod_eq_emod_of_nonneg _ (by omega), show ((k : Int) - (fs.length : Int)) % (ls.length : Int) = (((k - fs.length) % ls.length : Nat) : Int) by rw [Int.natCast_emod]; congr 1; omega]
  exact at_ints (Nat.mod_lt _ (by omega))
def spWeightAt (T : Tx P K mg) : Sp := fun vs H Q _ => ∃ (p : Addr) (b t : Int) (fs ls : List Int) (k : Nat), vs = [.ref p, .int (k : Int)] ∧ SumAt T H p b t fs ls ∧ Q (.int (wAt fs ls k)) H
theorem ok_weight_at (T : Tx P K mg) : FnOk P w K mg base CX0 lv_weight_at T.a_weight_at T.d_weight_at ["told", "place"] (spWeightAt T) := by
  refine T.F_weight_at.ok sc_weight_at (fun vs H Q E h => ?_) (fun cdv A outer s H vs Q E hr h => ?_)
  · obtain ⟨p, b, t, fs, ls, k, rfl, _⟩ := h
    rfl
  · obtain ⟨p, b, t, fs, ls, k, rfl, a, kk⟩ := h
    obtain ⟨dx, f, l, e, hf, hl, b1, b2, t1, t2, w1, w2⟩ := id a
    refine ⟨_, (pss_cons (ps_set (i := 2) sc_weight_at.nd rfl (Or.inl rfl) (pe_op op_sub (pv 1) (pe_callB call_len_seq (by rfl) T.n_len (by decide +kernel) (pa_cons (pe_prop (pv 0) T.cl_Sum T.p_Sum_first (ok_Sum_first T) (hr.mono (by decide)) T.b_Sum_first .nil pass0 rfl) pa_nil))))
      (pss_one (ps_ret (pe_ifExp (pt_cmpR op_lt (pv 2) pe_int (nomark _)) (pe_ix ix_tup (pe_prop (pv 0) T.cl_Sum T.p_Sum_first (ok_Sum_first T) (hr.mono (by decide)) T.b_Sum_first .nil pass0 rfl) (pv 1) (fun _ _ => rfl)) (pe_ix ix_tup (pe_prop (pv 0) T.cl_Sum T.p_Sum_loop (ok_Sum_loop T) (hr.mono (by decide)) T.b_Sum_loop .nil pass0 rfl) (pe_op op_modN (pv 2) (pe_callB call_len_seq (by rfl) T.n_len (by decide +kernel) (pa_cons (pe_prop (pv 0) T.cl_Sum T.p_Sum_loop (ok_Sum_loop T) (hr.mono (by decide)) T.b_Sum_loop .nil pass0 rfl) pa_nil))) (fun _ _ => rfl)))))), ?_⟩
    refine ⟨_, rfl, _, rfl, p, dx, _, rfl, e, p, dx, _, _, _, _, rfl, e, f, _, rfl, .inr (SqT.of hf), _, _, rfl, rfl, ?_⟩
    refine ⟨_, rfl, _, _, rfl, rfl, _, rfl, ?_⟩
    have hl1 : 1 ≤ ls.length := w2.1
    refine ite2 (fun g => ?_) (fun g => ?_)
    · have g1 : k < fs.length := by
        have : (k : Int) - ((fs.map V.int).length : Int) < 0 := of_decide_eq_true g
        rw [List.length_map] at this
        omega
      exact ⟨_, rfl, p, dx, _, rfl, e, p, dx, _, _, _, _, rfl, e, _, rfl, f, _, _, _, rfl, rfl, SqT.of hf, wAt_first g1, kk⟩
    · have g1 : ¬ k < fs.length := fun z => g (decide_eq_true (show (k : Int) - ((fs.map V.int).length : Int) < 0 by rw [List.length_map]; omega))
      refine ⟨_, rfl, p, dx, _, rfl, e, p, dx, _, _, _, _, rfl, e, _, rfl, _, rfl, p, dx, _, rfl, e, p, dx, _, _, _, _, rfl, e, l, _, rfl, .inr (SqT.of hl), ?_⟩
      refine ⟨_, _, rfl, rfl, (show ((ls.map V.int).length : Int) ≠ 0 by rw [List.length_map]; omega), ?_⟩
      refine ⟨l, _, _, _, rfl, rfl, SqT.of hl, ?_, kk⟩
      rw [List.length_map, List.length_map]
      exact wAt_loop g1 hl1
def spSumBlock (T : Tx P K mg) : Sp := fun vs H Q _ => ∃ (p : Addr) (b t : Int) (fs ls : List Int), vs = [.ref p] ∧ SumAt T H p b t fs ls ∧ Q (.int (blockOf b t)) H
theorem ok_sum_block (T : Tx P K mg) : FnOk P w K mg base CX0 lv_sum_block T.a_sum_block T.d_sum_block ["told"] (spSumBlock T) := by
  refine T.F_sum_block.ok sc_sum_block (fun vs H Q E h => ?_) (fun cdv A outer s H vs Q E hr h => ?_)
  · obtain ⟨p, b, t, fs, ls, rfl, _⟩ := h
    rfl
  · obtain ⟨p, b, t, fs, ls, rfl, a, k⟩ := h
    obtain ⟨dx, f, l, e, hf, hl, b1, b2, t1, t2, w1, w2⟩ := id a
    exact ⟨_, (pss_one (ps_ret (pe_call (ok_block_of T) (hr.mono (by decide)) rfl T.g_block_of T.F_block_of.kp T.b_block_of .nil pass0 (pa_cons (pe_prop (pv 0) T.cl_Sum T.p_Sum_base (ok_Sum_base T) (hr.mono (by decide)) T.b_Sum_base .nil pass0 rfl) (pa_cons (pe_prop (pv 0) T.cl_Sum T.p_Sum_take (ok_Sum_take T) (hr.mono (by decide)) T.b_Sum_take .nil pass0 rfl) pa_nil))))), _, rfl, p, dx, _, rfl, e, p, dx, _, _, _, _, rfl, e, _, rfl, p, dx, _, rfl, e, p, dx, _, _, _, _, rfl, e, b, t, rfl, b1, b2, k⟩

/-! ### the rests of powers come again -/
theorem simAll2 : ((List.range 15).all fun b => (List.range 2).all fun t => (List.range 30).all fun d =>
    (let F := simI (((b + 2 : Nat) : Int) ^ (t + 1)) ((d + 1 : Nat) : Int) 31 [] (1 % ((d + 1 : Nat) : Int)); F.1.elem F.2 && decide (F.1.length ≤ 31))) = true := by decide +kernel
theorem sim_ok2 {b t d : Int} (b1 : 2 ≤ b) (b2 : b ≤ 16) (t1 : 1 ≤ t) (t2 : t ≤ 2) (d1 : 1 ≤ d) (d2 : d ≤ 30) :
    (simI (b ^ t.toNat) d 31 [] (1 % d)).1.elem (simI (b ^ t.toNat) d 31 [] (1 % d)).2 = true ∧ (simI (b ^ t.toNat) d 31 [] (1 % d)).1.length ≤ 31 := by
  have h := simAll2
  rw [List.all_eq_true] at h
  have h1 := h (b - 2).toNat (List.mem_range.mpr (by omega))
  rw [List.all_eq_true] at h1
  have h2 := h1 (t - 1).toNat (List.mem_range.mpr (by omega))
  rw [List.all_eq_true] at h2
  have h3 := h2 (d - 1).toNat (List.mem_range.mpr (by omega))
  rw [show (((b - 2).toNat + 2 : Nat) : Int) = b by omega, show (t - 1).toNat + 1 = t.toNat by omega, show (((d - 1).toNat + 1 : Nat) : Int) = d by omega] at h3
  rw [Bool.and_eq_true, decide_eq_true_eq] at h3
  exact h3
theorem sim_pw {B d : Int} : ∀ (n : Nat) (s : List Int) (r : Int), (∀ j, j < s.length → s[j]? = some (B ^ j % d)) → r = B ^ s.length % d →
    (∀ j, j < (simI B d n s r).1.length → (simI B d n s r).1[j]? = some (B ^ j % d)) ∧ (simI B d n s r).2 = B ^ (simI B d n s r).1.length % d
  | 0, s, r, h1, h2 => ⟨h1, h2⟩
  | n + 1, s, r, h1, h2 => by
    cases e : s.elem r with
    | true =>
      rw [sim_stop (.inl e)]
      exact ⟨h1, h2⟩
    | false =>
      rw [sim_go e]
      refine sim_pw n (s ++ [r]) _ (fun j hj => ?_) ?_
      · rw [List.length_append, List.length_singleton] at hj
        rcases Nat.lt_or_ge j s.length with q | q
        · rw [List.getElem?_append_left q]
          exact h1 j q
        · have ej : j = s.length := by omega
          subst ej
          rw [List.getElem?_append_right (Nat.le_refl _), Nat.sub_self, h2]
          rfl
      · rw [List.length_append, List.length_singleton, h2, Int.pow_succ, Int.mul_emod, Int.emod_emod, ← Int.mul_emod]
theorem sim_nodup {B d : Int} : ∀ (n : Nat) (s : List Int) (r : Int), s.Nodup → (simI B d n s r).1.Nodup
  | 0, s, r, h => h
  | n + 1, s, r, h => by
    cases e : s.elem r with
    | true =>
      rw [sim_stop (.inl e)]
      exact h
    | false =>
      rw [sim_go e]
      refine sim_nodup n _ _ (List.nodup_append.mpr ⟨h, List.nodup_cons.mpr ⟨List.not_mem_nil, List.nodup_nil⟩, fun x hx y hy => ?_⟩)
      rw [List.mem_singleton.mp hy]
      intro z
      rw [z] at hx
      rw [List.elem_iff.mpr hx] at e
      cases e
/-- the rests of the powers L, from place a on again and again -/
structure PowR (B d : Int) (L : List Int) (a : Nat) : Prop where
  at_ : ∀ j, j < L.length → L[j]? = some (B ^ j % d)
  lt : a < L.length
  le : L.length ≤ 31
  per : B ^ L.length % d = B ^ a % d
  nodup : L.Nodup
theorem pow_r {b t d : Int} (b1 : 2 ≤ b) (b2 : b ≤ 16) (t1 : 1 ≤ t) (t2 : t ≤ 2) (d1 : 1 ≤ d) (d2 : d ≤ 30) {s : List Int} {r : Int} (h : simI (b ^ t.toNat) d 31 [] (1 % d) = (s, r)) : PowR (b ^ t.toNat) d s (idxI r s) ∧ s.elem r = true := by
  obtain ⟨h1, h2⟩ := sim_ok2 b1 b2 t1 t2 d1 d2
  obtain ⟨h3, h4⟩ := sim_pw (B := b ^ t.toNat) (d := d) 31 [] (1 % d) (fun j hj => absurd hj (Nat.not_lt_zero _)) (by rw [List.length_nil, Int.pow_zero])
  rw [h] at h1 h2 h3 h4
  obtain ⟨i1, i2⟩ := idxI_spec h1
  have il := (List.getElem?_eq_some_iff.mp i1).1
  have hn := sim_nodup (B := b ^ t.toNat) (d := d) 31 [] (1 % d) List.nodup_nil
  rw [h] at hn
  refine ⟨⟨h3, il, h2, ?_, hn⟩, h1⟩
  have := h3 _ il
  rw [i1] at this
  rw [← h4]
  exact Option.some.inj this
theorem PowR.again {B d : Int} {L : List Int} {a : Nat} (h : PowR B d L a) {k : Nat} (hk : a ≤ k) : B ^ (k + (L.length - a)) % d = B ^ k % d := by
  have hl := h.lt
  rw [show k + (L.length - a) = L.length + (k - a) by omega, Int.pow_add, Int.mul_emod, h.per, ← Int.mul_emod, ← Int.pow_add, show a + (k - a) = k by omega]
theorem PowR.agains {B d : Int} {L : List Int} {a : Nat} (h : PowR B d L a) {k : Nat} (hk : a ≤ k) : ∀ m : Nat, B ^ (k + m * (L.length - a)) % d = B ^ k % d
  | 0 => by rw [Nat.zero_mul, Nat.add_zero]
  | m + 1 => by
    rw [Nat.succ_mul, ← Nat.add_assoc, h.again (by omega), h.agains hk m]
theorem wAt_again {fs ls : List Int} {k : Nat} (hk : fs.length ≤ k) (m : Nat) : wAt fs ls (k + m * ls.length) = wAt fs ls k := by
  unfold wAt
  rw [if_neg (by omega), if_neg (by omega), show k + m * ls.length - fs.length = (k - fs.length) + m * ls.length by omega, Nat.add_mul_mod_self_right]
/-- the weight at a place has another rest than the power -/
def badP (B d : Int) (u : Nat → Int) (k : Nat) : Bool := !decide (d ∣ B ^ k - u k)
theorem bad_again {B d : Int} {L : List Int} {a : Nat} (h : PowR B d L a) {fs ls : List Int} {k : Nat} (h1 : a ≤ k) (h2 : fs.length ≤ k) : badP B d (wAt fs ls) (k + ls.length * (L.length - a)) = badP B d (wAt fs ls) k := by
  unfold badP
  rw [show wAt fs ls (k + ls.length * (L.length - a)) = wAt fs ls k by rw [Nat.mul_comm]; exact wAt_again h2 _]
  congr 1
  apply decide_eq_decide.mpr
  have e := h.agains h1 ls.length
  rw [Int.dvd_iff_emod_eq_zero, Int.dvd_iff_emod_eq_zero, Int.sub_emod, e, ← Int.sub_emod]
/-- so many places tell all -/
def turnN (fs ls L : List Int) (a : Nat) : Nat := max fs.length a + ls.length * (L.length - a)
theorem bad_turn {B d : Int} {L : List Int} {a : Nat} (h : PowR B d L a) {fs ls : List Int} (hl : 0 < ls.length) (h0 : ∀ k, k < turnN fs ls L a → badP B d (wAt fs ls) k = false) : ∀ k, badP B d (wAt fs ls) k = false := by
  intro k
  induction k using Nat.strongRecOn with
  | ind k ih =>
    by_cases hk : k < turnN fs ls L a
    · exact h0 k hk
    · unfold turnN at hk
      have hp : 0 < ls.length * (L.length - a) := Nat.mul_pos hl (by have := h.lt; omega)
      have e := bad_again h (fs := fs) (ls := ls) (k := k - ls.length * (L.length - a)) (by omega) (by omega)
      rw [show k - ls.length * (L.length - a) + ls.length * (L.length - a) = k by omega] at e
      rw [e]
      exact ih _ (by omega)
/-! ### the first one of a stretch -/
theorem find_hit {f : Nat → Bool} {i n : Nat} (h0 : ∀ j, j < i → f j = false) (h1 : f i = true) (hi : i < n) : (List.range n).find? f = some i := by
  rw [List.find?_eq_some_iff_append]
  refine ⟨h1, List.range i, (List.range' (i + 1) (n - (i + 1))), ?_, fun x hx => by rw [h0 x (List.mem_range.mp hx)]; rfl⟩
  rw [List.range_eq_range', List.range_eq_range', show n = i + (1 + (n - (i + 1))) by omega, ← List.range'_append_1, Nat.zero_add]
  congr 1
  rw [Nat.add_comm 1 _, List.range'_succ]
  simp
  omega
theorem find_no {f : Nat → Bool} {n : Nat} (h0 : ∀ j, j < n → f j = false) : (List.range n).find? f = none := by
  rw [List.find?_eq_none]
  intro x hx
  rw [h0 x (List.mem_range.mp hx)]
  exact Bool.false_ne_true
/-- the power at the first wrong place, or None -/
def dueV (B : Int) (o : Option Nat) : V := match o with
  | none => .non
  | some k => .int (B ^ k)
/-- a longer stretch tells the same -/
theorem due_more {B d : Int} {L : List Int} {a : Nat} (h : PowR B d L a) {fs ls : List Int} (hl : 0 < ls.length) {n : Nat} (hn : turnN fs ls L a ≤ n) : (List.range n).find? (badP B d (wAt fs ls)) = (List.range (turnN fs ls L a)).find? (badP B d (wAt fs ls)) := by
  cases e : (List.range (turnN fs ls L a)).find? (badP B d (wAt fs ls)) with
  | none =>
    have h0 : ∀ k, k < turnN fs ls L a → badP B d (wAt fs ls) k = false := fun k hk => by
      have := List.find?_eq_none.mp e k (List.mem_range.mpr hk)
      simpa using this
    exact find_no fun j _ => bad_turn h hl h0 j
  | some i =>
    obtain ⟨h1, as, bs, e2, h2⟩ := List.find?_eq_some_iff_append.mp e
    have hi : i < turnN fs ls L a := List.mem_range.mp (by rw [e2]; exact List.mem_append_right _ List.mem_cons_self)
    refine find_hit (fun j hj => ?_) h1 (by omega)
    have hm : j ∈ as := by
      have hj2 : j ∈ List.range (turnN fs ls L a) := List.mem_range.mpr (by omega)
      have hp : (List.range (turnN fs ls L a)).Pairwise (· < ·) := List.pairwise_lt_range
      rw [e2] at hj2 hp
      rcases List.mem_append.mp hj2 with q | q
      · exact q
      · rcases List.mem_cons.mp q with q | q
        · omega
        · have := (List.pairwise_cons.mp (List.pairwise_append.mp hp).2.1).1 j q
          omega
    have := h2 j hm
    simpa using this

/-! ### the rests of powers -/
def spPowerRests (K : PySem.W.Frag) : Sp := fun vs H Q _ => ∃ (b t d : Int), vs = [.int (blockOf b t), .int d] ∧ 2 ≤ b ∧ b ≤ 16 ∧ 1 ≤ t ∧ t ≤ 2 ∧ 1 ≤ d ∧ d ≤ 30 ∧
  ∀ (L : List Int) (a : Nat) (q x y : Addr) (H' : Hp), PowR (blockOf b t) d L a → (∀ z ∈ L, 0 ≤ z ∧ z < d) → Same H H' → H' q = some (.tup [.ref x, .ref y]) → H' x = some (.lst ((L.take a).map V.int)) → H' y = some (.lst ((L.drop a).map V.int)) → Q (.ref q) H'
theorem ok_power_rests (T : Tx P K mg) : FnOk P w K mg base CX0 lv_power_rests T.a_power_rests T.d_power_rests ["block", "d"] (spPowerRests K) := by
  refine T.F_power_rests.ok sc_power_rests (fun vs H Q E h => ?_) (fun cdv A outer s H vs Q E hr h => ?_)
  · obtain ⟨b, t, d, rfl, _⟩ := h
    rfl
  · obtain ⟨b, t, d, rfl, b1, b2, t1, t2, d1, d2, k⟩ := h
    refine ⟨_, (pss_cons (ps_set (i := 2) sc_power_rests.nd rfl (Or.inl rfl) (pe_lst pa_nil))
      (pss_cons (ps_set (i := 3) sc_power_rests.nd rfl (Or.inl rfl) (pe_op op_modN pe_int (pv 1)))
      (pss_cons (ps_while PassesOwn.never (pt_cmpR op_notIn_seq (pv 3) (pv 2) (by with_unfolding_all rfl)) (pss_cons (ps_expr (pe_bm PySem.F.plainAttrs_list PySem.F.slot_list_append PySem.F.type_list_append mt_append (pv 2) (pa_cons (pv 3) pa_nil)))
      (pss_one (ps_set (i := 3) sc_power_rests.nd rfl (Or.inl rfl) (pe_op op_modN (pe_op op_mul (pv 3) (pv 0)) (pv 1))))))
      (pss_cons (ps_set (i := 4) sc_power_rests.nd rfl (Or.inl rfl) (pe_bm PySem.F.plainAttrs_list PySem.F.slot_list_index PySem.F.type_list_index mt_index (pv 2) (pa_cons (pv 3) pa_nil)))
      (pss_one (ps_ret (pe_tup (pa_cons (pe_slice sl_list (pv 2) po_none (po_some (pv 4))) (pa_cons (pe_slice sl_list (pv 2) (po_some (pv 4)) po_none) pa_nil))))))))), ?_⟩
    have nd : d ≠ 0 := by omega
    obtain ⟨B1, B2⟩ := block_bd (t := t) b1 b2
    have epow := fun {s : List Int} {r : Int} (h : simI (blockOf b t) d 31 [] (1 % d) = (s, r)) => by
      rw [← pow_block t1 t2] at h
      have := pow_r b1 b2 t1 t2 d1 d2 h
      rw [pow_block t1 t2] at this
      exact this
    generalize blockOf b t = B at *
    have e1 : (1 : Int).fmod d = 1 % d := Int.fmod_eq_emod_of_nonneg _ (by omega)
    refine ⟨by show 0 ≤ sizeLine; decide, fun R hR => ?_⟩
    refine ⟨_, rfl, _, _, rfl, rfl, nd, ?_⟩
    refine while_by (fun σ H2 => ∃ (s : List Int) (rr : Int) (n : Nat), s.length + n = 31 ∧ simI B d 31 [] (1 % d) = simI B d n s rr ∧ 0 ≤ rr ∧ rr < d ∧ (∀ z ∈ s, 0 ≤ z ∧ z < d) ∧ H2 = upd H R (.lst (s.map V.int)) ∧ σ = [some (.int B), some (.int d), some (.ref R), some (.int rr), none])
      (fun _ H2 => match H2 R with | some (.lst xs) => 31 - xs.length | _ => 0) ⟨[], 1 % d, 31, rfl, rfl, Int.emod_nonneg 1 nd, Int.emod_lt_of_pos 1 (by omega), fun _ z => (nomatch z), rfl, by rw [← e1]; rfl⟩ ?_ ?_
    · rintro σ H2 ⟨s, rr, n, hn, hs, rr0, rr1, sb, rfl, rfl⟩
      have hS : upd H R (.lst (s.map V.int)) R = some (.lst (s.map V.int)) := upd_same
      refine ⟨_, rfl, _, rfl, R, _, rfl, .inl (SqL.of hS), rfl, flat_ints s, _, rfl, ?_⟩
      rw [inV_ints]
      refine ite2 (fun g1 => ?_) (fun g1 => ?_)
      · have g2 : s.elem rr = false := by simpa using g1
        obtain ⟨n', rfl⟩ : ∃ n', n = n' + 1 := by
          refine ⟨n - 1, ?_⟩
          rcases Nat.eq_zero_or_pos n with z | z
          · subst z
            have e3 := epow (hs.trans (sim_stop (.inr rfl)))
            rw [g2] at e3
            exact absurd e3.2 Bool.false_ne_true
          · omega
        rw [sim_go g2] at hs
        have e2 : (rr * B).fmod d = rr * B % d := Int.fmod_eq_emod_of_nonneg _ (by omega)
        refine ⟨_, rfl, .inl ⟨rfl, _, SqL.of hS⟩, _, rfl, R, _, _, rfl, rfl, hS, by rw [List.length_map]; exact small1000 (by omega), ?_⟩
        refine ⟨_, rfl, _, rfl, _, _, rfl, rfl, .inl ⟨by omega, by omega⟩, _, rfl, _, _, rfl, rfl, nd, ⟨s ++ [rr], rr * B % d, n', by simp; omega, hs, Int.emod_nonneg _ nd, Int.emod_lt_of_pos _ (by omega), fun z hz => ?_, by rw [upd_upd, List.map_append]; rfl, by rw [← e2]; rfl⟩, ?_⟩
        · rcases List.mem_append.mp hz with hz | hz
          · exact sb z hz
          · rw [List.mem_singleton.mp hz]
            exact ⟨rr0, rr1⟩
        · rw [upd_same, upd_same]
          simp
          omega
      · have g2 : s.elem rr = true := by simpa using g1
        obtain ⟨pr, _⟩ := epow (hs.trans (sim_stop (.inl g2)))
        obtain ⟨i1, i2⟩ := idxI_spec g2
        generalize ha : idxI rr s = a0 at *
        refine ⟨_, rfl, .inl ⟨rfl, _, SqL.of hS⟩, _, rfl, R, _, .int rr, a0, .int rr, rfl, rfl, SqL.of hS, rfl, flat_ints s, by rw [List.getElem?_map, i1]; rfl, by simp [eqV], fun m z' hm hz' => ?_, ?_⟩
        · rw [List.getElem?_map] at hz'
          obtain ⟨y, hy, rfl⟩ := Option.map_eq_some_iff.mp hz'
          have := i2 m (by omega) y hy
          simpa [eqV] using this
        · refine ⟨_, rfl, _, rfl, _, rfl, R, _, rfl, SqL.of hS, fun x hx => ?_⟩
          rw [cutV_take, ← List.map_take]
          have hS2 := same_upd (o := .lst ((s.take a0).map V.int)) hx _ _ hS
          refine ⟨_, rfl, _, rfl, _, rfl, R, _, rfl, SqL.of hS2, fun y hy => ?_⟩
          rw [cutV_drop, ← List.map_drop]
          refine ⟨by show 2 ≤ sizeLine; decide, fun q hq => ?_⟩
          exact k s a0 q x y _ pr sb (((same_upd hR).trans (same_upd hx)).trans ((same_upd hy).trans (same_upd hq))) upd_same (same_upd hq _ _ (same_upd hy _ _ upd_same)) (same_upd hq _ _ upd_same)
    · exact m_test (m_op m_rIn m_var m_var)
/-! ### so many places tell all -/
def spTurn (T : Tx P K mg) : Sp := fun vs H Q _ => ∃ (p : Addr) (b t : Int) (fs ls : List Int) (d : Int), vs = [.ref p, .int d] ∧ SumAt T H p b t fs ls ∧ 1 ≤ d ∧ d ≤ 30 ∧ ∀ (L : List Int) (a : Nat) (H' : Hp), PowR (blockOf b t) d L a → Same H H' → Q (.int (turnN fs ls L a : Int)) H'
theorem ok_turn (T : Tx P K mg) : FnOk P w K mg base CX0 lv_turn T.a_turn T.d_turn ["told", "d"] (spTurn T) := by
  refine T.F_turn.ok sc_turn (fun vs H Q E h => ?_) (fun cdv A outer s H vs Q E hr h => ?_)
  · obtain ⟨p, b, t, fs, ls, d, rfl, _⟩ := h
    rfl
  · obtain ⟨p, b, t, fs, ls, d, rfl, a, d1, d2, k⟩ := h
    obtain ⟨dx, f, l, e, hf, hl, b1, b2, t1, t2, w1, w2⟩ := id a
    refine ⟨_, (pss_cons (ps_asg (pe_call (ok_power_rests T) (hr.mono (by decide)) rfl T.g_power_rests T.F_power_rests.kp T.b_power_rests .nil pass0 (pa_cons (pe_call (ok_sum_block T) (hr.mono (by decide)) rfl T.g_sum_block T.F_sum_block.kp T.b_sum_block .nil pass0 (pa_cons (pv 0) pa_nil)) (pa_cons (pv 1) pa_nil))) (pg_tup rfl (pgs_cons (pg_name (i := 2) sc_turn.nd rfl (Or.inl rfl)) (pgs_cons (pg_name (i := 3) sc_turn.nd rfl (Or.inl rfl)) pgs_nil))))
      (pss_one (ps_ret (pe_op op_add (pe_callB (call_max2 rfl) (by rfl) T.n_max (by decide +kernel) (pa_cons (pe_callB call_len_seq (by rfl) T.n_len (by decide +kernel) (pa_cons (pe_prop (pv 0) T.cl_Sum T.p_Sum_first (ok_Sum_first T) (hr.mono (by decide)) T.b_Sum_first .nil pass0 rfl) pa_nil)) (pa_cons (pe_callB call_len_seq (by rfl) T.n_len (by decide +kernel) (pa_cons (pv 2) pa_nil)) pa_nil))) (pe_op op_mul (pe_callB call_len_seq (by rfl) T.n_len (by decide +kernel) (pa_cons (pe_prop (pv 0) T.cl_Sum T.p_Sum_loop (ok_Sum_loop T) (hr.mono (by decide)) T.b_Sum_loop .nil pass0 rfl) pa_nil)) (pe_callB call_len_seq (by rfl) T.n_len (by decide +kernel) (pa_cons (pv 3) pa_nil))))))), ?_⟩
    refine ⟨_, rfl, p, b, t, fs, ls, rfl, a, _, rfl, b, t, d, rfl, b1, b2, t1, t2, d1, d2, fun L a0 q x y H2 pr sb S hq hx hy => ?_⟩
    refine ⟨q, _, rfl, SqT.of hq, rfl, _, _, rfl, _, _, rfl, rfl, ?_⟩
    have e2 := S _ _ e
    have k2 := k L a0 H2 pr S
    have ev : (if (((L.take a0).map V.int).length : Int) > ((fs.map V.int).length : Int) then (((L.take a0).map V.int).length : Int) else ((fs.map V.int).length : Int)) + ((ls.map V.int).length : Int) * (((L.drop a0).map V.int).length : Int) = (turnN fs ls L a0 : Int) := by
      have hlt := pr.lt
      rw [List.length_map, List.length_map, List.length_map, List.length_map, List.length_take, List.length_drop, Nat.min_eq_left (by omega)]
      unfold turnN
      rw [Int.natCast_add, Int.natCast_mul]
      congr 1
      split <;> omega
    rw [← ev] at k2
    exact ⟨_, rfl, p, dx, _, rfl, e2, p, dx, _, _, _, _, rfl, e2, f, _, rfl, .inr (SqT.of (S _ _ hf)), _, rfl, x, _, rfl, .inl (SqL.of hx), _, _, rfl, _, rfl, p, dx, _, rfl, e2, p, dx, _, _, _, _, rfl, e2, l, _, rfl, .inr (SqT.of (S _ _ hl)), _, rfl, y, _, rfl, .inl (SqL.of hy), _, _, rfl, rfl,
      .inl (show -(2 ^ 64) < ((ls.map V.int).length : Int) ∧ ((ls.map V.int).length : Int) < 2 ^ 64 from by rw [List.length_map]; have := w2.2.1; omega), _, _, rfl, rfl, k2⟩

/-! ### the sum of all blocks -/
def tot (B : Nat) (u : Nat → Int) (k n : Nat) : Int := if h : n = 0 ∨ B < 2 then 0 else ((n % B : Nat) : Int) * u k + tot B u (k + 1) (n / B)
termination_by n
decreasing_by exact Nat.div_lt_self (Nat.pos_of_ne_zero fun z => h (.inl z)) (by omega)
theorem tot_zero (B : Nat) (u : Nat → Int) (k : Nat) : tot B u k 0 = 0 := by
  unfold tot
  simp
theorem tot_step {B : Nat} (u : Nat → Int) (k : Nat) {n : Nat} (hB : 2 ≤ B) (hn : n ≠ 0) : tot B u k n = ((n % B : Nat) : Int) * u k + tot B u (k + 1) (n / B) := by
  rw [tot, dif_neg (by omega)]
theorem fm_nat {n B : Nat} (h : 2 ≤ B) : (n : Int).fmod (B : Int) = ((n % B : Nat) : Int) := by
  rw [Int.fmod_eq_emod_of_nonneg _ (by omega)]
  rfl

/-! ### the least number for which it fails -/
/-- None, or the number -/
def optV : Option Nat → V
  | none => .non
  | some n => .int (n : Int)
theorem find_at {f : Nat → Bool} {i k : Nat} (h : ∀ j, j < i → f j = false) (hf : f i = true) (hk : i < k) : (List.range k).find? f = some i := by
  rw [List.find?_range_eq_some]
  exact ⟨hf, List.mem_range.mpr hk, fun j hj => by rw [h j hj]; rfl⟩
theorem find_none {f : Nat → Bool} {k : Nat} (h : ∀ j, j < k → f j = false) : (List.range k).find? f = none := by
  rw [List.find?_eq_none]
  exact fun j hj => by rw [h j (List.mem_range.mp hj)]; exact Bool.false_ne_true
theorem find_succ (f : Nat → Bool) (i : Nat) : (List.range (i + 1)).find? f = ((List.range i).find? f).or (if f i = true then some i else none) := by
  rw [List.range_succ, List.find?_append]
  congr 1
  by_cases h : f i = true
  · rw [if_pos h]; simp [h]
  · rw [if_neg h]; simp [h]
theorem opt_non (o : Option Nat) : decide (optV o = .non) = o.isNone := by
  cases o <;> simp [optV]
theorem scal_opt (o u : Option Nat) : scal (optV o) (optV u) = true := by
  cases o <;> cases u <;> rfl

/-! ### numbers whose rests come for the first time -/
theorem tot_add {B : Nat} (u : Nat → Int) (hB : 2 ≤ B) : ∀ (k j c x : Nat), c < B → x < B ^ k → tot B u j (c * B ^ k + x) = tot B u j x + (c : Int) * u (j + k)
  | 0, j, c, x, hc, hx => by
    have x0 : x = 0 := by simpa using hx
    subst x0
    rw [Nat.pow_zero, Nat.mul_one, Nat.add_zero, tot_zero, Int.zero_add, Nat.add_zero]
    rcases Nat.eq_zero_or_pos c with z | z
    · subst z
      rw [tot_zero]
      simp
    · rw [tot_step u j hB (by omega), Nat.mod_eq_of_lt hc, Nat.div_eq_of_lt hc, tot_zero, Int.add_zero]
  | k + 1, j, c, x, hc, hx => by
    have e1 : (c * B ^ (k + 1) + x) % B = x % B := by
      rw [Nat.pow_succ, ← Nat.mul_assoc, Nat.add_comm, Nat.add_mul_mod_self_right]
    have e2 : (c * B ^ (k + 1) + x) / B = c * B ^ k + x / B := by
      rw [Nat.pow_succ, ← Nat.mul_assoc, Nat.add_comm, Nat.add_mul_div_right _ _ (by omega), Nat.add_comm]
    have hx2 : x / B < B ^ k := by
      rw [Nat.div_lt_iff_lt_mul (by omega)]
      rwa [Nat.pow_succ] at hx
    have ih := tot_add u hB k (j + 1) c (x / B) hc hx2
    have ex : tot B u j x = ((x % B : Nat) : Int) * u j + tot B u (j + 1) (x / B) := by
      rcases Nat.eq_zero_or_pos x with z | z
      · subst z
        rw [Nat.zero_mod, Nat.zero_div, tot_zero, tot_zero]
        simp
      · exact tot_step u j hB (by omega)
    have en : tot B u j (c * B ^ (k + 1) + x) = (((c * B ^ (k + 1) + x) % B : Nat) : Int) * u j + tot B u (j + 1) ((c * B ^ (k + 1) + x) / B) := by
      rcases Nat.eq_zero_or_pos (c * B ^ (k + 1) + x) with z | z
      · rw [z, Nat.zero_mod, Nat.zero_div, tot_zero, tot_zero]
        simp
      · exact tot_step u j hB (by omega)
    rw [en, e1, e2, ih, ex, show j + 1 + k = j + (k + 1) by omega, Int.add_assoc]
/-- the rests of a number and of its sum -/
def rp (B : Nat) (u : Nat → Int) (d : Int) (n : Nat) : Int × Int := ((n : Int) % d, tot B u 0 n % d)
/-- what so many further of a block do to them -/
def shp (pw wt d : Int) (c : Int) (g : Int × Int) : Int × Int := ((g.1 + c * (pw % d)) % d, (g.2 + c * wt) % d)
theorem rp_shp {B : Nat} {u : Nat → Int} {d : Int} (hB : 2 ≤ B) {k c x : Nat} (hc : c < B) (hx : x < B ^ k) : rp B u d (c * B ^ k + x) = shp ((B : Int) ^ k) (u k) d c (rp B u d x) := by
  unfold rp shp
  rw [tot_add u hB k 0 c x hc hx, Nat.zero_add]
  refine Prod.ext ?_ ?_
  · show (((c * B ^ k + x : Nat) : Int)) % d = ((x : Int) % d + (c : Int) * ((B : Int) ^ k % d)) % d
    rw [Int.natCast_add, Int.natCast_mul, Int.natCast_pow, Int.emod_add_emod, Int.add_emod, Int.mul_emod, Int.add_comm]
    rw [Int.add_emod (x : Int), Int.mul_emod (c : Int) ((B : Int) ^ k % d), Int.emod_emod]
  · show (tot B u 0 x + (c : Int) * u k) % d = (tot B u 0 x % d + (c : Int) * u k) % d
    rw [Int.emod_add_emod]
theorem shp_shp {pw wt d : Int} (a b : Int) (g : Int × Int) : shp pw wt d a (shp pw wt d b g) = shp pw wt d (a + b) g := by
  unfold shp
  refine Prod.ext ?_ ?_
  · show ((g.1 + b * (pw % d)) % d + a * (pw % d)) % d = (g.1 + (a + b) * (pw % d)) % d
    rw [Int.emod_add_emod, Int.add_mul]
    congr 1
    omega
  · show ((g.2 + b * wt) % d + a * wt) % d = (g.2 + (a + b) * wt) % d
    rw [Int.emod_add_emod, Int.add_mul]
    congr 1
    omega
section
variable {α : Type} [DecidableEq α] (f : Nat → α)
def fo (n : Nat) : Bool := (List.range n).all fun j => decide (f j ≠ f n)
theorem fo_iff {n : Nat} : fo f n = true ↔ ∀ j, j < n → f j ≠ f n := by
  unfold fo
  rw [List.all_eq_true]
  exact ⟨fun h j hj => of_decide_eq_true (h j (List.mem_range.mpr hj)), fun h j hj => decide_eq_true (h j (List.mem_range.mp hj))⟩
theorem fo_not {n : Nat} (h : fo f n = false) : ∃ j, j < n ∧ f j = f n := by
  rcases Classical.em (∃ j, j < n ∧ f j = f n) with c | c
  · exact c
  · have : fo f n = true := (fo_iff f).mpr fun j hj e => c ⟨j, hj, e⟩
    rw [h] at this
    cases this
/-- each comes for the first time somewhere -/
theorem fo_rep : ∀ n : Nat, ∃ m, m ≤ n ∧ fo f m = true ∧ f m = f n := by
  intro n
  induction n using Nat.strongRecOn with
  | ind n ih =>
    cases e : fo f n with
    | true => exact ⟨n, Nat.le_refl _, e, rfl⟩
    | false =>
      obtain ⟨j, hj, ej⟩ := fo_not f e
      obtain ⟨m, h1, h2, h3⟩ := ih j hj
      exact ⟨m, by omega, h2, h3.trans ej⟩
def fl (a b : Nat) : List Nat := (List.range' a (b - a)).filter (fo f)
theorem fl_mem {a b n : Nat} : n ∈ fl f a b ↔ a ≤ n ∧ n < b ∧ fo f n = true := by
  unfold fl
  rw [List.mem_filter, List.mem_range'_1]
  constructor
  · rintro ⟨⟨h1, h2⟩, h3⟩
    exact ⟨h1, by omega, h3⟩
  · rintro ⟨h1, h2, h3⟩
    exact ⟨⟨h1, by omega⟩, h3⟩
theorem fl_nil {a b : Nat} (h : b ≤ a) : fl f a b = [] := by
  unfold fl
  rw [show b - a = 0 by omega]
  rfl
theorem fl_app {a b c : Nat} (h1 : a ≤ b) (h2 : b ≤ c) : fl f a c = fl f a b ++ fl f b c := by
  unfold fl
  have e : List.range' a (c - a) = List.range' a (b - a) ++ List.range' b (c - b) := by
    have := List.range'_append (s := a) (m := b - a) (n := c - b) (step := 1)
    rw [Nat.one_mul, show a + (b - a) = b by omega, show b - a + (c - b) = c - a by omega] at this
    exact this.symm
  rw [e, List.filter_append]
theorem fl_one {a : Nat} : fl f a (a + 1) = if fo f a = true then [a] else [] := by
  unfold fl
  rw [show a + 1 - a = 1 by omega]
  show (List.range' a 1).filter (fo f) = _
  rw [show List.range' a 1 = [a] from rfl, List.filter_cons, List.filter_nil]
theorem fl_skip {a b c : Nat} (h1 : a ≤ b) (h2 : b ≤ c) (h : ∀ n, b ≤ n → n < c → fo f n = false) : fl f a c = fl f a b := by
  rw [fl_app f h1 h2]
  have : fl f b c = [] := by
    rw [List.eq_nil_iff_forall_not_mem]
    intro n hn
    obtain ⟨q1, q2, q3⟩ := (fl_mem f).mp hn
    rw [h n q1 q2] at q3
    cases q3
  rw [this, List.append_nil]
theorem fl_empty {a b : Nat} (h : (fl f a b).length = 0) {n : Nat} (h1 : a ≤ n) (h2 : n < b) : fo f n = false := by
  cases e : fo f n with
  | false => rfl
  | true =>
    have := (fl_mem f).mpr ⟨h1, h2, e⟩
    rw [List.length_eq_zero_iff.mp h] at this
    cases this
theorem fl_sorted (a b : Nat) : (fl f a b).Pairwise (· < ·) := by
  unfold fl
  exact List.Pairwise.filter _ List.pairwise_lt_range'
theorem fl_nodup (a b : Nat) : ((fl f a b).map f).Nodup := by
  show List.Pairwise (· ≠ ·) _
  rw [List.pairwise_map]
  refine List.Pairwise.imp_of_mem (fun {x y} hx hy h => ?_) (fl_sorted f a b)
  exact (fo_iff f).mp ((fl_mem f).mp hy).2.2 x h
/-- it is new just if it is not among the earlier ones, each told by its first place -/
theorem fo_by {n a : Nat} (h : a ≤ n) : fo f n = true ↔ (∀ j ∈ fl f 0 a, f j ≠ f n) ∧ ∀ j ∈ fl f a n, f j ≠ f n := by
  rw [fo_iff]
  constructor
  · intro q
    exact ⟨fun j hj => q j (by have := (fl_mem f).mp hj; omega), fun j hj => q j (by have := (fl_mem f).mp hj; omega)⟩
  · rintro ⟨q1, q2⟩ j hj e
    obtain ⟨m, h1, h2, h3⟩ := fo_rep f j
    rcases Nat.lt_or_ge m a with z | z
    · exact q1 m ((fl_mem f).mpr ⟨Nat.zero_le _, z, h2⟩) (h3.trans e)
    · exact q2 m ((fl_mem f).mpr ⟨z, by omega, h2⟩) (h3.trans e)
end
section
variable {B : Nat} {u : Nat → Int} {d : Int}
/-- within a block, only first ones begin first ones -/
theorem fo_low (hB : 2 ≤ B) {k c x : Nat} (hc : c < B) (hx : x < B ^ k) (h : fo (rp B u d) x = false) : fo (rp B u d) (c * B ^ k + x) = false := by
  obtain ⟨j, hj, e⟩ := fo_not _ h
  cases q : fo (rp B u d) (c * B ^ k + x) with
  | false => rfl
  | true =>
    refine absurd ?_ ((fo_iff _).mp q (c * B ^ k + j) (by omega))
    rw [rp_shp hB hc (by omega), rp_shp hB hc hx, e]
/-- a block that brings nothing new: no further one does -/
theorem fo_high (hB : 2 ≤ B) {k c : Nat} (hc : c + 1 < B) (c0 : 1 ≤ c) (h : ∀ n, c * B ^ k ≤ n → n < (c + 1) * B ^ k → fo (rp B u d) n = false) {n : Nat} (h1 : (c + 1) * B ^ k ≤ n) (h2 : n < (c + 2) * B ^ k) : fo (rp B u d) n = false := by
  have pk : 0 < B ^ k := Nat.pow_pos (by omega)
  obtain ⟨x, hx, rfl⟩ : ∃ x, x < B ^ k ∧ n = (c + 1) * B ^ k + x := ⟨n - (c + 1) * B ^ k, by rw [show c + 2 = (c + 1) + 1 by omega, Nat.succ_mul] at h2; omega, by omega⟩
  have m := h (c * B ^ k + x) (by omega) (by rw [Nat.succ_mul]; omega)
  obtain ⟨y, hy, fy, ey⟩ := fo_rep (rp B u d) (c * B ^ k + x)
  have yl : y < c * B ^ k := by
    rcases Nat.lt_or_ge y (c * B ^ k) with z | z
    · exact z
    · rw [h y z (by rw [Nat.succ_mul]; omega)] at fy
      cases fy
  have yd := Nat.div_add_mod y (B ^ k)
  have ym := Nat.mod_lt y pk
  have yc : y / B ^ k < c := (Nat.div_lt_iff_lt_mul pk).mpr yl
  have e1 : rp B u d ((c + 1) * B ^ k + x) = rp B u d ((y / B ^ k + 1) * B ^ k + y % B ^ k) := by
    rw [rp_shp hB hc hx, rp_shp hB (by omega) ym]
    have e2 : rp B u d y = shp ((B : Int) ^ k) (u k) d ((y / B ^ k : Nat) : Int) (rp B u d (y % B ^ k)) := by
      rw [← rp_shp hB (by omega) ym, Nat.mul_comm, yd]
    rw [rp_shp hB (by omega) hx] at ey
    rw [show (((c + 1 : Nat) : Int)) = 1 + (c : Int) by omega, ← shp_shp, ← ey, e2, shp_shp, show (((y / B ^ k + 1 : Nat) : Int)) = 1 + ((y / B ^ k : Nat) : Int) by omega]
  cases q : fo (rp B u d) ((c + 1) * B ^ k + x) with
  | false => rfl
  | true =>
    refine absurd e1.symm ((fo_iff _).mp q _ ?_)
    have l1 : (y / B ^ k + 1) * B ^ k ≤ c * B ^ k := Nat.mul_le_mul_right _ yc
    have e3 : (c + 1) * B ^ k = c * B ^ k + B ^ k := Nat.succ_mul _ _
    omega
theorem fo_rest (hB : 2 ≤ B) {k c : Nat} (c0 : 1 ≤ c) (hc : c < B) (h : ∀ n, c * B ^ k ≤ n → n < (c + 1) * B ^ k → fo (rp B u d) n = false) : ∀ n, c * B ^ k ≤ n → n < B ^ (k + 1) → fo (rp B u d) n = false := by
  have pk : 0 < B ^ k := Nat.pow_pos (by omega)
  have step : ∀ e, c + e < B → ∀ n, (c + e) * B ^ k ≤ n → n < (c + e + 1) * B ^ k → fo (rp B u d) n = false := by
    intro e
    induction e with
    | zero => intro _; exact h
    | succ e ih =>
      intro he n h1 h2
      exact fo_high hB (c := c + e) (by omega) (by omega) (ih (by omega)) h1 h2
  intro n h1 h2
  have q1 : c ≤ n / B ^ k := (Nat.le_div_iff_mul_le pk).mpr h1
  have q2 : n / B ^ k < B := (Nat.div_lt_iff_lt_mul pk).mpr (by rw [Nat.mul_comm, ← Nat.pow_succ]; exact h2)
  have yd := Nat.div_add_mod n (B ^ k)
  have ym := Nat.mod_lt n pk
  have ce := Nat.mul_comm (B ^ k) (n / B ^ k)
  obtain ⟨e, he⟩ : ∃ e, n / B ^ k = c + e := ⟨n / B ^ k - c, by omega⟩
  rw [he] at yd ce q2
  rw [Nat.mul_comm] at yd
  have e3 : (c + e + 1) * B ^ k = (c + e) * B ^ k + B ^ k := Nat.succ_mul _ _
  generalize n % B ^ k = r at yd ym
  generalize ew : (c + e) * B ^ k = w at *
  refine step e q2 n (by rw [ew]; omega) ?_
  rw [e3]
  omega
end

/-! ### when no further rests come -/
section
variable {B : Nat} {u : Nat → Int} {d : Int}
def InR (B : Nat) (u : Nat → Int) (d : Int) (j : Nat) (g : Int × Int) : Prop := ∃ y, y < B ^ j ∧ rp B u d y = g
def Idle (B : Nat) (u : Nat → Int) (d : Int) (j : Nat) : Prop := ∀ n, B ^ j ≤ n → n < B ^ (j + 1) → fo (rp B u d) n = false
abbrev shk (B : Nat) (u : Nat → Int) (d : Int) (k : Nat) (c : Int) (g : Int × Int) : Int × Int := shp ((B : Int) ^ k) (u k) d c g
theorem split_at (hB : 2 ≤ B) {k n : Nat} (h : n < B ^ (k + 1)) : ∃ c x, c < B ∧ x < B ^ k ∧ n = c * B ^ k + x := by
  have pk : 0 < B ^ k := Nat.pow_pos (by omega)
  refine ⟨n / B ^ k, n % B ^ k, (Nat.div_lt_iff_lt_mul pk).mpr (by rw [Nat.mul_comm, ← Nat.pow_succ]; exact h), Nat.mod_lt _ pk, ?_⟩
  rw [Nat.mul_comm, Nat.div_add_mod]
theorem join_lt {k c x : Nat} (hc : c < B) (hx : x < B ^ k) : c * B ^ k + x < B ^ (k + 1) := by
  have h : (c + 1) * B ^ k ≤ B * B ^ k := Nat.mul_le_mul_right _ hc
  rw [Nat.succ_mul] at h
  rw [Nat.pow_succ, Nat.mul_comm (B ^ k) B]
  omega
theorem inR_succ (hB : 2 ≤ B) {k : Nat} {g : Int × Int} : InR B u d (k + 1) g ↔ ∃ (c : Nat) (h : Int × Int), c < B ∧ InR B u d k h ∧ shk B u d k c h = g := by
  constructor
  · rintro ⟨y, hy, rfl⟩
    obtain ⟨c, x, hc, hx, rfl⟩ := split_at hB hy
    exact ⟨c, _, hc, ⟨x, hx, rfl⟩, (rp_shp hB hc hx).symm⟩
  · rintro ⟨c, h, hc, ⟨x, hx, rfl⟩, rfl⟩
    exact ⟨c * B ^ k + x, join_lt hc hx, rp_shp hB hc hx⟩
theorem inR_le (hB : 2 ≤ B) {j k : Nat} {g : Int × Int} (h : j ≤ k) : InR B u d j g → InR B u d k g :=
  fun ⟨y, hy, e⟩ => ⟨y, Nat.lt_of_lt_of_le hy (Nat.pow_le_pow_right (by omega) h), e⟩
theorem inR_red {j : Nat} {g : Int × Int} (h : InR B u d j g) : shp a b d 0 g = g := by
  obtain ⟨y, _, rfl⟩ := h
  unfold shp rp
  simp
theorem idle_closed (hB : 2 ≤ B) {j c : Nat} (h : Idle B u d j) (hc : c < B) {g : Int × Int} (hg : InR B u d j g) : InR B u d j (shk B u d j c g) := by
  obtain ⟨x, hx, rfl⟩ := hg
  obtain ⟨m, h1, h2, h3⟩ := fo_rep (rp B u d) (c * B ^ j + x)
  refine ⟨m, ?_, h3.trans (rp_shp hB hc hx)⟩
  rcases Nat.lt_or_ge m (B ^ j) with z | z
  · exact z
  · have := join_lt hc hx
    rw [h m z (by omega)] at h2
    cases h2
theorem idle_back (hB : 2 ≤ B) {g : Int × Int} : ∀ (e : Nat) {j : Nat}, (∀ i, j ≤ i → i < j + e → Idle B u d i) → InR B u d (j + e) g → InR B u d j g
  | 0, j, _, h => h
  | e + 1, j, hi, h => by
    obtain ⟨c, x, hc, hx, rfl⟩ := (inR_succ hB).mp h
    exact idle_back hB e (fun i a b => hi i a (by omega)) (idle_closed hB (hi (j + e) (by omega) (by omega)) hc hx)
theorem closed_idle (hB : 2 ≤ B) {j : Nat} (h : ∀ g, InR B u d j g → InR B u d j (shk B u d j 1 g)) : Idle B u d j := by
  have hc : ∀ (c : Nat) g, InR B u d j g → InR B u d j (shk B u d j c g) := by
    intro c
    induction c with
    | zero => exact fun g hg => by rw [show shk B u d j ((0 : Nat) : Int) g = g from inR_red hg]; exact hg
    | succ c ih =>
      intro g hg
      have := h _ (ih g hg)
      rw [show shk B u d j (1 : Int) (shk B u d j (c : Int) g) = shk B u d j (((c + 1 : Nat) : Int)) g from by
        unfold shk
        rw [shp_shp, show (1 : Int) + (c : Int) = (((c + 1 : Nat) : Int)) by omega]] at this
      exact this
  intro n h1 h2
  obtain ⟨c, x, hcb, hx, rfl⟩ := split_at hB h2
  cases q : fo (rp B u d) (c * B ^ j + x) with
  | false => rfl
  | true =>
    obtain ⟨y, hy, e⟩ := hc c _ ⟨x, hx, rfl⟩
    exact absurd (e.trans (rp_shp hB hcb hx).symm) ((fo_iff _).mp q y (by omega))
theorem shp_com {p q r s d : Int} (a b : Int) (g : Int × Int) : shp p q d a (shp r s d b g) = shp r s d b (shp p q d a g) := by
  unfold shp
  refine Prod.ext ?_ ?_
  · show ((g.1 + b * (r % d)) % d + a * (p % d)) % d = ((g.1 + a * (p % d)) % d + b * (r % d)) % d
    rw [Int.emod_add_emod, Int.emod_add_emod]
    congr 1
    omega
  · show ((g.2 + b * s) % d + a * q) % d = ((g.2 + a * q) % d + b * s) % d
    rw [Int.emod_add_emod, Int.emod_add_emod]
    congr 1
    omega
/-- a whole divisor more of the same does nothing -/
theorem shp_wrap {p q d : Int} (a : Int) (g : Int × Int) : shp p q d (a + d) g = shp p q d a g := by
  unfold shp
  refine Prod.ext ?_ ?_
  · show (g.1 + (a + d) * (p % d)) % d = (g.1 + a * (p % d)) % d
    rw [Int.add_mul, ← Int.add_assoc, Int.add_mul_emod_self_left]
  · show (g.2 + (a + d) * q) % d = (g.2 + a * q) % d
    rw [Int.add_mul, ← Int.add_assoc, Int.add_mul_emod_self_left]
/-- so many times v can be laid aside -/
def Rep (B : Nat) (u : Nat → Int) (d : Int) (j t : Nat) (v : Int → Int × Int → Int × Int) : Prop := ∃ A : Int × Int → Prop, ∀ g, InR B u d j g ↔ ∃ (a : Int × Int) (e : Nat), A a ∧ e ≤ t ∧ v e a = g
theorem rep_zero {j : Nat} {p q : Int} : Rep B u d j 0 (shp p q d) := by
  refine ⟨InR B u d j, fun g => ⟨fun h => ⟨g, 0, h, Nat.le_refl _, inR_red h⟩, ?_⟩⟩
  rintro ⟨a, e, h, he, rfl⟩
  obtain rfl : e = 0 := by omega
  rw [show shp p q d ((0 : Nat) : Int) a = a from inR_red h]
  exact h
theorem rep_step (hB : 2 ≤ B) {j t : Nat} {p q : Int} (h : Rep B u d j t (shp p q d)) : Rep B u d (j + 1) t (shp p q d) := by
  obtain ⟨A, hA⟩ := h
  refine ⟨fun g => ∃ (c : Nat) (a : Int × Int), c < B ∧ A a ∧ shk B u d j c a = g, fun g => ?_⟩
  rw [inR_succ hB]
  constructor
  · rintro ⟨c, h, hc, hh, rfl⟩
    obtain ⟨a, e, ha, he, rfl⟩ := (hA h).mp hh
    exact ⟨_, e, ⟨c, a, hc, ha, rfl⟩, he, shp_com _ _ _⟩
  · rintro ⟨_, e, ⟨c, a, hc, ha, rfl⟩, he, rfl⟩
    exact ⟨c, _, hc, (hA _).mpr ⟨a, e, ha, he, rfl⟩, shp_com _ _ _⟩
theorem rep_more (hB : 2 ≤ B) {j t : Nat} (h : Rep B u d j t (shk B u d j)) : Rep B u d (j + 1) (t + 1) (shk B u d j) := by
  obtain ⟨A, hA⟩ := h
  refine ⟨fun g => ∃ (c : Nat) (a : Int × Int), c + 1 < B ∧ A a ∧ shk B u d j c a = g, fun g => ?_⟩
  rw [inR_succ hB]
  constructor
  · rintro ⟨c, h, hc, hh, rfl⟩
    obtain ⟨a, e, ha, he, rfl⟩ := (hA h).mp hh
    rcases Nat.lt_or_ge (c + 1) B with z | z
    · exact ⟨_, e, ⟨c, a, z, ha, rfl⟩, by omega, shp_com _ _ _⟩
    · refine ⟨_, e + 1, ⟨c - 1, a, by omega, ha, rfl⟩, by omega, ?_⟩
      unfold shk
      rw [shp_shp, shp_shp]
      congr 1
      omega
  · rintro ⟨_, e, ⟨c, a, hc, ha, rfl⟩, he, rfl⟩
    rcases Nat.lt_or_ge t e with z | z
    · refine ⟨c + 1, _, hc, (hA _).mpr ⟨a, t, ha, Nat.le_refl _, rfl⟩, ?_⟩
      unfold shk
      rw [shp_shp, shp_shp]
      congr 1
      omega
    · exact ⟨c, _, by omega, (hA _).mpr ⟨a, e, ha, z, rfl⟩, shp_com _ _ _⟩
theorem rep_closed {j t : Nat} {p q : Int} (h : Rep B u d j t (shp p q d)) (hd : 1 ≤ d) (ht : d ≤ t + 1) {g : Int × Int} (hg : InR B u d j g) : InR B u d j (shp p q d 1 g) := by
  obtain ⟨A, hA⟩ := h
  obtain ⟨a, e, ha, he, rfl⟩ := (hA g).mp hg
  rcases Nat.lt_or_ge e t with z | z
  · refine (hA _).mpr ⟨a, e + 1, ha, z, ?_⟩
    rw [shp_shp]
    congr 1
    omega
  · refine (hA _).mpr ⟨a, (e + 1 - d.toNat), ha, by omega, ?_⟩
    rw [shp_shp, show (1 : Int) + (e : Int) = ((e + 1 - d.toNat : Nat) : Int) + d by omega, shp_wrap]
variable {M L : Nat}
/-- from M on, all comes again after L places -/
def Per (B : Nat) (u : Nat → Int) (d : Int) (M L : Nat) : Prop := ∀ j, M ≤ j → shk B u d (j + L) = shk B u d j
theorem per_of (h1 : ∀ j, M ≤ j → (B : Int) ^ (j + L) % d = (B : Int) ^ j % d) (h2 : ∀ j, M ≤ j → u (j + L) = u j) : Per B u d M L := by
  intro j hj
  funext c g
  unfold shk shp
  rw [h1 j hj, h2 j hj]
theorem per_mul (h : Per B u d M L) {j : Nat} (hj : M ≤ j) : ∀ t : Nat, shk B u d (j + t * L) = shk B u d j
  | 0 => by rw [Nat.zero_mul, Nat.add_zero]
  | t + 1 => by rw [Nat.succ_mul, ← Nat.add_assoc, h (j + t * L) (by omega), per_mul h hj t]
theorem rep_many (hB : 2 ≤ B) {j t : Nat} {p q : Int} (h : Rep B u d j t (shp p q d)) : ∀ e, Rep B u d (j + e) t (shp p q d)
  | 0 => h
  | e + 1 => rep_step hB (rep_many hB h e)
theorem rep_per (hB : 2 ≤ B) (h : Per B u d M L) (hL : 1 ≤ L) {j : Nat} (hj : M ≤ j) : ∀ t : Nat, Rep B u d (j + t * L) t (shk B u d j)
  | 0 => by rw [Nat.zero_mul, Nat.add_zero]; exact rep_zero
  | t + 1 => by
    have r := rep_per hB h hL hj t
    rw [← per_mul h hj t] at r ⊢
    have r2 := rep_many hB (rep_more hB r) (L - 1)
    rw [show j + t * L + 1 + (L - 1) = j + (t + 1) * L by rw [Nat.succ_mul]; omega] at r2
    exact r2
/-- far enough, no place brings anything new -/
theorem idle_far (hB : 2 ≤ B) (h : Per B u d M L) (hL : 1 ≤ L) (hd : 1 ≤ d) {j : Nat} (hj : M + d.toNat * L ≤ j) : Idle B u d j := by
  obtain ⟨i, rfl⟩ : ∃ i, j = i + d.toNat * L := ⟨j - d.toNat * L, by omega⟩
  have r := rep_per hB h hL (j := i) (by omega) d.toNat
  refine closed_idle hB fun g hg => ?_
  rw [per_mul h (by omega)]
  exact rep_closed r hd (by omega) hg
/-- behind a whole turn without anything new, nothing new comes -/
theorem idle_all (hB : 2 ≤ B) (h : Per B u d M L) (hL : 1 ≤ L) {k : Nat} (hk : M + L ≤ k) (hi : ∀ j, j < k → k ≤ j + (M + L) → Idle B u d j) : ∀ n, ∃ y, y < B ^ k ∧ rp B u d y = rp B u d n := by
  have cl : ∀ i, k ≤ i → ∀ (c : Nat) g, c < B → InR B u d k g → InR B u d k (shk B u d i c g) := by
    intro i hik c g hc hg
    obtain ⟨j, t, hj1, hj2, rfl⟩ : ∃ j t, k ≤ j + L ∧ j < k ∧ i = j + t * L := by
      have dm := Nat.div_add_mod (i - (k - L)) L
      have ml := Nat.mod_lt (i - (k - L)) (show 0 < L by omega)
      rw [Nat.mul_comm] at dm
      generalize (i - (k - L)) % L = rr at *
      generalize (i - (k - L)) / L = tt at *
      exact ⟨k - L + rr, tt, by omega, by omega, by omega⟩
    rw [per_mul h (by omega)]
    have ek : j + (k - j) = k := by omega
    have hb : InR B u d j g := idle_back hB (k - j) (fun i a b => hi i (by omega) (by omega)) (by rw [ek]; exact hg)
    exact inR_le hB (by omega) (idle_closed hB (hi j hj2 (by omega)) hc hb)
  have all : ∀ e n, n < B ^ (k + e) → InR B u d k (rp B u d n) := by
    intro e
    induction e with
    | zero => exact fun n hn => ⟨n, hn, rfl⟩
    | succ e ih =>
      intro n hn
      obtain ⟨c, x, hc, hx, rfl⟩ := split_at hB (k := k + e) hn
      rw [rp_shp hB hc hx]
      exact cl (k + e) (by omega) c _ hc (ih x hx)
  intro n
  refine all n n (Nat.lt_of_lt_of_le (Nat.lt_pow_self (by omega) : n < B ^ n) (Nat.pow_le_pow_right (by omega) (by omega)))
/-- just one of both is a multiple -/
def mism (g : Int × Int) : Bool := !decide (decide (g.1 = 0) = decide (g.2 = 0))
/-- the least that fails -/
def LeastF (B : Nat) (u : Nat → Int) (d : Int) : Option Nat → Prop
  | some n => mism (rp B u d n) = true ∧ ∀ j, j < n → mism (rp B u d j) = false
  | none => ∀ n, mism (rp B u d n) = false
theorem leastF_none (hB : 2 ≤ B) (h : Per B u d M L) (hL : 1 ≤ L) {k : Nat} (hk : M + L ≤ k) (hi : ∀ j, j < k → k ≤ j + (M + L) → Idle B u d j) (hm : ∀ n, n < B ^ k → mism (rp B u d n) = false) : LeastF B u d none := by
  intro n
  obtain ⟨y, hy, e⟩ := idle_all hB h hL hk hi n
  rw [← e]
  exact hm y hy
end

/-! ### the pairs of rests that a place brings -/
/-- the entry of a number that comes first -/
def entF (B : Nat) (u : Nat → Int) (d : Int) (n : Nat) : List Key × V := (kp (rp B u d n), .int (n : Int))
theorem valV_app {κ : Type} [DecidableEq κ] (k : κ) (a b : List (κ × V)) : valV (a ++ b) k = (valV a k).or (valV b k) := by
  unfold valV
  rw [List.find?_append]
  cases a.find? _ <;> rfl
theorem valV_mem {B : Nat} {u : Nat → Int} {d : Int} (g : Int × Int) : ∀ L : List Nat, (valV (L.map (entF B u d)) (kp g)).isSome = L.any fun n => decide (rp B u d n = g)
  | [] => rfl
  | n :: L => by
    have ih := valV_mem (B := B) (u := u) (d := d) g L
    unfold valV at ih ⊢
    rw [List.map_cons, List.any_cons, List.find?_cons]
    by_cases e : rp B u d n = g
    · rw [show decide ((entF B u d n).1 = kp g) = true from decide_eq_true (by unfold entF; rw [e]), decide_eq_true e]
      rfl
    · rw [show decide ((entF B u d n).1 = kp g) = false from decide_eq_false fun z => e (kp_inj z), decide_eq_false e, Bool.false_or]
      exact ih
theorem valV_none {B : Nat} {u : Nat → Int} {d : Int} {g : Int × Int} {L : List Nat} (h : ∀ n ∈ L, rp B u d n ≠ g) : valV (L.map (entF B u d)) (kp g) = none := by
  have e := valV_mem (B := B) (u := u) (d := d) g L
  have a : (L.any fun n => decide (rp B u d n = g)) = false := by
    rw [List.any_eq_false]
    exact fun n hn => by simpa using h n hn
  rw [a] at e
  exact Option.not_isSome_iff_eq_none.mp (by rw [e]; exact Bool.false_ne_true)
theorem rp_bd {B : Nat} {u : Nat → Int} {d : Int} (hd : 1 ≤ d) (n : Nat) : 0 ≤ (rp B u d n).1 ∧ (rp B u d n).1 < d ∧ 0 ≤ (rp B u d n).2 ∧ (rp B u d n).2 < d :=
  ⟨Int.emod_nonneg _ (by omega), Int.emod_lt_of_pos _ (by omega), Int.emod_nonneg _ (by omega), Int.emod_lt_of_pos _ (by omega)⟩
def boxI (d : Int) : List Pr := (List.range (d.toNat * d.toNat)).map fun (k : Nat) => (((k / d.toNat : Nat) : Int), ((k % d.toNat : Nat) : Int))
theorem mem_boxI {d : Int} {q : Pr} (h : 0 ≤ q.1 ∧ q.1 < d ∧ 0 ≤ q.2 ∧ q.2 < d) : q ∈ boxI d := by
  obtain ⟨h1, h2, h3, h4⟩ := h
  unfold boxI
  generalize e : d.toNat = N
  have l1 : q.1.toNat < N := by omega
  have l2 : q.2.toNat < N := by omega
  have np : 0 < N := by omega
  refine List.mem_map.mpr ⟨N * q.1.toNat + q.2.toNat, List.mem_range.mpr ?_, ?_⟩
  · calc N * q.1.toNat + q.2.toNat < N * q.1.toNat + N := by omega
      _ = N * (q.1.toNat + 1) := by rw [Nat.mul_succ]
      _ ≤ N * N := Nat.mul_le_mul_left _ l1
  · rw [Nat.mul_add_div np, Nat.div_eq_of_lt l2, Nat.mul_add_mod, Nat.mod_eq_of_lt l2, Nat.add_zero, Int.toNat_of_nonneg h1, Int.toNat_of_nonneg h3]
theorem fl_len {B : Nat} {u : Nat → Int} {d : Int} (d1 : 1 ≤ d) (d2 : d ≤ 30) (a b : Nat) : (fl (rp B u d) a b).length ≤ 900 := by
  have h := pigL (boxI d) ((fl (rp B u d) a b).map (rp B u d)) (fl_nodup _ a b) fun q hq => by
    obtain ⟨n, _, rfl⟩ := List.mem_map.mp hq
    exact mem_boxI (rp_bd d1 n)
  rw [List.length_map] at h
  unfold boxI at h
  rw [List.length_map, List.length_range] at h
  have : d.toNat * d.toNat ≤ 30 * 30 := Nat.mul_le_mul (by omega) (by omega)
  omega
/-- where the j-th of those below P stands; P behind the last -/
def posF (L : List Nat) (P j : Nat) : Nat := (L[j]?).getD P
theorem fl_pos {α : Type} [DecidableEq α] (f : Nat → α) {P j n : Nat} (h : (fl f 0 P)[j]? = some n) : ∀ m, n < m → m < posF (fl f 0 P) P (j + 1) → fo f m = false := by
  intro m h1 h2
  cases e : fo f m with
  | false => rfl
  | true =>
    have hs := fl_sorted f 0 P
    have hm : m < P := by
      unfold posF at h2
      cases q : (fl f 0 P)[j + 1]? with
      | none => rw [q] at h2; exact h2
      | some z =>
        rw [q] at h2
        have := (fl_mem f).mp (List.mem_of_getElem? q)
        have h2 : m < z := h2
        omega
    obtain ⟨i, hi⟩ := List.mem_iff_getElem?.mp ((fl_mem f).mpr ⟨Nat.zero_le _, hm, e⟩)
    rw [List.pairwise_iff_getElem] at hs
    obtain ⟨li, ei⟩ := List.getElem?_eq_some_iff.mp hi
    obtain ⟨lj, ej⟩ := List.getElem?_eq_some_iff.mp h
    rcases Nat.lt_trichotomy i j with z | z | z
    · have := hs i j li lj z
      omega
    · subst z
      omega
    · rcases Nat.lt_or_ge (j + 1) i with y | y
      · have l3 : j + 1 < (fl f 0 P).length := by omega
        have := hs (j + 1) i l3 li y
        unfold posF at h2
        rw [List.getElem?_eq_getElem l3] at h2
        have h2 : m < (fl f 0 P)[j + 1] := h2
        omega
      · obtain rfl : i = j + 1 := by omega
        unfold posF at h2
        rw [hi] at h2
        have h2 : m < m := h2
        omega
theorem fo_zero {α : Type} [DecidableEq α] (f : Nat → α) : fo f 0 = true := (fo_iff f).mpr fun j hj => absurd hj (Nat.not_lt_zero _)
theorem fl_head {α : Type} [DecidableEq α] (f : Nat → α) {P : Nat} (hP : 0 < P) : posF (fl f 0 P) P 0 = 0 := by
  rw [fl_app f (Nat.zero_le 1) hP, fl_one, if_pos (fo_zero f)]
  rfl
theorem idx_lt {l : List Nat} {i : Nat} {n : Nat} (h : l[i]? = some n) : i < l.length := (List.getElem?_eq_some_iff.mp h).1
theorem fl_next {α : Type} [DecidableEq α] (f : Nat → α) {P c j n : Nat} (pk : 0 < P) (c1 : 1 ≤ c) (h : (fl f 0 P)[j]? = some n) (low : ∀ x, x < P → fo f x = false → fo f (c * P + x) = false) :
    fl f P (c * P + posF (fl f 0 P) P (j + 1)) = fl f P (c * P + n) ++ if fo f (c * P + n) = true then [c * P + n] else [] := by
  have le1 : P ≤ c * P := Nat.le_mul_of_pos_left P c1
  have hn := (fl_mem f).mp (List.mem_of_getElem? h)
  have ps := fl_pos f h
  have lt : n < posF (fl f 0 P) P (j + 1) ∧ posF (fl f 0 P) P (j + 1) ≤ P := by
    have hs := fl_sorted f 0 P
    rw [List.pairwise_iff_getElem] at hs
    obtain ⟨lj, ej⟩ := List.getElem?_eq_some_iff.mp h
    unfold posF
    rcases q : (fl f 0 P)[j + 1]? with _ | z
    · exact ⟨hn.2.1, Nat.le_refl _⟩
    · obtain ⟨li, ei⟩ := List.getElem?_eq_some_iff.mp q
      have := hs j (j + 1) lj li (by omega)
      have hz := (fl_mem f).mp (List.mem_of_getElem? q)
      show n < z ∧ z ≤ P
      omega
  rw [fl_skip f (b := c * P + n + 1) (by omega) (by omega) fun y h1 h2 => ?_, fl_app f (b := c * P + n) (by omega) (by omega), fl_one]
  obtain ⟨x, rfl⟩ : ∃ x, y = c * P + x := ⟨y - c * P, by omega⟩
  exact low x (by omega) (ps x (by omega) (by omega))
def spNew (K : PySem.W.Frag) : Sp := fun vs H Q _ => ∃ (e : Addr) (B k : Nat) (u : Nat → Int) (d : Int), vs = [.ref e, .int (B : Int), .int ((B : Int) ^ k), .int (u k), .int d] ∧ 2 ≤ B ∧ B ≤ 256 ∧ 1 ≤ d ∧ d ≤ 30 ∧ -(10 ^ 6) ≤ u k ∧ u k ≤ 10 ^ 6 ∧ H e = some (.dT ((fl (rp B u d) 0 (B ^ k)).map (entF B u d))) ∧
  ∀ (D : Addr) (H' : Hp), Same H H' → H D = none → H' D = some (.dT ((fl (rp B u d) (B ^ k) (B ^ (k + 1))).map (entF B u d))) → Q (.ref D) H'
theorem ok_new_rests (T : Tx P K mg) : FnOk P w K mg base CX0 lv_new_rests T.a_new_rests T.d_new_rests ["least", "block", "power", "weight", "d"] (spNew K) := by
  refine T.F_new_rests.ok sc_new_rests (fun vs H Q E h => ?_) (fun cdv A outer s H vs Q E hr h => ?_)
  · obtain ⟨e, B, k, u, d, rfl, _⟩ := h
    rfl
  · obtain ⟨e, B, k, u, d, rfl, hB2, B2, d1, d2, u1, u2, he, kk⟩ := h
    refine ⟨_, (pss_cons (ps_set (i := 5) sc_new_rests.nd rfl (Or.inl rfl) pe_dnewT)
      (pss_cons (ps_for PassesOwn.never rfl (pi_range2 (by rfl) T.n_range (pa_cons pe_int (pa_cons (pv 1) pa_nil))) (pg_name (i := 6) sc_new_rests.nd rfl (Or.inl rfl)) (pss_cons (ps_set (i := 7) sc_new_rests.nd rfl (Or.inl rfl) (pe_callB call_len_dT (by rfl) T.n_len (by decide +kernel) (pa_cons (pv 5) pa_nil)))
      (pss_cons (ps_lock (ps_for PassesOwn.never rfl (pi_itemsT (pv 0)) (pg_tup rfl (pgs_cons (pg_tup rfl (pgs_cons (pg_name (i := 8) sc_new_rests.nd rfl (Or.inl rfl)) (pgs_cons (pg_name (i := 9) sc_new_rests.nd rfl (Or.inl rfl)) pgs_nil))) (pgs_cons (pg_name (i := 10) sc_new_rests.nd rfl (Or.inl rfl)) pgs_nil))) (pss_cons (ps_set (i := 11) sc_new_rests.nd rfl (Or.inl rfl) (pe_tup (pa_cons (pe_op op_modN (pe_op op_add (pv 8) (pe_op op_mul (pv 6) (pe_op op_modN (pv 2) (pv 4)))) (pv 4)) (pa_cons (pe_op op_modN (pe_op op_add (pv 9) (pe_op op_mul (pv 6) (pv 3))) (pv 4)) pa_nil))))
      (pss_one (ps_if (PW.pt (pw_and (pt_cmp (pc_dnotin (hu_of hr) (pv 11) (pv 0))) (pw_and1 (pt_cmp (pc_dnotin (hu_of hr) (pv 11) (pv 5)))))) (pss_one (ps_dput (hu_of hr) (pv 5) (pv 11) (pe_op op_add (pe_op op_mul (pv 6) (pv 2)) (pv 10)) rfl)) pss_nil)))))
      (pss_one (ps_if (pt_cmpR op_eq (pe_callB call_len_dT (by rfl) T.n_len (by decide +kernel) (pa_cons (pv 5) pa_nil)) (pv 7) (nomark _)) (pss_one ps_break) pss_nil)))))
      (pss_one (ps_ret (pv 5))))), ?_⟩
    refine fun D hD => ⟨_, rfl, _, _, rfl, ⟨by decide, by decide, by omega, by omega⟩, ?_⟩
    have pk : 0 < B ^ k := Nat.pow_pos (by omega)
    have eP : (B : Int) ^ k = ((B ^ k : Nat) : Int) := (Int.natCast_pow B k).symm
    have fm : ∀ x : Int, x.fmod d = x % d := fun x => Int.fmod_eq_emod_of_nonneg x (by omega)
    have nd : d ≠ 0 := by omega
    have sh : ∀ c n : Nat, c < B → n < B ^ k → ((rp B u d n).1 + (c : Int) * ((B : Int) ^ k).fmod d).fmod d = (rp B u d (c * B ^ k + n)).1 ∧ ((rp B u d n).2 + (c : Int) * u k).fmod d = (rp B u d (c * B ^ k + n)).2 := fun c n hc hn => by
      rw [rp_shp hB2 hc hn, fm, fm, fm]
      exact ⟨rfl, rfl⟩
    generalize hf : rp B u d = f at *
    have entv : ∀ n : Nat, entF B u d n = (kp (f n), .int (n : Int)) := fun n => by unfold entF; rw [hf]
    have hfr : ∀ c : Nat, 1 ≤ c → c < B → (∀ n, c * B ^ k ≤ n → n < (c + 1) * B ^ k → fo f n = false) → ∀ n, c * B ^ k ≤ n → n < B ^ (k + 1) → fo f n = false := by
      rw [← hf]
      exact fun c => fo_rest hB2
    have hlow : ∀ c x : Nat, c < B → x < B ^ k → fo f x = false → fo f (c * B ^ k + x) = false := by
      rw [← hf]
      exact fun c x => fo_low hB2
    have hN : ∀ L : List Nat, ∀ g, (∀ n ∈ L, f n ≠ g) → valV (L.map (entF B u d)) (kp g) = none := by
      rw [← hf]
      exact fun L g => valV_none
    have hS : ∀ L : List Nat, ∀ g, (valV (L.map (entF B u d)) (kp g)).isSome = L.any fun n => decide (f n = g) := by
      rw [← hf]
      exact fun L g => valV_mem g L
    have hlen : ∀ a b, (fl f a b).length ≤ 900 := by
      rw [← hf]
      exact fl_len d1 d2
    have top : B ^ (k + 1) = B * B ^ k := by rw [Nat.pow_succ, Nat.mul_comm]
    generalize B ^ (k + 1) = P2 at *
    generalize B ^ k = P at *
    rw [eP] at *
    have neD : e ≠ D := ne_of_none he hD
    refine for_range (lo := 1) (n := ((B : Int) - 1).toNat) (fun i σ H1 => ∃ v6 v7 v8 v9 v10 v11 : Option V, Same H H1 ∧ H1 D = some (.dT ((fl f P ((1 + i) * P)).map (entF B u d))) ∧ σ = [some (.ref e), some (.int (B : Int)), some (.int (P : Int)), some (.int (u k)), some (.int d), some (.ref D), v6, v7, v8, v9, v10, v11]) ?_ ?_ ?_
    · exact ⟨none, none, none, none, none, none, same_upd hD, by rw [upd_same, Nat.add_zero, Nat.one_mul, fl_nil f (Nat.le_refl P)]; rfl, rfl⟩
    · rintro i σ H1 hi ⟨v6, v7, v8, v9, v10, v11, S1, hD1, rfl⟩
      have ec : (1 : Int) + (i : Int) = ((1 + i : Nat) : Int) := by omega
      have c1 : 1 ≤ 1 + i := by omega
      have cB : 1 + i < B := by omega
      rw [ec]
      obtain ⟨c, hc⟩ : ∃ c, c = 1 + i := ⟨_, rfl⟩
      have hc2 : 1 + (i + 1) = c + 1 := by omega
      rw [← hc] at hD1 ec c1 cB ⊢
      rw [hc2]
      clear hc2 hc
      have hk0 := hlen P (c * P)
      refine ⟨_, rfl, D, _, rfl, hD1, e, _, S1 _ _ he, trivial, fun od => ⟨_, rfl, e, od, _, rfl, upd_same, ?_⟩⟩
      rw [List.length_map]
      refine for_it walk_itemsT (fun j σ H2 => ∃ v8 v9 v10 v11 : Option V, H2 e = some (.frz od (.dT ((fl f 0 P).map (entF B u d)))) ∧ (∀ x o, H x = some o → x ≠ e → H2 x = some o) ∧ H2 D = some (.dT ((fl f P (c * P + posF (fl f 0 P) P j)).map (entF B u d))) ∧
        σ = [some (.ref e), some (.int (B : Int)), some (.int (P : Int)), some (.int (u k)), some (.int d), some (.ref D), some (.int (c : Int)), some (.int ((fl f P (c * P)).length : Int)), v8, v9, v10, v11]) ?_ (fun j σ H2 _ ⟨_, _, _, _, h, _⟩ => h) ?_ ?_
      · refine ⟨v8, v9, v10, v11, upd_same, fun x o hx n => by rw [upd_ne n]; exact S1 _ _ hx, ?_, rfl⟩
        rw [upd_ne neD.symm, fl_head f pk, Nat.add_zero]
        exact hD1
      · rintro j x σ H2 H3 hj ⟨v8, v9, v10, v11, he2, S2, hD2, rfl⟩ ⟨t, key, v, q, hkv, hq, rfl, ht, rfl⟩
        rw [List.getElem?_map] at hkv
        obtain ⟨n, hn, env⟩ := Option.map_eq_some_iff.mp hkv
        rw [entv] at env
        cases env
        have S3 := same_upd (o := HO.tup [.ref q, .int (n : Int)]) ht
        obtain ⟨hn1, hn2, hn3⟩ := (fl_mem f).mp (List.mem_of_getElem? hn)
        obtain ⟨sh1, sh2⟩ := sh c n cB hn2
        refine ⟨t, _, rfl, SqT.of upd_same, rfl, _, _, rfl, q, _, rfl, SqT.of (S3 _ _ hq), rfl, _, _, rfl, _, _, rfl, rfl, _, _, rfl, rfl, ?_⟩
        refine ⟨_, rfl, _, rfl, _, rfl, _, rfl, _, _, rfl, rfl, nd, _, _, rfl, rfl, .inl ⟨by omega, by omega⟩, _, _, rfl, rfl, _, rfl, _, _, rfl, rfl, nd, ?_⟩
        refine ⟨_, rfl, _, rfl, _, rfl, _, _, rfl, rfl, .inl ⟨by omega, by omega⟩, _, _, rfl, rfl, _, rfl, _, _, rfl, rfl, nd, by show 2 ≤ sizeLine; decide, fun p hp => ?_⟩
        have S4 := S3.trans (same_upd (o := HO.tup [.int (((f n).1 + (c : Int) * (P : Int).fmod d).fmod d), .int (((f n).2 + (c : Int) * u k).fmod d)]) hp)
        have hp4 : (upd (upd H2 t (.tup [.ref q, .int (n : Int)])) p (.tup [.int (((f n).1 + (c : Int) * (P : Int).fmod d).fmod d), .int (((f n).2 + (c : Int) * u k).fmod d)])) p = some (.tup ((kp (f (c * P + n))).map kV)) := by
          rw [upd_same, sh1, sh2]
          rfl
        refine ⟨_, rfl, _, rfl, e, _, rfl, .inr ⟨_, kp (f (c * P + n)), p, .inr ⟨od, S4 _ _ he2⟩, rfl, hp4, rfl⟩, _, rfl, ?_⟩
        have hD4 := S4 _ _ hD2
        have pj : posF (fl f 0 P) P j = n := by unfold posF; rw [hn]; rfl
        rw [pj] at hD4
        have e4 := S4 _ _ he2
        have S5 : ∀ x o, H x = some o → x ≠ e → (upd (upd H2 t (.tup [.ref q, .int (n : Int)])) p (.tup [.int (((f n).1 + (c : Int) * (P : Int).fmod d).fmod d), .int (((f n).2 + (c : Int) * u k).fmod d)])) x = some o := fun x o hx hxe => S4 _ _ (S2 x o hx hxe)
        generalize upd (upd H2 t (.tup [.ref q, .int (n : Int)])) p (.tup [.int (((f n).1 + (c : Int) * (P : Int).fmod d).fmod d), .int (((f n).2 + (c : Int) * u k).fmod d)]) = H5 at hp4 hD4 e4 S5 ⊢
        have nx := fl_next f pk c1 hn fun x hx h => hlow c x cB hx h
        have by_ := fo_by f (a := P) (n := c * P + n) (by have := Nat.mul_le_mul_right P c1; omega)
        have hs1 := hS (fl f 0 P) (f (c * P + n))
        have hs2 := hS (fl f P (c * P + n)) (f (c * P + n))
        have stay : fo f (c * P + n) = false → ∃ v8 v9 v10 v11 : Option V, H5 e = some (.frz od (.dT ((fl f 0 P).map (entF B u d)))) ∧ (∀ x o, H x = some o → x ≠ e → H5 x = some o) ∧ H5 D = some (.dT ((fl f P (c * P + posF (fl f 0 P) P (j + 1))).map (entF B u d))) ∧
            [some (V.ref e), some (.int (B : Int)), some (.int (P : Int)), some (.int (u k)), some (.int d), some (.ref D), some (.int (c : Int)), some (.int ((fl f P (c * P)).length : Int)), some (.int (f n).1), some (.int (f n).2), some (.int (n : Int)), some (.ref p)] = [some (V.ref e), some (.int (B : Int)), some (.int (P : Int)), some (.int (u k)), some (.int d), some (.ref D), some (.int (c : Int)), some (.int ((fl f P (c * P)).length : Int)), v8, v9, v10, v11] := fun q => by
          refine ⟨_, _, _, _, e4, S5, ?_, rfl⟩
          rw [nx, if_neg (by rw [q]; exact Bool.false_ne_true), List.append_nil]
          exact hD4
        refine ite2 (fun g1 => ?_) (fun g1 => iteF (stay ?_))
        · refine ⟨_, rfl, _, rfl, D, _, rfl, DGet.t hD4 hp4, _, rfl, ite2 (fun g2 => ?_) (fun g2 => stay ?_)⟩
          · have q1 : fo f (c * P + n) = true := by
              refine by_.mpr ⟨fun j hj z => ?_, fun j hj z => ?_⟩
              · rw [show (fl f 0 P).any (fun n_1 => decide (f n_1 = f (c * P + n))) = true from List.any_eq_true.mpr ⟨j, hj, decide_eq_true z⟩] at hs1
                rw [hs1] at g1
                cases g1
              · rw [show (fl f P (c * P + n)).any (fun n_1 => decide (f n_1 = f (c * P + n))) = true from List.any_eq_true.mpr ⟨j, hj, decide_eq_true z⟩] at hs2
                rw [hs2] at g2
                cases g2
            have hv := hN (fl f P (c * P + n)) (f (c * P + n)) (by_.mp q1).2
            refine ⟨_, rfl, _, rfl, _, _, rfl, rfl, .inl ⟨by omega, by omega⟩, _, rfl, _, _, rfl, rfl, _, rfl, _, rfl, D, _, rfl, DPut.t hD4 hp4 (by rw [List.length_map]; have := hlen P (c * P + n); unfold sizeLine; omega), ?_⟩
            refine ⟨_, _, _, _, by rw [upd_ne neD]; exact e4, fun x o hx hxe => by rw [upd_ne (ne_of_none hx hD)]; exact S5 x o hx hxe, ?_, rfl⟩
            rw [upd_same, putK_new _ hv, nx, if_pos q1, List.map_append, List.map_cons, List.map_nil, entv, Int.natCast_add, Int.natCast_mul]
          · cases q : fo f (c * P + n) with
            | false => rfl
            | true =>
              refine absurd ?_ g2
              rw [hN _ _ (by_.mp q).2]
              rfl
        · cases q : fo f (c * P + n) with
          | false => rfl
          | true =>
            refine absurd ?_ g1
            rw [hN _ _ (by_.mp q).1]
            rfl
      · rintro σ H2 ⟨v8, v9, v10, v11, he2, S2, hD2, rfl⟩
        have pj : posF (fl f 0 P) P (fl f 0 P).length = P := by unfold posF; rw [List.getElem?_eq_none (Nat.le_refl _)]; rfl
        rw [List.length_map, pj, ← Nat.succ_mul] at hD2
        have S5 : Same H (upd H2 e (.dT ((fl f 0 P).map (entF B u d)))) := fun x o hx => by
          by_cases z : x = e
          · subst z
            rw [upd_same, ← hx, he]
          · rw [upd_ne z]
            exact S2 x o hx z
        have hD5 : (upd H2 e (.dT ((fl f 0 P).map (entF B u d)))) D = some (.dT ((fl f P ((c + 1) * P)).map (entF B u d))) := by rw [upd_ne neD.symm]; exact hD2
        refine ⟨he2, _, rfl, D, _, rfl, hD5, _, rfl, rfl, _, rfl, ?_⟩
        have le1 : P ≤ c * P := Nat.le_mul_of_pos_left P c1
        have le2 : c * P ≤ (c + 1) * P := Nat.mul_le_mul_right _ (by omega)
        have sp := fl_app f le1 le2
        rw [dec_i, List.length_map]
        refine ite2 (fun g => ?_) (fun g => ?_)
        · have g := of_decide_eq_true g
          rw [sp, List.length_append] at g
          have e0 : (fl f (c * P) ((c + 1) * P)).length = 0 := by omega
          have all := hfr c c1 cB fun n h1 h2 => fl_empty f e0 h1 h2
          have le3 : (c + 1) * P ≤ P2 := by rw [top]; exact Nat.mul_le_mul_right _ cB
          have e1 : fl f P P2 = fl f P ((c + 1) * P) := fl_skip f (by omega) le3 fun n h1 h2 => all n (by omega) h2
          exact ⟨_, rfl, kk D _ S5 hD (by rw [e1]; exact hD5)⟩
        · exact ⟨_, _, _, _, _, _, S5, hD5, rfl⟩
    · rintro σ H1 ⟨v6, v7, v8, v9, v10, v11, S1, hD1, rfl⟩
      rw [show (1 + ((B : Int) - 1).toNat) * P = P2 by rw [top]; congr 1; omega] at hD1
      exact ⟨_, rfl, kk D _ S1 hD hD1⟩

/-! ### the least number that fails -/
abbrev valO : Option Nat → V := optV
theorem pow_back {B d : Int} {L : List Int} {a : Nat} (h : PowR B d L a) {j : Nat} (hj : a ≤ j) : ∀ t : Nat, B ^ (j + t * (L.length - a)) % d = B ^ j % d
  | 0 => by rw [Nat.zero_mul, Nat.add_zero]
  | t + 1 => by
    have ih := pow_back h hj t
    have hl := h.lt
    rw [← ih, Nat.succ_mul]
    generalize t * (L.length - a) = q
    rw [show j + (q + (L.length - a)) = (j + q - a) + L.length by omega, Int.pow_add, Int.mul_emod, h.per, ← Int.mul_emod, ← Int.pow_add, show j + q - a + a = j + q by omega]
theorem wAt_back {fs ls : List Int} (hl : 1 ≤ ls.length) {j : Nat} (hj : fs.length ≤ j) (t : Nat) : wAt fs ls (j + t * ls.length) = wAt fs ls j := by
  unfold wAt
  rw [if_neg (by omega), if_neg (by omega), show j + t * ls.length - fs.length = j - fs.length + t * ls.length by omega, Nat.add_mul_mod_self_right]
theorem per_sum {B : Nat} {d : Int} {L : List Int} {a : Nat} (h : PowR (B : Int) d L a) {fs ls : List Int} (hl : 1 ≤ ls.length) : Per B (wAt fs ls) d (max fs.length a) (ls.length * (L.length - a)) := by
  refine per_of (fun j hj => pow_back h (by omega) _) fun j hj => ?_
  rw [Nat.mul_comm]
  exact wAt_back hl (by omega) _
theorem least_hit {B : Nat} {u : Nat → Int} {d : Int} {P n : Nat} {NW : List Nat} {j : Nat} (hnw : NW = fl (rp B u d) P P2) (hn : NW[j]? = some n) (h0 : ∀ y, y < P → mism (rp B u d y) = false) (h1 : ∀ i m, i < j → NW[i]? = some m → mism (rp B u d m) = false) (h2 : mism (rp B u d n) = true) : LeastF B u d (some n) := by
  refine ⟨h2, fun y hy => ?_⟩
  obtain ⟨m, m1, m2, m3⟩ := fo_rep (rp B u d) y
  rw [← m3]
  rcases Nat.lt_or_ge m P with z | z
  · exact h0 m z
  · have mem := (fl_mem (rp B u d)).mp (List.mem_of_getElem? (hnw ▸ hn))
    have mm : m ∈ NW := by
      rw [hnw]
      exact (fl_mem _).mpr ⟨z, by omega, m2⟩
    obtain ⟨i, hi⟩ := List.mem_iff_getElem?.mp mm
    refine h1 i m ?_ hi
    rcases Nat.lt_or_ge i j with q | q
    · exact q
    · have hs := fl_sorted (rp B u d) P P2
      rw [← hnw, List.pairwise_iff_getElem] at hs
      obtain ⟨li, ei⟩ := List.getElem?_eq_some_iff.mp hi
      obtain ⟨lj, ej⟩ := List.getElem?_eq_some_iff.mp hn
      rcases Nat.lt_or_ge j i with y | y
      · have := hs j i lj li y
        omega
      · obtain rfl : i = j := by omega
        omega
theorem none_more {B : Nat} {u : Nat → Int} {d : Int} {P P2 : Nat} (h0 : ∀ y, y < P → mism (rp B u d y) = false) (h1 : ∀ m ∈ fl (rp B u d) P P2, mism (rp B u d m) = false) : ∀ y, y < P2 → mism (rp B u d y) = false := by
  intro y hy
  obtain ⟨m, m1, m2, m3⟩ := fo_rep (rp B u d) y
  rw [← m3]
  rcases Nat.lt_or_ge m P with z | z
  · exact h0 m z
  · exact h1 m ((fl_mem _).mpr ⟨z, by omega, m2⟩)
theorem wAt_bd {fs ls : List Int} (w1 : Wts 0 fs) (w2 : Wts 1 ls) (k : Nat) : -(10 ^ 6) ≤ wAt fs ls k ∧ wAt fs ls k ≤ 10 ^ 6 := by
  have g : ∀ {ns : List Int} {i : Nat}, (∀ z ∈ ns, -(10 ^ 6 : Int) ≤ z ∧ z ≤ 10 ^ 6) → -(10 ^ 6 : Int) ≤ ns.getD i 0 ∧ ns.getD i 0 ≤ 10 ^ 6 := fun {ns i} h => by
    rw [List.getD_eq_getElem?_getD]
    cases e : ns[i]? with
    | none => exact ⟨by decide, by decide⟩
    | some z => exact h z (List.mem_of_getElem? e)
  unfold wAt
  split
  · exact g w1.2.2
  · exact g w2.2.2
def spSumFails (T : Tx P K mg) : Sp := fun vs H Q _ => ∃ (p : Addr) (b t : Int) (fs ls : List Int) (d : Int), vs = [.ref p, .int d] ∧ SumAt T H p b t fs ls ∧ 1 ≤ d ∧ d ≤ 30 ∧
  ∀ (o : Option Nat) (H' : Hp), LeastF (blockOf b t).toNat (wAt fs ls) d o → Same H H' → Q (valO o) H'
theorem ok_sum_fails (T : Tx P K mg) : FnOk P w K mg base (L2.CX P w) lv_sum_fails T.a_sum_fails T.d_sum_fails ["told", "d"] (spSumFails T) := by
  refine T.F_sum_fails.okX sc_sum_fails (fun vs H Q E h => ?_) (fun cdv A outer s H vs Q E hr h => ?_)
  · obtain ⟨p, b, t, fs, ls, d, rfl, _⟩ := h
    rfl
  · obtain ⟨p, b, t, fs, ls, d, rfl, a, d1, d2, k⟩ := h
    obtain ⟨dx, f, l, e, hf, hl, b1, b2, t1, t2, w1, w2⟩ := id a
    obtain ⟨B1, B2⟩ := block_bd (t := t) b1 b2
    have nd : d ≠ 0 := by omega
    refine ⟨_, (pss_cons (ps_expr (pe_call (ok_check_sum T) (hr.mono (by decide)) rfl T.g_check_sum T.F_check_sum.kp T.b_check_sum .nil (passes_call (takes_of rfl rfl rfl rfl) fun _ _ _ _ h => h) (pa_cons (pv 0) pa_nil)))
      (pss_cons (ps_expr (pe_call (ok_check_divisor T) (hr.mono (by decide)) rfl T.g_check_divisor T.F_check_divisor.kp T.b_check_divisor .nil (passes_call (takes_of rfl rfl rfl rfl) fun _ _ _ _ h => h) (pa_cons (pv 1) (pa_cons (pe_glob (v := .int 30) rfl T.c_GREATEST_SUM_DIVISOR ⟨_, rfl⟩) pa_nil))))
      (pss_cons (ps_set (i := 2) sc_sum_fails.nd rfl (Or.inl rfl) (pe_call (ok_sum_block T) (hr.mono (by decide)) rfl T.g_sum_block T.F_sum_block.kp T.b_sum_block .nil pass0 (pa_cons (pv 0) pa_nil)))
      (pss_cons (ps_set (i := 3) sc_sum_fails.nd rfl (Or.inl rfl) (pe_disp1T (hu_of hr) (pe_tup (pa_cons pe_int (pa_cons pe_int pa_nil))) pe_int))
      (pss_cons (ps_set (i := 4) sc_sum_fails.nd rfl (Or.inl rfl) pe_int)
      (pss_cons (ps_set (i := 5) sc_sum_fails.nd rfl (Or.inl rfl) pe_int)
      (pss_cons (ps_set (i := 6) sc_sum_fails.nd rfl (Or.inl rfl) pe_int)
      (pss_cons (ps_set (i := 7) sc_sum_fails.nd rfl (Or.inl rfl) (pe_call (ok_turn T) (hr.mono (by decide)) rfl T.g_turn T.F_turn.kp T.b_turn .nil pass0 (pa_cons (pv 0) (pa_cons (pv 1) pa_nil))))
      (pss_cons (ps_while (passes_of rfl) (pt_cmpR op_lt (pv 6) (pv 7) (nomark _)) (pss_cons (ps_set (i := 8) sc_sum_fails.nd rfl (Or.inl rfl) (pe_call (ok_new_rests T) (hr.mono (by decide)) rfl T.g_new_rests T.F_new_rests.kp T.b_new_rests .nil pass0 (pa_cons (pv 3) (pa_cons (pv 2) (pa_cons (pv 5) (pa_cons (pe_call (ok_weight_at T) (hr.mono (by decide)) rfl T.g_weight_at T.F_weight_at.kp T.b_weight_at .nil pass0 (pa_cons (pv 0) (pa_cons (pv 4) pa_nil))) (pa_cons (pv 1) pa_nil)))))))
      (pss_cons (ps_lock (ps_for (passes_of rfl) rfl (pi_itemsT (pv 8)) (pg_tup rfl (pgs_cons (pg_tup rfl (pgs_cons (pg_name (i := 9) sc_sum_fails.nd rfl (Or.inl rfl)) (pgs_cons (pg_name (i := 10) sc_sum_fails.nd rfl (Or.inl rfl)) pgs_nil))) (pgs_cons (pg_name (i := 11) sc_sum_fails.nd rfl (Or.inl rfl)) pgs_nil))) (pss_cons (ps_if (pt_cmpR op_ne (pe_cmpR op_eq (pv 9) pe_int (nomark _)) (pe_cmpR op_eq (pv 10) pe_int (nomark _)) (nomark _)) (pss_one (ps_ret (pv 11))) pss_nil)
      (pss_one (ps_dput (hu_of hr) (pv 3) (pe_tup (pa_cons (pv 9) (pa_cons (pv 10) pa_nil))) (pv 11) rfl)))))
      (pss_cons (ps_set (i := 6) sc_sum_fails.nd rfl (Or.inl rfl) (pe_ifExp (pt_truthR (pv 8) tru_dT (by intro _; rfl)) pe_int (pe_op op_add (pv 6) pe_int)))
      (pss_cons (ps_aug (i := 4) sc_sum_fails.nd rfl (Or.inl rfl) pe_int ip_add)
      (pss_one (ps_aug (i := 5) sc_sum_fails.nd rfl (Or.inl rfl) (pv 2) (ip_op iop_mul))))))))
      (pss_one (ps_ret pe_non))))))))))), ?_⟩
    refine ⟨_, rfl, _, rfl, .inl ⟨p, dx, _, rfl, e, ?_⟩⟩
    refine ⟨_, rfl, .int d, 30, rfl, by decide, by decide, .int d, fun _ => ?_, fun z => Bool.noConfusion ((intIn_of d1 d2).symm.trans z)⟩
    refine ⟨_, rfl, p, b, t, fs, ls, rfl, a, ?_⟩
    refine fun es hes => ⟨by show 2 ≤ sizeLine; decide, fun ht hht => ⟨same_upd hht _ _ upd_same, ht, kp (0, 0), rfl, upd_same, ?_⟩⟩
    obtain ⟨B, hB⟩ : ∃ B : Nat, blockOf b t = (B : Int) := ⟨(blockOf b t).toNat, by omega⟩
    rw [hB, Int.toNat_natCast] at k
    rw [hB] at B1 B2 ⊢
    have hB2 : 2 ≤ B := by omega
    have Sn : Same H (upd (upd (upd H es (.dT [])) ht (.tup [.int 0, .int 0])) es (.dT [(kp (0, 0), .int 0)])) := fun c o g => by
      have nc := ne_of_none g hes
      rw [upd_ne nc]
      exact same_upd hht _ _ (same_upd hes _ _ g)
    have en : (upd (upd (upd H es (.dT [])) ht (.tup [.int 0, .int 0])) es (.dT [(kp (0, 0), .int 0)])) es = some (.dT [(kp (0, 0), .int 0)]) := upd_same
    generalize (upd (upd (upd H es (.dT [])) ht (.tup [.int 0, .int 0])) es (HO.dT [(kp (0, 0), V.int 0)])) = H1 at Sn en ⊢
    have a1 := a.same Sn
    refine ⟨_, rfl, _, rfl, p, b, t, fs, ls, d, rfl, a1, d1, d2, fun L a0 H2 pr S2 => ?_⟩
    rw [hB] at pr
    have S12 := Sn.trans S2
    have a2 := a.same S12
    have hlt := pr.lt
    have hle := pr.le
    have hM : max fs.length a0 ≤ 31 := by
      have := w1.2.1
      omega
    have hL1 : 1 ≤ ls.length * (L.length - a0) := Nat.mul_pos w2.1 (by omega)
    have hL2 : ls.length * (L.length - a0) ≤ 12 * 31 := Nat.mul_le_mul w2.2.1 (by omega)
    have per := per_sum (B := B) (d := d) pr (fs := fs) (ls := ls) w2.1
    have eN : turnN fs ls L a0 = max fs.length a0 + ls.length * (L.length - a0) := rfl
    rw [eN]
    generalize max fs.length a0 = M at *
    generalize ls.length * (L.length - a0) = Lp at *
    have hdL : d.toNat * Lp ≤ 30 * (12 * 31) := Nat.mul_le_mul (by omega) hL2
    have far : ∀ j, M + d.toNat * Lp ≤ j → Idle B (wAt fs ls) d j := fun j hj => idle_far hB2 per hL1 d1 hj
    have fin : ∀ q, M + Lp ≤ q → (∀ j, j < q → q ≤ j + (M + Lp) → Idle B (wAt fs ls) d j) → (∀ n, n < B ^ q → mism (rp B (wAt fs ls) d n) = false) → LeastF B (wAt fs ls) d none := fun q h1 h2 h3 => leastF_none hB2 per hL1 h1 h2 h3
    have wb : ∀ q, -(10 ^ 6) ≤ wAt fs ls q ∧ wAt fs ls q ≤ 10 ^ 6 := fun q => wAt_bd w1 w2 q
    clear per
    generalize hu : wAt fs ls = u at *
    have f0 : fl (rp B u d) 0 (B ^ 0) = [0] := by
      rw [Nat.pow_zero, show (1 : Nat) = 0 + 1 from rfl, fl_one, if_pos (fo_zero _)]
    have r0 : rp B u d 0 = (0, 0) := by
      unfold rp
      rw [tot_zero]
      simp
    generalize d.toNat * Lp = dL at *
    have hN2 : ∀ L : List Nat, ∀ g, (∀ n ∈ L, rp B u d n ≠ g) → valV (L.map (entF B u d)) (kp g) = none := fun L g => valV_none
    refine while_by (fun σ H3 => ∃ (q i : Nat) (x8 x9 x10 x11 : Option V), Same H H3 ∧ H3 es = some (.dT ((fl (rp B u d) 0 (B ^ q)).map (entF B u d))) ∧ (∀ n, n < B ^ q → mism (rp B u d n) = false) ∧ i ≤ q ∧ (∀ j, q ≤ j + i → j < q → Idle B u d j) ∧ (q ≤ M + dL + i) ∧
        σ = [some (.ref p), some (.int d), some (.int (B : Int)), some (.ref es), some (.int (q : Int)), some (.int ((B : Int) ^ q)), some (.int (i : Int)), some (.int ((M + Lp : Nat) : Int)), x8, x9, x10, x11])
      (fun σ _ => match σ with | [_, _, _, _, some (.int q), _, _, _, _, _, _, _] => (M + dL + (M + Lp) + 1) - q.toNat | _ => 0) ?_ ?_ ?_
    · refine ⟨0, 0, none, none, none, none, S12, ?_, ?_, Nat.le_refl _, fun j _ hj => absurd hj (Nat.not_lt_zero _), by omega, rfl⟩
      · rw [f0, S2 _ _ en, List.map_cons, List.map_nil]
        unfold entF
        rw [r0]
        rfl
      · intro n hn
        obtain rfl : n = 0 := by
          rw [Nat.pow_zero] at hn
          omega
        rw [r0]
        rfl
    · rintro σ H3 ⟨q, i, x8, x9, x10, x11, S3, he3, hm, iq, hid, hfar, rfl⟩
      refine ⟨_, rfl, _, rfl, _, _, rfl, rfl, _, rfl, ?_⟩
      refine ite2 (fun c => ?_) (fun c => ?_)
      · have c1 : i < M + Lp := by
          have := of_decide_eq_true c
          omega
        have wbq := wb q
        rw [← hu] at wbq
        refine ⟨_, rfl, _, rfl, _, rfl, _, rfl, _, rfl, p, b, t, fs, ls, q, rfl, a.same S3, _, rfl, es, B, q, wAt fs ls, d, rfl, hB2, by omega, d1, d2, wbq.1, wbq.2, by rw [hu]; exact he3, fun D H4 S4 nD hD => ?_⟩
        rw [hu] at hD
        have S34 := S3.trans S4
        have neD : es ≠ D := ne_of_none he3 nD
        have nD0 : H D = none := by
          cases z : H D with
          | none => rfl
          | some o => rw [S3 _ _ z] at nD; cases nD
        obtain ⟨NW, hNW⟩ : ∃ NW, NW = fl (rp B u d) (B ^ q) (B ^ (q + 1)) := ⟨_, rfl⟩
        rw [← hNW] at hD
        have le1 : B ^ q ≤ B ^ (q + 1) := Nat.pow_le_pow_right (by omega) (by omega)
        have app : fl (rp B u d) 0 (B ^ q) ++ NW = fl (rp B u d) 0 (B ^ (q + 1)) := by rw [hNW, ← fl_app _ (Nat.zero_le _) le1]
        have hl0 := fl_len (B := B) (u := u) d1 d2 0 (B ^ (q + 1))
        rw [← app, List.length_append] at hl0
        have nodup : ∀ j n, NW[j]? = some n → ∀ y ∈ fl (rp B u d) 0 (B ^ q) ++ NW.take j, rp B u d y ≠ rp B u d n := by
          intro j n hn y hy
          have mem := (fl_mem (rp B u d)).mp (List.mem_of_getElem? (hNW ▸ hn))
          refine (fo_iff _).mp mem.2.2 y ?_
          rcases List.mem_append.mp hy with hy | hy
          · have := (fl_mem (rp B u d)).mp hy
            omega
          · have hs := fl_sorted (rp B u d) (B ^ q) (B ^ (q + 1))
            rw [← hNW, List.pairwise_iff_getElem] at hs
            obtain ⟨i2, hi2⟩ := List.mem_iff_getElem?.mp hy
            rw [List.getElem?_take] at hi2
            split at hi2
            · rename_i z
              obtain ⟨li, ei⟩ := List.getElem?_eq_some_iff.mp hi2
              obtain ⟨lj, ej⟩ := List.getElem?_eq_some_iff.mp hn
              have := hs i2 j li lj z
              omega
            · cases hi2
        refine ⟨D, _, hD, trivial, fun od => ⟨_, rfl, D, od, _, rfl, upd_same, ?_⟩⟩
        refine for_it walk_itemsT (fun j σ H5 => ∃ x9 x10 x11 : Option V, H5 D = some (.frz od (.dT (NW.map (entF B u d)))) ∧ Same H H5 ∧ H5 es = some (.dT ((fl (rp B u d) 0 (B ^ q) ++ NW.take j).map (entF B u d))) ∧ (∀ i2 m, i2 < j → NW[i2]? = some m → mism (rp B u d m) = false) ∧
          σ = [some (.ref p), some (.int d), some (.int (B : Int)), some (.ref es), some (.int (q : Int)), some (.int ((B : Int) ^ q)), some (.int (i : Int)), some (.int ((M + Lp : Nat) : Int)), some (.ref D), x9, x10, x11]) ?_ (fun j σ H2 _ ⟨_, _, _, h, _⟩ => h) ?_ ?_
        · refine ⟨x9, x10, x11, upd_same, fun x o hx => ?_, ?_, fun i2 m h => absurd h (Nat.not_lt_zero _), rfl⟩
          · rw [upd_ne (ne_of_none (S3 _ _ hx) nD)]
            exact S34 _ _ hx
          · rw [upd_ne neD, List.take_zero, List.append_nil]
            exact S4 _ _ he3
        · clear hD S4 S34 he3 S3
          rintro j x σ H5 H6 hj ⟨x9, x10, x11, hD5, S5, he5, hmj, rfl⟩ ⟨tt, key, v, kq, hkv, hq, rfl, ht, rfl⟩
          rw [List.getElem?_map] at hkv
          obtain ⟨n, hn, env⟩ := Option.map_eq_some_iff.mp hkv
          cases env
          have S6 := same_upd (o := HO.tup [.ref kq, .int (n : Int)]) ht
          refine ⟨tt, _, rfl, SqT.of upd_same, rfl, _, _, rfl, kq, _, rfl, SqT.of (S6 _ _ hq), rfl, _, _, rfl, _, _, rfl, rfl, _, _, rfl, rfl, ?_⟩
          refine ⟨_, rfl, rfl, _, rfl, rfl, rfl, _, rfl, ?_⟩
          rw [show (!decide (V.bl (decide (kV (Sum.inl (rp B u d n).1) = V.int 0)) = V.bl (decide (kV (Sum.inl (rp B u d n).2) = V.int 0)))) = mism (rp B u d n) from by
            show (!decide (V.bl (decide (V.int (rp B u d n).1 = V.int 0)) = V.bl (decide (V.int (rp B u d n).2 = V.int 0)))) = _
            rw [dec_i, dec_i, dec_bl]
            rfl]
          refine ite2 (fun g => ?_) (fun g => ?_)
          · refine ⟨_, rfl, S6 _ _ hD5, k (some n) _ (least_hit hNW hn hm hmj g) fun x o hx => ?_⟩
            rw [upd_ne (ne_of_none hx nD0)]
            exact S6 _ _ (S5 _ _ hx)
          · refine ⟨_, rfl, _, rfl, _, rfl, _, rfl, by show 2 ≤ sizeLine; decide, fun kt hkt => ?_⟩
            have S7 := S6.trans (same_upd (o := HO.tup [.int (rp B u d n).1, .int (rp B u d n).2]) hkt)
            have he7 := S7 _ _ he5
            have hv := hN2 _ (rp B u d n) (nodup j n hn)
            refine ⟨es, _, rfl, DPut.t (k := kp (rp B u d n)) he7 upd_same (by rw [List.length_map, List.length_append, List.length_take]; unfold sizeLine; omega), ?_⟩
            refine ⟨_, _, _, by rw [upd_ne neD.symm]; exact S7 _ _ hD5, fun x o hx => by rw [upd_ne (ne_of_none hx hes)]; exact S7 _ _ (S5 _ _ hx), ?_, fun i2 m h1 h2 => ?_, rfl⟩
            · rw [upd_same, putK_new _ hv, List.take_succ, hn, ← List.append_assoc, List.map_append (l₂ := (some n).toList)]
              rfl
            · rcases Nat.lt_or_ge i2 j with z | z
              · exact hmj i2 m z h2
              · obtain rfl : i2 = j := by omega
                rw [hn] at h2
                cases h2
                simpa using g
        · rintro σ H5 ⟨x9, x10, x11, hD5, S5, he5, hmj, rfl⟩
          rw [List.length_map, List.take_length, app] at he5
          have hm2 := none_more hm (fun m hmem => by
            obtain ⟨i2, hi2⟩ := List.mem_iff_getElem?.mp (hNW.symm ▸ hmem)
            exact hmj i2 m (by rw [List.length_map]; exact (List.getElem?_eq_some_iff.mp hi2).1) hi2)
          refine ⟨hD5, ?_⟩
          have S6 : Same H (upd H5 D (.dT (NW.map (entF B u d)))) := fun x o hx => by
            rw [upd_ne (ne_of_none hx nD0)]
            exact S5 _ _ hx
          have he6 : (upd H5 D (.dT (NW.map (entF B u d)))) es = some (.dT ((fl (rp B u d) 0 (B ^ (q + 1))).map (entF B u d))) := by
            rw [upd_ne neD]
            exact he5
          have hD6 : (upd H5 D (.dT (NW.map (entF B u d)))) D = some (.dT (NW.map (entF B u d))) := upd_same
          generalize upd H5 D (HO.dT (NW.map (entF B u d))) = H7 at S6 he6 hD6 ⊢
          refine ⟨_, rfl, D, _, rfl, hD6, ?_⟩
          have mu : M + dL + (M + Lp) + 1 - (((q : Int) + 1).toNat) < M + dL + (M + Lp) + 1 - ((q : Int).toNat) := by omega
          have pw : V.int ((B : Int) ^ q * (B : Int)) = V.int ((B : Int) ^ (q + 1)) := by rw [Int.pow_succ]
          cases eNW : NW with
          | nil =>
            refine iteF ⟨_, rfl, _, _, rfl, rfl, ?_⟩
            refine ⟨_, rfl, _, _, rfl, rfl, ?_⟩
            refine ⟨_, rfl, _, rfl, _, _, rfl, rfl, .inr ⟨by omega, by omega⟩, ⟨q + 1, i + 1, some (.ref D), x9, x10, x11, S6, he6, hm2, by omega, fun j h1 h2 => ?_, by omega, ?_⟩, mu⟩
            · rcases Nat.lt_or_ge j q with z | z
              · exact hid j (by omega) z
              · obtain rfl : j = q := by omega
                intro n h3 h4
                exact fl_empty _ (by rw [← hNW, eNW]; rfl) h3 h4
            · rw [← pw]
              rfl
          | cons n0 rest =>
            refine iteT ⟨_, rfl, _, _, rfl, rfl, ?_⟩
            refine ⟨_, rfl, _, rfl, _, _, rfl, rfl, .inr ⟨by omega, by omega⟩, ⟨q + 1, 0, some (.ref D), x9, x10, x11, S6, he6, hm2, by omega, fun j h1 h2 => by omega, ?_, ?_⟩, mu⟩
            · rcases Nat.lt_or_ge q (M + dL) with z | z
              · omega
              · have mem := (fl_mem (rp B u d)).mp (hNW ▸ (eNW ▸ List.mem_cons_self : n0 ∈ NW))
                rw [far q z n0 mem.1 mem.2.1] at mem
                cases mem.2.2
            · rw [← pw]
              rfl
      · have c1 : M + Lp ≤ i := by
          have : ¬ ((i : Int) < ((M + Lp : Nat) : Int)) := fun z => c (decide_eq_true z)
          omega
        exact k none H3 (fin q (by omega) (fun j h1 h2 => hid j (by omega) h1) hm) S3
    · exact m_test (m_op m_rI0 m_var m_var)

/-! ### the law's own weights and sums -/
/-- the law's parts of a sum stand at q -/
def ToldAt (H : Hp) (q : Addr) (b t : Int) (fs ls : List Int) : Prop := ∃ f l : Addr, H q = some (.lst [.int b, .int t, .ref f, .ref l]) ∧ H f = some (.tup (fs.map V.int)) ∧ H l = some (.tup (ls.map V.int))
theorem ToldAt.same {H H' : Hp} {q : Addr} {b t : Int} {fs ls : List Int} (h : ToldAt H q b t fs ls) (s : Same H H') : ToldAt H' q b t fs ls :=
  let ⟨f, l, e1, e2, e3⟩ := h
  ⟨f, l, s _ _ e1, s _ _ e2, s _ _ e3⟩
theorem ToldAt.but {H H' : Hp} {q r : Addr} {ys : List V} {b t : Int} {fs ls : List Int} (h : ToldAt H q b t fs ls) (n : q ≠ r) (hr : H r = some (.lst ys)) (s : But r H H') : ToldAt H' q b t fs ls :=
  let ⟨f, l, e1, e2, e3⟩ := h
  ⟨f, l, s _ _ e1 n, s _ _ e2 (ne_of e2 hr (by intro z; cases z)), s _ _ e3 (ne_of e3 hr (by intro z; cases z))⟩
def spLawWeight (K : PySem.W.Frag) : Sp := fun vs H Q _ => ∃ (q : Addr) (b t : Int) (fs ls : List Int) (k : Nat), vs = [.ref q, .int (k : Int)] ∧ ToldAt H q b t fs ls ∧ 1 ≤ ls.length ∧ Q (.int (wAt fs ls k)) H
theorem ok__law_weight (T : Tx P K mg) : FnOk P w K mg base CX0 lv__law_weight T.a__law_weight T.d__law_weight ["_law_told", "_law_at"] (spLawWeight K) := by
  refine T.F__law_weight.ok sc__law_weight (fun vs H Q E h => ?_) (fun cdv A outer s H vs Q E hr h => ?_)
  · obtain ⟨q, b, t, fs, ls, k, rfl, _⟩ := h
    rfl
  · obtain ⟨q, b, t, fs, ls, k, rfl, ⟨f, l, hq, hf, hl⟩, hl1, kk⟩ := h
    refine ⟨_, (pss_cons (ps_if (pt_cmpR op_lt (pv 1) (pe_callB call_len_seq (by rfl) T.n_len (by decide +kernel) (pa_cons (pe_ix ix_list (pv 0) pe_int (fun _ _ => rfl)) pa_nil)) (nomark _)) (pss_one (ps_ret (pe_ix ix_tup (pe_ix ix_list (pv 0) pe_int (fun _ _ => rfl)) (pv 1) (fun _ _ => rfl)))) pss_nil)
      (pss_one (ps_ret (pe_ix ix_tup (pe_ix ix_list (pv 0) pe_int (fun _ _ => rfl)) (pe_op op_modN (pe_op op_sub (pv 1) (pe_callB call_len_seq (by rfl) T.n_len (by decide +kernel) (pa_cons (pe_ix ix_list (pv 0) pe_int (fun _ _ => rfl)) pa_nil))) (pe_callB call_len_seq (by rfl) T.n_len (by decide +kernel) (pa_cons (pe_ix ix_list (pv 0) pe_int (fun _ _ => rfl)) pa_nil))) (fun _ _ => rfl))))), ?_⟩
    refine ⟨_, rfl, _, rfl, q, _, _, _, rfl, rfl, SqL.of hq, rfl, f, _, rfl, .inr (SqT.of hf), _, _, rfl, rfl, _, rfl, ?_⟩
    refine ite2 (fun g => ?_) (fun g => ?_)
    · have g1 : k < fs.length := by
        have : (k : Int) < ((fs.map V.int).length : Int) := of_decide_eq_true g
        rw [List.length_map] at this
        omega
      exact ⟨_, rfl, q, _, _, _, rfl, rfl, SqL.of hq, rfl, _, rfl, f, _, _, _, rfl, rfl, SqT.of hf, wAt_first g1, kk⟩
    · have g1 : ¬ k < fs.length := fun z => g (decide_eq_true (show (k : Int) < ((fs.map V.int).length : Int) by rw [List.length_map]; omega))
      refine ⟨_, rfl, q, _, _, _, rfl, rfl, SqL.of hq, rfl, _, rfl, _, rfl, q, _, _, _, rfl, rfl, SqL.of hq, rfl, f, _, rfl, .inr (SqT.of hf), _, _, rfl, rfl, _, rfl, q, _, _, _, rfl, rfl, SqL.of hq, rfl, l, _, rfl, .inr (SqT.of hl), _, _, rfl, rfl, (show ((ls.map V.int).length : Int) ≠ 0 by rw [List.length_map]; omega), ?_⟩
      refine ⟨l, _, _, _, rfl, rfl, SqT.of hl, ?_, kk⟩
      rw [List.length_map, List.length_map]
      exact wAt_loop g1 hl1

theorem SumOk.w1 {b t : Int} {fs ls : List Int} (h : SumOk b t fs ls) : Wts 0 fs := ⟨Nat.zero_le _, by have := h.lf; omega, fun z hz => ⟨by have := h.wf z hz; unfold WOk at this; omega, by have := h.wf z hz; unfold WOk at this; omega⟩⟩
theorem SumOk.w2 {b t : Int} {fs ls : List Int} (h : SumOk b t fs ls) : Wts 1 ls := ⟨h.l1, h.l2, fun z hz => ⟨by have := h.wl z hz; unfold WOk at this; omega, by have := h.wl z hz; unfold WOk at this; omega⟩⟩

/-! ### the least number whose rest is not kept, by its own words -/
def LeastR (B : Nat) (u : Nat → Int) (d : Int) : Option Nat → Prop
  | some n => (rp B u d n).1 ≠ (rp B u d n).2 ∧ ∀ y, y < n → (rp B u d y).1 = (rp B u d y).2
  | none => ∀ n, (rp B u d n).1 = (rp B u d n).2
section
variable {B : Nat} {u : Nat → Int} {d : Int}
theorem keep_low (hB : 2 ≤ B) : ∀ k, (∀ j, j < k → badP (B : Int) d u j = false) → ∀ y, y < B ^ k → (rp B u d y).1 = (rp B u d y).2
  | 0, _, y, hy => by
    obtain rfl : y = 0 := by
      rw [Nat.pow_zero] at hy
      omega
    unfold rp
    rw [tot_zero]
    rfl
  | k + 1, h, y, hy => by
    obtain ⟨c, x, hc, hx, rfl⟩ := split_at hB hy
    have ih := keep_low hB k (fun j hj => h j (by omega)) x hx
    have hb := h k (by omega)
    unfold badP at hb
    have hd : d ∣ (B : Int) ^ k - u k := by simpa using hb
    rw [rp_shp hB hc hx]
    show ((rp B u d x).1 + (c : Int) * ((B : Int) ^ k % d)) % d = ((rp B u d x).2 + (c : Int) * u k) % d
    rw [← ih]
    apply Int.emod_eq_emod_iff_emod_sub_eq_zero.mpr
    apply Int.emod_eq_zero_of_dvd
    obtain ⟨m, hm⟩ := hd
    have dm := Int.mul_ediv_add_emod ((B : Int) ^ k) d
    generalize (B : Int) ^ k = P at *
    generalize P % d = r at *
    generalize P / d = w at *
    refine ⟨(c : Int) * (m - w), ?_⟩
    have e1 : r - u k = d * (m - w) := by
      rw [Int.mul_sub, ← hm]
      omega
    rw [← Int.mul_assoc, Int.mul_comm d (c : Int), Int.mul_assoc, ← e1, Int.mul_sub]
    omega
theorem keep_bad (hB : 2 ≤ B) {k : Nat} (h : badP (B : Int) d u k = true) : (rp B u d (B ^ k)).1 ≠ (rp B u d (B ^ k)).2 := by
  have e := rp_shp (B := B) (u := u) (d := d) hB (k := k) (c := 1) (x := 0) (by omega) (Nat.pow_pos (by omega))
  rw [Nat.one_mul, Nat.add_zero] at e
  rw [e]
  unfold rp shp
  rw [tot_zero]
  show ((0 : Int) % d + (1 : Int) * ((B : Int) ^ k % d)) % d ≠ ((0 : Int) % d + (1 : Int) * u k) % d
  rw [Int.zero_emod, Int.zero_add, Int.zero_add, Int.one_mul, Int.one_mul, Int.emod_emod]
  intro z
  have := Int.emod_eq_emod_iff_emod_sub_eq_zero.mp z
  unfold badP at h
  have h : ¬ d ∣ (B : Int) ^ k - u k := by simpa using h
  exact h (Int.dvd_of_emod_eq_zero this)
end
theorem leastR_of {B : Nat} {d : Int} {L : List Int} {a : Nat} (pr : PowR (B : Int) d L a) {fs ls : List Int} (hl : 0 < ls.length) (hB : 2 ≤ B) :
    LeastR B (wAt fs ls) d (((List.range (turnN fs ls L a)).find? (badP (B : Int) d (wAt fs ls))).map fun k => B ^ k) := by
  cases e : (List.range (turnN fs ls L a)).find? (badP (B : Int) d (wAt fs ls)) with
  | none =>
    rw [List.find?_eq_none] at e
    have all := bad_turn pr (fs := fs) hl fun k hk => by
      have := e k (List.mem_range.mpr hk)
      simpa using this
    exact fun n => keep_low hB n (fun j _ => all j) n (Nat.lt_pow_self (by omega))
  | some k =>
    rw [List.find?_range_eq_some] at e
    exact ⟨keep_bad hB e.1, keep_low hB k fun j hj => by simpa using e.2.2 j hj⟩
theorem due_opt (B : Nat) (o : Option Nat) : dueV (B : Int) o = optV (o.map fun k => B ^ k) := by
  cases o with
  | none => rfl
  | some k =>
    show V.int ((B : Int) ^ k) = V.int ((B ^ k : Nat) : Int)
    rw [Int.natCast_pow]
theorem leastF_any (B : Nat) (u : Nat → Int) (d : Int) : ∃ o, LeastF B u d o := by
  rcases Classical.em (∃ n, mism (rp B u d n) = true) with ⟨n, h⟩ | h
  · induction n using Nat.strongRecOn with
    | ind n ih =>
      rcases Classical.em (∃ y, y < n ∧ mism (rp B u d y) = true) with ⟨y, h1, h2⟩ | z
      · exact ih y h1 h2
      · exact ⟨some n, h, fun y hy => by
          cases e : mism (rp B u d y) with
          | false => rfl
          | true => exact absurd ⟨y, hy, e⟩ z⟩
  · exact ⟨none, fun n => by
      cases e : mism (rp B u d n) with
      | false => rfl
      | true => exact absurd ⟨n, e⟩ h⟩
theorem leastR_uniq {B : Nat} {u : Nat → Int} {d : Int} : ∀ {o o2 : Option Nat}, LeastR B u d o → LeastR B u d o2 → o = o2
  | none, none, _, _ => rfl
  | none, some n, h, h2 => absurd (h n) h2.1
  | some n, none, h, h2 => absurd (h2 n) h.1
  | some n, some m, h, h2 => by
    rcases Nat.lt_trichotomy n m with z | z | z
    · exact absurd (h2.2 n z) h.1
    · rw [z]
    · exact absurd (h.2 m z) h2.1
theorem leastF_uniq {B : Nat} {u : Nat → Int} {d : Int} : ∀ {o o2 : Option Nat}, LeastF B u d o → LeastF B u d o2 → o = o2
  | none, none, _, _ => rfl
  | none, some n, h, h2 => by have := h2.1; rw [h n] at this; cases this
  | some n, none, h, h2 => by have := h.1; rw [h2 n] at this; cases this
  | some n, some m, h, h2 => by
    rcases Nat.lt_trichotomy n m with z | z | z
    · have := h.1; rw [h2.2 n z] at this; cases this
    · rw [z]
    · have := h2.1; rw [h.2 m z] at this; cases this
theorem leastR_hit {B : Nat} {u : Nat → Int} {d : Int} {o : Option Nat} (h : LeastR B u d o) (n : Nat) (g : (rp B u d n).1 ≠ (rp B u d n).2) : ∃ j, o = some j ∧ j ≤ n := by
  cases o with
  | none => exact absurd (h n) g
  | some j =>
    refine ⟨j, rfl, ?_⟩
    rcases Nat.lt_or_ge n j with z | z
    · exact absurd (h.2 n z) g
    · exact z
theorem leastF_hit {B : Nat} {u : Nat → Int} {d : Int} {o : Option Nat} (h : LeastF B u d o) (n : Nat) (g : mism (rp B u d n) = true) : ∃ j, o = some j ∧ j ≤ n := by
  cases o with
  | none =>
    have h : ∀ n, mism (rp B u d n) = false := h
    rw [h n] at g
    cases g
  | some j =>
    refine ⟨j, rfl, ?_⟩
    rcases Nat.lt_or_ge n j with z | z
    · rw [h.2 n z] at g
      cases g
    · exact z

/-! ### the law's pairs of rests -/
/-- the hash of a pair of small numbers -/
def hp2 (a b : Int) : Int := reduceHash (Builtin.Tuple.tupleHashOf [hashInt a, hashInt b])
def hpL : List Int := [-8458139203682520985, -1950498447580522560, 7204814214171964562, -4734289103435588629, 1773351652666409796, -3119722376306286570, -1010439003188656273, -5903513032161352639, 604127723940645786, -4288946305032050580, -2179662931914420283, 4327977824187578142, -5164621852614943976, 8389048192121911274, -3550055125485641917, -1440771752368011620, -6333845781340707986, 173794974761290439, -4719279054211405927, -2609995681093775630, 3897645075008222795, -995428953964473571, 5512211802137524854, -3779219609819539640, 4685526799349444076, 6794810172467074373, 1901736143494378007, 8409376899596376432, 3516302870623680066, -8422800446983873125, -6313517073866242828, 7240152970870612422, -4698950346736940769, 8854719697999914481, -7482741002592006838, 6070929042144848412, 2248468952609198383, 8756109708711196808, 3863035679738500442, 5972319052856130739, 1079245023883434373, 7586885779985432798, -4352217537622120393, 4803095124130366729, -7136008193477186462, 6417661851259668788, -5521441466347884403, 3633871195404602719, -6348126469135965181, 159514286966033244, -9131917124991031250, -2624276368889032825, 3883364387212965600, -1009709641759730766, 1099573731357899531, -3793500297614796835, 2714140458487201590, -2178933570485494776, -69650197367864479, 6437990558734133946, -3054609118068388172, 3453031638033610253, -5838399773923454241, 669240982178544184, -4223833046794152182, 2283807709307846243, -7007623702649218251, -499982946547219826, 6007657809554778599, 1114583780582082233, 7622224536684080658, -1669206875272983836, -5491666964808633865, 8062003079928221385, -3877100237679331806, 2630540518422666619, -6660890893534397875, -153250137432399450, -5046324166405095816, 1461316589696902609, 3570599962814532906, -1322474066158163460, 5185166689943834965, 292092660971138599, 4358481687155754187, -7580621630451799004, 5973048414285056246, 8082331787402686543, 3189257758429990177, -8749845559177563014, -2242204803075564589, 6913107858676922533, -5025995458930630658, 8527674585806224592, -3411428731801328599, 5743883929951158523, 1921423840415508494, 8429064596517506919, 3535990567544810553, -8403112750062742638, 752199911689744484, 7259840667791742909, -4679262649815810282, 8874407394921044968, -7463053305670876351, 6090616739065978899, -5848486578541574292, 7705183466195280958, -6675171581329655070, -167530825227656645, -5060604854200353011, -2951321481082722714, 3556319275019275711, -1336754753953420655, 5170886002148577770, -4120545409808486724, 2387095346293511701, -2505978682679184665, 4001662073422813760, 6110945446540444057, -3381654230262078061, 3125986525839920364, -1767087503132776002, 342195869984854295, -4550878158987842071, 1956762597114156354, -2936311431858540012, 3571329324243458413, 5680612697361088710, 787538668388392344, 7295179424490390769, 2402105395517694403, 6468494421702309991, -5470608895905243200, 3684703765847243922, -8254399551760309269, 5299270492976545981, -6639832824631007210, -132192068529008785, 9023120593223478337, -2915982724384074854, -7809056753356771220, -1301415997254772795, 807867375862857502]
theorem hp2_vals : ((List.range 144).all fun (k : Nat) => decide (hp2 ((k / 12 : Nat) : Int) ((k % 12 : Nat) : Int) = hpL.getD k 0)) = true := by decide +kernel
theorem hpL_nodup : hpL.Nodup := by decide +kernel
theorem hp2_kp (P : Program) (w : World) (g : Pr) : tupleKeyHash (mixKind P w) (kp g) = hp2 g.1 g.2 := rfl
theorem hp2_inj {g h : Pr} (hg : 0 ≤ g.1 ∧ g.1 < 12 ∧ 0 ≤ g.2 ∧ g.2 < 12) (hh : 0 ≤ h.1 ∧ h.1 < 12 ∧ 0 ≤ h.2 ∧ h.2 < 12) (e : hp2 g.1 g.2 = hp2 h.1 h.2) : g = h := by
  have key : ∀ {x : Pr}, 0 ≤ x.1 ∧ x.1 < 12 ∧ 0 ≤ x.2 ∧ x.2 < 12 → ∃ k, k < 144 ∧ x = (((k / 12 : Nat) : Int), ((k % 12 : Nat) : Int)) := fun {x} ⟨h1, h2, h3, h4⟩ => by
    refine ⟨12 * x.1.toNat + x.2.toNat, by omega, Prod.ext ?_ ?_⟩
    · show x.1 = (((12 * x.1.toNat + x.2.toNat) / 12 : Nat) : Int)
      omega
    · show x.2 = (((12 * x.1.toNat + x.2.toNat) % 12 : Nat) : Int)
      omega
  obtain ⟨i, hi, rfl⟩ := key hg
  obtain ⟨j, hj, rfl⟩ := key hh
  have v : ∀ k, k < 144 → hp2 ((k / 12 : Nat) : Int) ((k % 12 : Nat) : Int) = hpL.getD k 0 := fun k hk => of_decide_eq_true (List.all_eq_true.mp hp2_vals k (List.mem_range.mpr hk))
  have hl : hpL.length = 144 := rfl
  have e2 : hpL[i]? = hpL[j]? := by
    have e : hp2 ((i / 12 : Nat) : Int) ((i % 12 : Nat) : Int) = hp2 ((j / 12 : Nat) : Int) ((j % 12 : Nat) : Int) := e
    rw [v i hi, v j hj, List.getD_eq_getElem?_getD, List.getD_eq_getElem?_getD, List.getElem?_eq_getElem (by omega), List.getElem?_eq_getElem (by omega)] at e
    rw [List.getElem?_eq_getElem (by omega), List.getElem?_eq_getElem (by omega)]
    exact congrArg some e
  rw [(List.getElem?_inj (by omega) hpL_nodup).mp e2]
def entP (g : Pr) : List Key × V := (kp g, .bl true)
theorem hash_nodup (P : Program) (w : World) {Ks : List Pr} (h1 : Ks.Nodup) (h2 : ∀ g ∈ Ks, 0 ≤ g.1 ∧ g.1 < 12 ∧ 0 ≤ g.2 ∧ g.2 < 12) : ((Ks.map entP).map fun x => tupleKeyHash (mixKind P w) x.1).Nodup := by
  show List.Pairwise (· ≠ ·) _
  rw [List.pairwise_map, List.pairwise_map]
  refine List.Pairwise.imp_of_mem (fun {x y} hx hy n e => n (hp2_inj (h2 x hx) (h2 y hy) ?_)) h1
  have e1 : tupleKeyHash (mixKind P w) (kp x) = tupleKeyHash (mixKind P w) (kp y) := e
  rw [hp2_kp, hp2_kp] at e1
  exact e1
theorem entP_get (g : Pr) : ∀ Ks : List Pr, valV (Ks.map entP) (kp g) = if g ∈ Ks then some (.bl true) else none
  | [] => rfl
  | x :: Ks => by
    have ih := entP_get g Ks
    unfold valV at ih ⊢
    rw [List.map_cons, List.find?_cons]
    by_cases e : x = g
    · subst e
      rw [if_pos List.mem_cons_self, show decide ((entP x).1 = kp x) = true from decide_eq_true rfl]
      rfl
    · rw [show decide ((entP x).1 = kp g) = false from decide_eq_false fun z => e (kp_inj z)]
      simp only [List.mem_cons]
      by_cases m : g ∈ Ks
      · rw [if_pos (.inr m)]
        rw [if_pos m] at ih
        exact ih
      · rw [if_neg (by rintro (z | z); exact e z.symm; exact m z)]
        rw [if_neg m] at ih
        exact ih
def addP (Ks : List Pr) (g : Pr) : List Pr := if g ∈ Ks then Ks else Ks ++ [g]
theorem putP (Ks : List Pr) (g : Pr) : putK (Ks.map entP) (kp g) (.bl true) = (addP Ks g).map entP := by
  unfold addP
  by_cases m : g ∈ Ks
  · rw [if_pos m]
    unfold putK
    have h : ((Ks.map entP).any fun x => decide (x.1 = kp g)) = true := List.any_eq_true.mpr ⟨entP g, List.mem_map_of_mem m, decide_eq_true rfl⟩
    rw [if_pos h, List.map_map]
    refine List.map_congr_left fun x hx => ?_
    show (if (entP x).1 = kp g then ((entP x).1, V.bl true) else entP x) = entP x
    split <;> rfl
  · rw [if_neg m, putK_new _ (by rw [entP_get, if_neg m]), List.map_append]
    rfl
theorem addP_nodup {Ks : List Pr} (h : Ks.Nodup) (g : Pr) : (addP Ks g).Nodup := by
  unfold addP
  split
  · exact h
  · rename_i m
    exact List.nodup_append.mpr ⟨h, List.nodup_cons.mpr ⟨List.not_mem_nil, List.nodup_nil⟩, fun x hx y hy e => m (by rw [← List.mem_singleton.mp hy, ← e]; exact hx)⟩
theorem addP_mem {Ks : List Pr} {g x : Pr} : x ∈ addP Ks g ↔ x ∈ Ks ∨ x = g := by
  unfold addP
  split
  · rename_i m
    exact ⟨.inl, fun z => z.elim id fun e => e ▸ m⟩
  · rw [List.mem_append, List.mem_singleton]
section
variable {B : Nat} {u : Nat → Int} {d : Int}
theorem inR_bd (hd : 1 ≤ d) {j : Nat} {g : Int × Int} (h : InR B u d j g) : 0 ≤ g.1 ∧ g.1 < d ∧ 0 ≤ g.2 ∧ g.2 < d := by
  obtain ⟨y, _, rfl⟩ := h
  exact rp_bd hd y
theorem idle_of (hB : 2 ≤ B) {k : Nat} (h : ∀ g, InR B u d (k + 1) g → InR B u d k g) : Idle B u d k := by
  intro n h1 h2
  obtain ⟨y, hy, e⟩ := h _ ⟨n, h2, rfl⟩
  cases q : fo (rp B u d) n with
  | false => rfl
  | true => exact absurd e ((fo_iff _).mp q y (by omega))
theorem idle_back1 (hB : 2 ≤ B) {k : Nat} (h : Idle B u d k) {g : Int × Int} (hg : InR B u d (k + 1) g) : InR B u d k g :=
  idle_back hB 1 (fun i a b => by
    obtain rfl : i = k := by omega
    exact h) hg
/-- so many of a block are enough -/
theorem shk_low (hd : 1 ≤ d) {k : Nat} (c : Nat) (g : Int × Int) : ∃ f : Nat, f < d.toNat ∧ f ≤ c ∧ shk B u d k c g = shk B u d k f g := by
  refine ⟨c % d.toNat, Nat.mod_lt _ (by omega), Nat.mod_le _ _, ?_⟩
  have e := Nat.div_add_mod c d.toNat
  have key : ∀ q f : Nat, shk B u d k ((d.toNat * q + f : Nat) : Int) g = shk B u d k (f : Int) g := by
    intro q f
    induction q with
    | zero => rw [Nat.mul_zero, Nat.zero_add]
    | succ q ih =>
      rw [← ih, show ((d.toNat * (q + 1) + f : Nat) : Int) = ((d.toNat * q + f : Nat) : Int) + d by rw [Nat.mul_succ]; omega]
      exact shp_wrap _ _
  have := key (c / d.toNat) (c % d.toNat)
  rwa [e] at this
/-- the pairs Ks are those of so many blocks -/
structure PairK (B : Nat) (u : Nat → Int) (d : Int) (k : Nat) (Ks : List Pr) : Prop where
  nodup : Ks.Nodup
  mem : ∀ g, g ∈ Ks ↔ InR B u d k g
theorem PairK.le (h : PairK B u d k Ks) (d1 : 1 ≤ d) (d2 : d ≤ 12) : Ks.length ≤ 144 := by
  have := pigL (boxI d) Ks h.nodup fun q hq => mem_boxI (inR_bd d1 ((h.mem q).mp hq))
  unfold boxI at this
  rw [List.length_map, List.length_range] at this
  have : d.toNat * d.toNat ≤ 12 * 12 := Nat.mul_le_mul (by omega) (by omega)
  omega
/-- what has been put to them: of the pairs ahead of the j-th all, of the j-th so many -/
structure MoreK (B : Nat) (u : Nat → Int) (d : Int) (k : Nat) (Ks Ms : List Pr) (j f : Nat) : Prop where
  nodup : Ms.Nodup
  pre : ∃ ex, Ms = Ks ++ ex
  sound : ∀ g ∈ Ms, InR B u d (k + 1) g
  done : ∀ i x, i < j → Ks[i]? = some x → ∀ e : Nat, 1 ≤ e → e < B → e < d.toNat → shk B u d k e x ∈ Ms
  part : ∀ x, Ks[j]? = some x → ∀ e : Nat, 1 ≤ e → e < f → shk B u d k e x ∈ Ms
theorem MoreK.start (hB : 2 ≤ B) (h : PairK B u d k Ks) : MoreK B u d k Ks Ks 0 1 :=
  ⟨h.nodup, ⟨[], (List.append_nil _).symm⟩, fun g hg => inR_le hB (Nat.le_succ k) ((h.mem g).mp hg), fun i _ hi => absurd hi (Nat.not_lt_zero _), fun _ _ e h1 h2 => absurd h1 (by omega)⟩
theorem MoreK.put (h : MoreK B u d k Ks Ms j f) (hK : PairK B u d k Ks) (hB : 2 ≤ B) {x : Pr} (hx : Ks[j]? = some x) (h1 : 1 ≤ f) (h2 : f < B) : MoreK B u d k Ks (addP Ms (shk B u d k f x)) j (f + 1) := by
  obtain ⟨ex, hex⟩ := h.pre
  refine ⟨addP_nodup h.nodup _, ?_, fun g hg => ?_, fun i y hi hy e a b c => addP_mem.mpr (.inl (h.done i y hi hy e a b c)), fun y hy e a b => ?_⟩
  · unfold addP
    split
    · exact ⟨ex, hex⟩
    · exact ⟨ex ++ [shk B u d k f x], by rw [hex, List.append_assoc]⟩
  · rcases addP_mem.mp hg with z | z
    · exact h.sound g z
    · rw [z]
      exact (inR_succ hB).mpr ⟨f, x, h2, (hK.mem x).mp (List.mem_of_getElem? hx), rfl⟩
  · rw [hx] at hy
    cases hy
    rcases Nat.lt_or_ge e f with z | z
    · exact addP_mem.mpr (.inl (h.part x hx e a z))
    · exact addP_mem.mpr (.inr (by rw [show e = f by omega]))
theorem MoreK.le (h : MoreK B u d k Ks Ms j f) (d1 : 1 ≤ d) (d2 : d ≤ 12) : Ms.length ≤ 144 := by
  have := pigL (boxI d) Ms h.nodup fun q hq => mem_boxI (inR_bd d1 (h.sound q hq))
  unfold boxI at this
  rw [List.length_map, List.length_range] at this
  have : d.toNat * d.toNat ≤ 12 * 12 := Nat.mul_le_mul (by omega) (by omega)
  omega
theorem MoreK.next (h : MoreK B u d k Ks Ms j f) (hf : B ≤ f ∨ d.toNat ≤ f) : MoreK B u d k Ks Ms (j + 1) 1 := by
  refine ⟨h.nodup, h.pre, h.sound, fun i x hi hx e a b c => ?_, fun _ _ e h1 h2 => absurd h1 (by omega)⟩
  rcases Nat.lt_or_ge i j with z | z
  · exact h.done i x z hx e a b c
  · rw [show i = j by omega] at hx
    exact h.part x hx e a (by omega)
theorem MoreK.end_ (h : MoreK B u d k Ks Ms j f) (hK : PairK B u d k Ks) (hB : 2 ≤ B) (hd : 1 ≤ d) (hj : j = Ks.length) : PairK B u d (k + 1) Ms := by
  refine ⟨h.nodup, fun g => ⟨h.sound g, fun hg => ?_⟩⟩
  obtain ⟨c, x, hc, hx, rfl⟩ := (inR_succ hB).mp hg
  obtain ⟨e, e1, e2, ee⟩ := shk_low (B := B) (u := u) hd (k := k) c x
  rw [ee]
  have mx := (hK.mem x).mpr hx
  obtain ⟨i, hi⟩ := List.mem_iff_getElem?.mp mx
  rcases Nat.eq_zero_or_pos e with z | z
  · subst z
    rw [show shk B u d k ((0 : Nat) : Int) x = x from inR_red hx]
    obtain ⟨ex, hex⟩ := h.pre
    rw [hex]
    exact List.mem_append_left _ mx
  · exact h.done i x (by rw [hj]; exact (List.getElem?_eq_some_iff.mp hi).1) hi e z (by omega) e1
theorem MoreK.idle (h : MoreK B u d k Ks Ms j f) (hK : PairK B u d k Ks) (hM : PairK B u d (k + 1) Ms) (hB : 2 ≤ B) : Ms.length = Ks.length ↔ Idle B u d k := by
  obtain ⟨ex, hex⟩ := h.pre
  constructor
  · intro e
    refine idle_of hB fun g hg => (hK.mem g).mp ?_
    have : ex = [] := by
      rw [hex, List.length_append] at e
      exact List.length_eq_zero_iff.mp (by omega)
    rw [← List.append_nil Ks, ← this, ← hex]
    exact (hM.mem g).mpr hg
  · intro e
    have : ex = [] := by
      rw [List.eq_nil_iff_forall_not_mem]
      intro g hg
      have m : g ∈ Ms := by
        rw [hex]
        exact List.mem_append_right _ hg
      have := (hK.mem g).mpr (idle_back1 hB e (h.sound g m))
      have nd := h.nodup
      rw [hex] at nd
      exact (List.nodup_append.mp nd).2.2 g this g hg rfl
    rw [hex, this, List.append_nil]
end

/-! ### the law -/
theorem powR_le {B d : Int} {L : List Int} {a : Nat} (h : PowR B d L a) (d1 : 1 ≤ d) (d2 : d ≤ 12) : L.length ≤ 12 := by
  have := pigL ((List.range 12).map fun (i : Nat) => (i : Int)) L h.nodup fun x hx => by
    obtain ⟨j, hj⟩ := List.mem_iff_getElem?.mp hx
    have e := h.at_ j (List.getElem?_eq_some_iff.mp hj).1
    rw [hj] at e
    have e := Option.some.inj e
    have h1 := Int.emod_nonneg (B ^ j) (b := d) (by omega)
    have h2 := Int.emod_lt_of_pos (B ^ j) (show 0 < d by omega)
    exact List.mem_map.mpr ⟨x.toNat, List.mem_range.mpr (by omega), by omega⟩
  rwa [List.length_map, List.length_range] at this
theorem emod_step (P B d : Int) : P * B % d = P % d * B % d := by
  conv => rhs; rw [Int.mul_emod, Int.emod_emod]
  exact Int.mul_emod _ _ _
theorem m_isN {g : V → V} : R2Mono (fun x y H Q => y = V.non ∧ Q (g x) H) := fun _ _ _ _ _ h ⟨e, q⟩ => ⟨e, h _ _ q⟩
/-- where the law saw a failure: within so many blocks, not within one less -/
def FaOk (B : Nat) (u : Nat → Int) (d : Int) (kk : Nat) : Option Nat → Prop
  | none => ∀ n, n < B ^ kk → mism (rp B u d n) = false
  | some j => j = kk ∧ 1 ≤ kk ∧ (∃ n, n < B ^ kk ∧ mism (rp B u d n) = true) ∧ ∀ n, n < B ^ (kk - 1) → mism (rp B u d n) = false
def sp_law (K : PySem.W.Frag) : Sp := fun vs H Q _ => ∃ (a : Addr) (ns : List Int), vs = [.ref a] ∧ Scr K H a (ns.map V.int) ∧ ns.length ≤ 63 ∧ ∀ H', Q (.bl true) H'
theorem ok_law (T : Tx P K mg) : FnOk P w K mg base CX0 lv_law T.a_law T.d_law ["_law_script"] (sp_law K) := by
  refine T.F_law.ok sc_law (fun vs H Q E h => ?_) (fun cdv A outer s H vs Q E hr h => ?_)
  · obtain ⟨a, ns, rfl, _⟩ := h
    rfl
  · obtain ⟨a, ns, rfl, hS, hlen, k⟩ := h
    refine ⟨_, (Evl.pss_cut (ps_set (i := 1) sc_law.nd rfl (Or.inl rfl) (pe_lst (pa_cons (pv 0) (pa_cons pe_int (pa_cons pe_int (pa_cons pe_int pa_nil))))))
      (Evl.pss_cut (ps_set (i := 2) sc_law.nd rfl (Or.inl rfl) (pe_op op_add pe_int (pe_call (ok__law_taken T) (hr.mono (by decide)) rfl T.g__law_taken T.F__law_taken.kp T.b__law_taken .nil pass0 (pa_cons (pv 1) (pa_cons pe_int pa_nil)))))
      (Evl.pss_cut (ps_set (i := 3) sc_law.nd rfl (Or.inl rfl) (pe_call (ok__law_sum T) (hr.mono (by decide)) rfl T.g__law_sum T.F__law_sum.kp T.b__law_sum .nil pass0 (pa_cons (pv 1) (pa_cons (pv 2) pa_nil))))
      (Evl.pss_cut (ps_par3 (i := 4) (j := 5) (l := 6) rfl sc_law.nd rfl rfl rfl (by decide) (by decide) (by decide) rfl rfl rfl (pa_cons (pe_call (ok__law_power T) (hr.mono (by decide)) rfl T.g__law_power T.F__law_power.kp T.b__law_power .nil pass0 (pa_cons (pe_ix ix_list (pv 3) pe_int (fun _ _ => rfl)) (pa_cons (pe_ix ix_list (pv 3) pe_int (fun _ _ => rfl)) pa_nil))) (pa_cons (pe_op op_modN pe_int (pv 2)) (pa_cons pe_int pa_nil))) (by rfl))
      (Evl.pss_cut (ps_par3 (i := 7) (j := 8) (l := 9) rfl sc_law.nd rfl rfl rfl (by decide) (by decide) (by decide) rfl rfl rfl (pa_cons (pe_disp1T (hu_of hr) (pe_tup (pa_cons pe_int (pa_cons pe_int pa_nil))) pe_bl) (pa_cons pe_non (pa_cons pe_int pa_nil))) (by rfl))
      (Evl.pss_cut (ps_while PassesOwn.never (PW.pt (pw_and (pt_cmpR op_isN (pv 8) pe_non (nomark _)) (pw_and1 (pt_cmpR op_lt (pv 9) (pe_op op_add pe_int (pe_op op_mul pe_int pe_int)) (nomark _))))) (Evl.pss_cut (ps_par (i := 10) (j := 11) rfl sc_law.nd rfl rfl (by decide) rfl rfl (pa_cons (pe_op op_modN (pe_call (ok__law_weight T) (hr.mono (by decide)) rfl T.g__law_weight T.F__law_weight.kp T.b__law_weight .nil pass0 (pa_cons (pv 3) (pa_cons (pv 6) pa_nil))) (pv 2)) (pa_cons (pe_callTy (call_dictT (Nat.lt_of_le_of_lt (Nat.add_le_add_left (by decide) _) hr.units)) (by rfl) T.n_dict (by decide +kernel) (pa_cons (pv 7) pa_nil)) pa_nil)) (by rfl))
      (Evl.pss_cut (ps_lock (ps_for PassesOwn.never rfl (pi_keys (pv 7)) (pg_tup rfl (pgs_cons (pg_name (i := 12) sc_law.nd rfl (Or.inl rfl)) (pgs_cons (pg_name (i := 13) sc_law.nd rfl (Or.inl rfl)) pgs_nil))) (pss_one (ps_for PassesOwn.never rfl (pi_range2 (by rfl) T.n_range (pa_cons pe_int (pa_cons (pe_callB (call_min2 rfl) (by rfl) T.n_min (by decide +kernel) (pa_cons (pv 4) (pa_cons (pv 2) pa_nil))) pa_nil))) (pg_name (i := 14) sc_law.nd rfl (Or.inl rfl)) (pss_one (ps_dput (hu_of hr) (pv 11) (pe_tup (pa_cons (pe_op op_modN (pe_op op_add (pv 12) (pe_op op_mul (pv 14) (pv 5))) (pv 2)) (pa_cons (pe_op op_modN (pe_op op_add (pv 13) (pe_op op_mul (pv 14) (pv 10))) (pv 2)) pa_nil))) pe_bl rfl))))))
      (Evl.pss_cut (ps_set (i := 9) sc_law.nd rfl (Or.inl rfl) (pe_ifExp (pt_cmpR op_eq (pe_callB call_len_dT (by rfl) T.n_len (by decide +kernel) (pa_cons (pv 11) pa_nil)) (pe_callB call_len_dT (by rfl) T.n_len (by decide +kernel) (pa_cons (pv 7) pa_nil)) (nomark _)) (pe_op op_add (pv 9) pe_int) pe_int))
      (Evl.pss_cut (ps_par3 (i := 7) (j := 5) (l := 6) rfl sc_law.nd rfl rfl rfl (by decide) (by decide) (by decide) rfl rfl rfl (pa_cons (pv 11) (pa_cons (pe_op op_modN (pe_op op_mul (pv 5) (pv 4)) (pv 2)) (pa_cons (pe_op op_add (pv 6) pe_int) pa_nil))) (by rfl))
      (pss_one (ps_if (pt_val (pe_callB (cr_any rfl) (by rfl) T.n_any (by decide +kernel) (pa_cons (pe_lock (pe_lc (own := [("_law_rest", 12), ("_law_other", 13)]) (tt := tYes) (g := gTup K 2 (gCons (gName 12) (gCons (gName 13) gNil))) rfl sc_law.nd (pi_keys (pv 7)) (blkOk_by (own := [("_law_rest", 12), ("_law_other", 13)]) (N := ["_law_script", "_law_line", "_law_d", "_law_told", "_law_block", "_law_unit", "_law_at", "_law_pairs", "_law_fails_at", "_law_quiet", "_law_weight_here", "_law_more", "_law_rest", "_law_other", "_law_figure", "_law_fail"]) (sc := defScope s_law) (by decide +kernel)) (fun _ _ _ _ _ => pg_tup rfl (pgs_cons (pg_name (i := 12) sc_law.nd rfl (Or.inl rfl)) (pgs_cons (pg_name (i := 13) sc_law.nd rfl (Or.inl rfl)) pgs_nil))) (fun _ _ _ _ _ => pts_nil) (fun _ _ _ _ _ => (pe_cmpR op_ne (pe_cmpR op_eq (pv 12) pe_int (nomark _)) (pe_cmpR op_eq (pv 13) pe_int (nomark _)) (nomark _))))) pa_nil))) (pss_one (ps_set (i := 8) sc_law.nd rfl (Or.inl rfl) (pv 6))) pss_nil)))))))
      (Evl.pss_cut (ps_set (i := 15) sc_law.nd rfl (Or.inl rfl) (pe_call (ok_sum_fails T) (hr.mono (by decide)) rfl T.g_sum_fails T.F_sum_fails.kp T.b_sum_fails .nil passL (pa_cons (pe_make T.mk_Sum (ok_Sum___init__ T) (hr.mono (by decide)) rfl T.g_Sum T.b_Sum___init__ .nil passL (pa_cons (pe_ix ix_list (pv 3) pe_int (fun _ _ => rfl)) (pa_cons (pe_ix ix_list (pv 3) pe_int (fun _ _ => rfl)) (pa_cons (pe_ix ix_list (pv 3) pe_int (fun _ _ => rfl)) (pa_cons (pe_ix ix_list (pv 3) pe_int (fun _ _ => rfl)) pa_nil))))) (pa_cons (pv 2) pa_nil))))
      (Evl.pss_cut (ps_if (pt_cmpR op_ne (pe_cmpR op_isN (pv 15) pe_non (nomark _)) (pe_cmpR op_isN (pv 8) pe_non (nomark _)) (nomark _)) (pss_one (ps_ret pe_bl)) pss_nil)
      (pss_one (ps_ret (pe_or (pe_cmpR op_isN (pv 15) pe_non (nomark _)) (pe_one (pe_chain op_le op_lt (pe_call (ok__law_power T) (hr.mono (by decide)) rfl T.g__law_power T.F__law_power.kp T.b__law_power .nil pass0 (pa_cons (pv 4) (pa_cons (pe_op op_sub (pv 8) pe_int) pa_nil))) (pv 15) (pe_call (ok__law_power T) (hr.mono (by decide)) rfl T.g__law_power T.F__law_power.kp T.b__law_power .nil pass0 (pa_cons (pv 4) (pa_cons (pv 8) pa_nil)))))))))))))))), ?_⟩
    refine ⟨fun σ H1 => ∃ r, RowAt K H1 r a ns ∧ σ = [some (.ref a), some (.ref r), none, none, none, none, none, none, none, none, none, none, none, none, none, none], ?_, ?_⟩
    · exact ⟨_, rfl, by show 4 ≤ sizeLine; decide, fun r hr0 => ⟨r, RowAt.start hr0 hS hlen (by decide) (by decide), rfl⟩⟩
    clear hS
    rintro σ H1 ⟨r, R1, rfl⟩
    refine ⟨fun σ H2 => ∃ d : Int, 1 ≤ d ∧ d ≤ 12 ∧ RowAt K H2 r a ns ∧ σ = [some (.ref a), some (.ref r), some (.int d), none, none, none, none, none, none, none, none, none, none, none, none, none], ?_, ?_⟩
    · exact ⟨_, rfl, r, a, ns, _, rfl, by decide, by decide, R1, fun v H3 v0 v1 R3 B3 => ⟨_, _, rfl, rfl, 1 + v, by omega, by omega, R3, rfl⟩⟩
    clear R1
    rintro σ H2 ⟨d, d1, d2, R2, rfl⟩
    have nd : d ≠ 0 := by omega
    have fm : ∀ x : Int, x.fmod d = x % d := fun x => Int.fmod_eq_emod_of_nonneg x (by omega)
    refine ⟨fun σ H3 => ∃ (q : Addr) (b t : Int) (fs ls : List Int), ToldAt H3 q b t fs ls ∧ SumOk b t fs ls ∧ σ = [some (.ref a), some (.ref r), some (.int d), some (.ref q), none, none, none, none, none, none, none, none, none, none, none, none], ?_, ?_⟩
    · refine ⟨_, rfl, _, rfl, r, a, ns, d, rfl, d1, by omega, R2, fun b t fs ls q f l H4 ok R4 B4 hq hf hl nqr hq0 => ?_⟩
      exact ⟨q, b, t, fs, ls, ⟨f, l, hq, hf, hl⟩, ok, rfl⟩
    clear R2
    rintro σ H3 ⟨q, b, t, fs, ls, hq, ok, rfl⟩
    obtain ⟨B1, B2⟩ := block_bd (t := t) ok.b1 ok.b2
    obtain ⟨B, hB⟩ : ∃ B : Nat, blockOf b t = (B : Int) := ⟨(blockOf b t).toNat, by omega⟩
    have hBn : (blockOf b t).toNat = B := by omega
    have hB2 : 2 ≤ B := by omega
    obtain ⟨f, l, e1, e2, e3⟩ := id hq
    refine ⟨fun σ H4 => H4 = H3 ∧ σ = [some (.ref a), some (.ref r), some (.int d), some (.ref q), some (.int (B : Int)), some (.int ((B : Int) ^ 0 % d)), some (.int ((0 : Nat) : Int)), none, none, none, none, none, none, none, none, none], ?_, ?_⟩
    · refine ⟨_, rfl, q, _, _, _, rfl, rfl, SqL.of e1, rfl, _, rfl, q, _, _, _, rfl, rfl, SqL.of e1, rfl, b, t, rfl, by have := ok.b1; omega, by have := ok.b2; omega, by have := ok.t1; omega, by have := ok.t2; omega, ?_⟩
      rw [pow_block ok.t1 ok.t2, hB]
      refine ⟨_, rfl, _, _, rfl, rfl, nd, _, _, _, rfl, rfl, ?_⟩
      rw [show V.int ((B : Int) ^ 0 % d) = V.int ((1 : Int).fmod d) from by rw [fm, Int.pow_zero]]
      rfl
    rintro σ H4 ⟨rfl, rfl⟩
    refine ⟨fun σ H5 => ∃ e : Addr, Same H4 H5 ∧ H4 e = none ∧ H5 e = some (.dT ([((0, 0) : Pr)].map entP)) ∧ σ = [some (.ref a), some (.ref r), some (.int d), some (.ref q), some (.int (B : Int)), some (.int ((B : Int) ^ 0 % d)), some (.int ((0 : Nat) : Int)), some (.ref e), some .non, some (.int ((0 : Nat) : Int)), none, none, none, none, none, none], ?_, ?_⟩
    · refine fun e he => ⟨by show 2 ≤ sizeLine; decide, fun ht hht => ⟨same_upd hht _ _ upd_same, ht, kp (0, 0), rfl, upd_same, _, _, _, rfl, e, fun c o g => ?_, he, upd_same, rfl⟩⟩
      have nc := ne_of_none g he
      rw [upd_ne nc]
      exact same_upd hht _ _ (same_upd he _ _ g)
    rintro σ H5 ⟨e, S5, ne0, he, rfl⟩
    obtain ⟨L, a0, pr⟩ : ∃ L a0, PowR (B : Int) d L a0 := by
      have := (pow_r ok.b1 ok.b2 ok.t1 ok.t2 d1 (by omega) (s := (simI (b ^ t.toNat) d 31 [] (1 % d)).1) (r := (simI (b ^ t.toNat) d 31 [] (1 % d)).2) rfl).1
      rw [pow_block ok.t1 ok.t2, hB] at this
      exact ⟨_, _, this⟩
    have hle := powR_le pr d1 d2
    have hlt := pr.lt
    have hM : max fs.length a0 ≤ 12 := by
      have := ok.lf
      omega
    have hL1 : 1 ≤ ls.length * (L.length - a0) := Nat.mul_pos ok.l1 (by omega)
    have hL2 : ls.length * (L.length - a0) ≤ 12 * 12 := Nat.mul_le_mul ok.l2 (by omega)
    have per := per_sum (B := B) (d := d) pr (fs := fs) (ls := ls) ok.l1
    generalize max fs.length a0 = M at *
    generalize ls.length * (L.length - a0) = Lp at *
    have far : ∀ j, M + d.toNat * Lp ≤ j → Idle B (wAt fs ls) d j := fun j hj => idle_far hB2 per hL1 d1 hj
    have fin : ∀ q, M + Lp ≤ q → (∀ j, j < q → q ≤ j + (M + Lp) → Idle B (wAt fs ls) d j) → (∀ n, n < B ^ q → mism (rp B (wAt fs ls) d n) = false) → LeastF B (wAt fs ls) d none := fun q h1 h2 h3 => leastF_none hB2 per hL1 h1 h2 h3
    have wb : ∀ q, -(10 ^ 6) ≤ wAt fs ls q ∧ wAt fs ls q ≤ 10 ^ 6 := fun q => wAt_bd ok.w1 ok.w2 q
    clear per pr
    have hdL : d.toNat * Lp ≤ 12 * (12 * 12) := Nat.mul_le_mul (by omega) hL2
    generalize d.toNat * Lp = dL at *
    have r0 : rp B (wAt fs ls) d 0 = (0, 0) := by
      unfold rp
      rw [tot_zero]
      simp
    have shv : ∀ (kk f : Nat) (g : Pr), (g.1 + (f : Int) * ((B : Int) ^ kk % d)).fmod d = (shk B (wAt fs ls) d kk f g).1 ∧ (g.2 + (f : Int) * (wAt fs ls kk % d)).fmod d = (shk B (wAt fs ls) d kk f g).2 := fun kk f g => by
      rw [fm, fm]
      refine ⟨rfl, ?_⟩
      show (g.2 + (f : Int) * (wAt fs ls kk % d)) % d = (g.2 + (f : Int) * wAt fs ls kk) % d
      rw [Int.add_emod, Int.mul_emod, Int.emod_emod, ← Int.mul_emod, ← Int.add_emod]
    refine ⟨fun σ H6 => ∃ (kk : Nat) (fa : Option Nat) (x5 x7 x9 x10 x11 x12 x13 x14 : Option V), Same H4 H6 ∧ kk ≤ 100000 ∧ FaOk B (wAt fs ls) d kk fa ∧ (fa = none → LeastF B (wAt fs ls) d none) ∧ σ = [some (.ref a), some (.ref r), some (.int d), some (.ref q), some (.int (B : Int)), x5, some (.int (kk : Int)), x7, some (optV fa), x9, x10, x11, x12, x13, x14, none], ?_, ?_⟩
    · refine while_by (fun σ H6 => ∃ (kk qq : Nat) (e : Addr) (Ks : List Pr) (fa : Option Nat) (x10 x11 x12 x13 x14 : Option V), Same H4 H6 ∧ H6 e = some (.dT (Ks.map entP)) ∧ PairK B (wAt fs ls) d kk Ks ∧ FaOk B (wAt fs ls) d kk fa ∧ qq ≤ kk ∧ (∀ j, kk ≤ j + qq → j < kk → Idle B (wAt fs ls) d j) ∧ kk ≤ M + dL + qq ∧ qq ≤ 168 ∧
          σ = [some (.ref a), some (.ref r), some (.int d), some (.ref q), some (.int (B : Int)), some (.int ((B : Int) ^ kk % d)), some (.int (kk : Int)), some (.ref e), some (optV fa), some (.int (qq : Int)), x10, x11, x12, x13, x14, none])
        (fun σ _ => match σ with | [_, _, _, _, _, _, some (.int q), _, _, _, _, _, _, _, _, _] => (M + dL + 168 + 1) - q.toNat | _ => 0) ?_ ?_ ?_
      · refine ⟨0, 0, e, [(0, 0)], none, none, none, none, none, none, S5, he, ⟨by simp, fun g => ?_⟩, ?_, Nat.le_refl _, fun j _ hj => absurd hj (Nat.not_lt_zero _), by omega, by omega, rfl⟩
        · rw [List.mem_singleton]
          constructor
          · intro z
            rw [z]
            exact ⟨0, Nat.pow_pos (by omega), r0⟩
          · rintro ⟨y, hy, rfl⟩
            rw [Nat.pow_zero] at hy
            rw [show y = 0 by omega, r0]
        · intro n hn
          rw [Nat.pow_zero] at hn
          rw [show n = 0 by omega, r0]
          rfl
      · rintro σ H6 ⟨kk, qq, e, Ks, fa, x10, x11, x12, x13, x14, S6, he, hK, hfa, iq, hid, hfar, q168, rfl⟩
        clear S5 ne0
        cases fa with
        | some j =>
          exact ⟨_, rfl, rfl, _, rfl, iteF (iteF ⟨kk, some j, _, _, _, _, _, _, _, _, S6, by omega, hfa, (fun z => (nomatch z)), rfl⟩)⟩
        | none =>
          refine ⟨_, rfl, rfl, _, rfl, iteT ⟨_, rfl, _, _, rfl, rfl, .inl ⟨by decide, by decide⟩, _, _, rfl, rfl, _, _, rfl, rfl, _, rfl, ite2 (fun c => ?_) (fun c => ?_)⟩⟩
          · have c1 : qq < 168 := by
              have := of_decide_eq_true c
              omega
            have hq6 := hq.same S6
            have kl := hK.le d1 d2
            refine ⟨fun σ H7 => ∃ D : Addr, Same H6 H7 ∧ H6 D = none ∧ H7 D = some (.dT (Ks.map entP)) ∧ σ = [some (.ref a), some (.ref r), some (.int d), some (.ref q), some (.int (B : Int)), some (.int ((B : Int) ^ kk % d)), some (.int (kk : Int)), some (.ref e), some .non, some (.int (qq : Int)), some (.int (wAt fs ls kk % d)), some (.ref D), x12, x13, x14, none], ?_, ?_⟩
            · refine ⟨_, rfl, _, rfl, q, b, t, fs, ls, kk, rfl, hq6, ok.l1, _, rfl, _, _, rfl, rfl, nd, _, rfl, e, _, rfl, he, hash_nodup _ _ hK.nodup fun g hg => ?_, fun D hD => ⟨_, _, rfl, D, same_upd hD, hD, upd_same, ?_⟩⟩
              · have := inR_bd d1 ((hK.mem g).mp hg)
                omega
              · rw [show V.int (wAt fs ls kk % d) = V.int ((wAt fs ls kk).fmod d) from by rw [fm]]
                rfl
            rintro σ H7 ⟨D, S7, nD, hD, rfl⟩
            have neD : e ≠ D := ne_of_none he nD
            replace he := S7 _ _ he
            have sm := hK.nodup
            refine ⟨fun σ H8 => ∃ (Ms : List Pr) (x12 x13 x14 : Option V), (∀ c o, H7 c = some o → c ≠ D → H8 c = some o) ∧ H8 D = some (.dT (Ms.map entP)) ∧ PairK B (wAt fs ls) d (kk + 1) Ms ∧ (Ms.length = Ks.length ↔ Idle B (wAt fs ls) d kk) ∧ σ = [some (.ref a), some (.ref r), some (.int d), some (.ref q), some (.int (B : Int)), some (.int ((B : Int) ^ kk % d)), some (.int (kk : Int)), some (.ref e), some .non, some (.int (qq : Int)), some (.int (wAt fs ls kk % d)), some (.ref D), x12, x13, x14, none], ?_, ?_⟩
            · refine ⟨e, _, he, trivial, fun od => ⟨_, rfl, e, od, rfl, .inr ⟨_, upd_same, ?_⟩⟩⟩
              refine for_it walk_keysT (fun j σ H8 => ∃ (Ms : List Pr) (x12 x13 x14 : Option V), H8 e = some (.frz od (.dT (Ks.map entP))) ∧ (∀ c o, H7 c = some o → c ≠ D → c ≠ e → H8 c = some o) ∧ H8 D = some (.dT (Ms.map entP)) ∧ MoreK B (wAt fs ls) d kk Ks Ms j 1 ∧ σ = [some (.ref a), some (.ref r), some (.int d), some (.ref q), some (.int (B : Int)), some (.int ((B : Int) ^ kk % d)), some (.int (kk : Int)), some (.ref e), some .non, some (.int (qq : Int)), some (.int (wAt fs ls kk % d)), some (.ref D), x12, x13, x14, none]) ?_ (fun j σ H8 _ ⟨_, _, _, _, h, _⟩ => h) ?_ ?_
              · exact ⟨Ks, x12, x13, x14, upd_same, fun c o g n n2 => by rw [upd_ne n2]; exact g, by rw [upd_ne neD.symm]; exact hD, MoreK.start hB2 hK, rfl⟩
              · rintro j x σ H8 H9 hj ⟨Ms, x12, x13, x14, he8, S8, hD8, mk, rfl⟩ ⟨rfl, key, v, kq, hkv, rfl, hkq⟩
                rw [List.getElem?_map] at hkv
                obtain ⟨g, hg, eg⟩ := Option.map_eq_some_iff.mp hkv
                cases eg
                refine ⟨kq, _, rfl, SqT.of hkq, rfl, _, _, rfl, _, _, rfl, rfl, ?_⟩
                refine ⟨_, rfl, _, rfl, _, _, rfl, _, _, rfl, ⟨by decide, by decide, by split <;> omega, by split <;> omega⟩, ?_⟩
                refine for_range (lo := 1) (n := ((if d < (B : Int) then d else (B : Int)) - 1).toNat) (fun i σ H10 => ∃ (Ms : List Pr) (x14 : Option V), H10 e = some (.frz od (.dT (Ks.map entP))) ∧ (∀ c o, H7 c = some o → c ≠ D → c ≠ e → H10 c = some o) ∧ H10 D = some (.dT (Ms.map entP)) ∧ MoreK B (wAt fs ls) d kk Ks Ms j (1 + i) ∧ σ = [some (.ref a), some (.ref r), some (.int d), some (.ref q), some (.int (B : Int)), some (.int ((B : Int) ^ kk % d)), some (.int (kk : Int)), some (.ref e), some .non, some (.int (qq : Int)), some (.int (wAt fs ls kk % d)), some (.ref D), some (.int g.1), some (.int g.2), x14, none]) ?_ ?_ ?_
                · exact ⟨Ms, x14, he8, S8, hD8, mk, rfl⟩
                · clear he8 S8 hD8 mk
                  rintro i σ H10 hi ⟨Ms, x14, he8, S8, hD8, mk, rfl⟩
                  have hi2 : (1 + i : Nat) < B ∧ ((1 + i : Nat) : Int) < d := by split at hi <;> omega
                  have ei : (1 : Int) + (i : Int) = ((1 + i : Nat) : Int) := by omega
                  rw [ei]
                  obtain ⟨f, hf⟩ : ∃ f, f = 1 + i := ⟨_, rfl⟩
                  have hf2 : 1 + (i + 1) = f + 1 := by omega
                  rw [← hf] at mk hi2 ⊢
                  rw [hf2]
                  obtain ⟨v1, v2⟩ := shv kk f g
                  refine ⟨_, rfl, _, rfl, _, rfl, _, rfl, _, _, rfl, rfl, .inl ⟨by omega, by omega⟩, _, _, rfl, rfl, _, rfl, _, _, rfl, rfl, nd, ?_⟩
                  refine ⟨_, rfl, _, rfl, _, rfl, _, _, rfl, rfl, .inl ⟨by omega, by omega⟩, _, _, rfl, rfl, _, rfl, _, _, rfl, rfl, nd, by show 2 ≤ sizeLine; decide, fun p hp => ?_⟩
                  have hp2 : (upd H10 p (.tup [.int ((g.1 + (f : Int) * ((B : Int) ^ kk % d)).fmod d), .int ((g.2 + (f : Int) * (wAt fs ls kk % d)).fmod d)])) p = some (.tup ((kp (shk B (wAt fs ls) d kk f g)).map kV)) := by
                    rw [upd_same, v1, v2]
                    rfl
                  have Sp := same_upd (o := .tup [.int ((g.1 + (f : Int) * ((B : Int) ^ kk % d)).fmod d), .int ((g.2 + (f : Int) * (wAt fs ls kk % d)).fmod d)]) hp
                  have hD9 := Sp _ _ hD8
                  have ml := mk.le d1 d2
                  refine ⟨D, _, rfl, DPut.t hD9 hp2 (by rw [List.length_map]; unfold sizeLine; omega), ?_⟩
                  refine ⟨addP Ms (shk B (wAt fs ls) d kk f g), _, by rw [upd_ne neD]; exact Sp _ _ he8, fun c o gg n n2 => by rw [upd_ne n]; exact Sp _ _ (S8 c o gg n n2), by rw [upd_same, putP], mk.put hK hB2 hg (by omega) hi2.1, rfl⟩
                · rintro σ H10 ⟨Ms, x14, he8, S8, hD8, mk, rfl⟩
                  exact ⟨Ms, _, _, x14, he8, S8, hD8, mk.next (by split <;> omega), rfl⟩
              · rintro σ H8 ⟨Ms, x12, x13, x14, he8, S8, hD8, mk, rfl⟩
                rw [List.length_map] at mk
                have pM := mk.end_ hK hB2 d1 rfl
                refine ⟨he8, Ms, x12, x13, x14, fun c o g n => ?_, by rw [upd_ne neD.symm]; exact hD8, pM, mk.idle hK pM hB2, rfl⟩
                by_cases z : c = e
                · subst z
                  rw [upd_same, ← g, he]
                · rw [upd_ne z]
                  exact S8 c o g n z
            rintro σ H8 ⟨Ms, y12, y13, y14, S8, hD8, pM, hidle, rfl⟩
            have he8 := S8 _ _ he neD
            have hr0 : 0 ≤ (B : Int) ^ kk % d ∧ (B : Int) ^ kk % d < d := ⟨Int.emod_nonneg _ (by omega), Int.emod_lt_of_pos _ (by omega)⟩
            have S48 : Same H4 H8 := fun c o g => S8 c o (S7 _ _ (S6 _ _ g)) (ne_of_none (S6 _ _ g) nD)
            refine ⟨fun σ H9 => ∃ q2 : Nat, H9 = H8 ∧ q2 ≤ kk + 1 ∧ (∀ j, kk + 1 ≤ j + q2 → j < kk + 1 → Idle B (wAt fs ls) d j) ∧ kk + 1 ≤ M + dL + q2 ∧ q2 ≤ 168 ∧ σ = [some (.ref a), some (.ref r), some (.int d), some (.ref q), some (.int (B : Int)), some (.int ((B : Int) ^ kk % d)), some (.int (kk : Int)), some (.ref e), some .non, some (.int (q2 : Int)), some (.int (wAt fs ls kk % d)), some (.ref D), y12, y13, y14, none], ?_, ?_⟩
            · refine ⟨_, rfl, D, _, rfl, hD8, _, rfl, e, _, rfl, he8, rfl, _, rfl, ?_⟩
              rw [dec_i, List.length_map, List.length_map]
              refine ite2 (fun g => ?_) (fun g => ?_)
              · have g := of_decide_eq_true g
                have hi := hidle.mp (by omega)
                refine ⟨_, rfl, _, _, rfl, rfl, qq + 1, rfl, by omega, fun j h1 h2 => ?_, by omega, by omega, rfl⟩
                rcases Nat.lt_or_ge j kk with z | z
                · exact hid j (by omega) z
                · rw [show j = kk by omega]
                  exact hi
              · refine ⟨0, rfl, by omega, fun j h1 h2 => by omega, ?_, by omega, rfl⟩
                rcases Nat.lt_or_ge kk (M + dL) with z | z
                · omega
                · exact absurd (decide_eq_true (by have := hidle.mpr (far kk z); omega)) g
            rintro σ H9 ⟨q2, rfl, q2a, q2b, q2c, q2d, rfl⟩
            refine ⟨fun σ H10 => H10 = H9 ∧ σ = [some (.ref a), some (.ref r), some (.int d), some (.ref q), some (.int (B : Int)), some (.int ((B : Int) ^ (kk + 1) % d)), some (.int ((kk + 1 : Nat) : Int)), some (.ref D), some .non, some (.int (q2 : Int)), some (.int (wAt fs ls kk % d)), some (.ref D), y12, y13, y14, none], ?_, ?_⟩
            · refine ⟨_, rfl, _, rfl, _, rfl, _, _, rfl, rfl, .inl ⟨by omega, by omega⟩, _, rfl, _, _, rfl, rfl, nd, _, rfl, _, _, rfl, rfl, _, _, _, rfl, rfl, ?_⟩
              rw [show V.int ((B : Int) ^ (kk + 1) % d) = V.int (((B : Int) ^ kk % d * (B : Int)).fmod d) from by rw [fm, Int.pow_succ, emod_step]]
              rfl
            rintro σ H10 ⟨rfl, rfl⟩
            have mu : M + dL + 168 + 1 - (((kk + 1 : Nat) : Int).toNat) < M + dL + 168 + 1 - ((kk : Int).toNat) := by omega
            refine ⟨D, _, hD8, trivial, fun od => ⟨_, rfl, D, od, rfl, .inr ⟨_, upd_same, fun N hN => ?_⟩⟩⟩
            refine lc_it walk_keysT (fun j H11 => H11 D = some (.frz od (.dT (Ms.map entP))) ∧ (∀ c o, H10 c = some o → c ≠ D → H11 c = some o) ∧ H11 N = some (.lst (((Ms.take j).map mism).map V.bl))) ?_ (fun j H11 _ ⟨h, _⟩ => h) ?_ ?_
            · have nND : N ≠ D := (ne_of_none upd_same hN).symm
              refine ⟨by rw [upd_ne nND.symm]; exact upd_same, fun c o g n => ?_, by rw [upd_same]; rfl⟩
              have hN2 := hN
              rw [upd_ne nND] at hN2
              rw [upd_ne (ne_of_none g hN2), upd_ne n]
              exact g
            · rintro j x H11 H12 hj ⟨h11, S11, hN11⟩ ⟨rfl, key, v, kq, hkv, rfl, hkq⟩
              rw [List.getElem?_map] at hkv
              obtain ⟨g, hg, eg⟩ := Option.map_eq_some_iff.mp hkv
              cases eg
              have nND : N ≠ D := ne_of hN11 h11 (by intro z; cases z)
              have hN2 : H10 N = none := by rw [← hN, upd_ne nND]
              refine ⟨kq, _, rfl, SqT.of hkq, rfl, _, _, rfl, _, _, rfl, rfl, rfl, _, rfl, rfl, _, rfl, rfl, rfl, _, hN11, ?_, by rw [upd_ne nND.symm]; exact h11, fun c o gg n => by rw [upd_ne (ne_of_none gg hN2)]; exact S11 c o gg n, ?_⟩
              · have ml : Ms.length ≤ 144 := pM.le d1 d2
                rw [List.length_map, List.length_map, List.length_take]
                unfold sizeLine
                omega
              · rw [upd_same, List.take_succ, hg, List.map_append, List.map_append]
                show some (HO.lst (_ ++ [V.bl (!decide (V.bl (decide (V.int g.1 = V.int 0)) = V.bl (decide (V.int g.2 = V.int 0))))])) = _
                rw [dec_i, dec_i, dec_bl]
                rfl
            · rintro H11 ⟨h11, S11, hN11⟩
              rw [List.length_map, List.take_length] at hN11
              have nND : N ≠ D := ne_of hN11 h11 (by intro z; cases z)
              have hN12 : (upd H11 D (.dT (Ms.map entP))) N = some (.lst ((Ms.map mism).map V.bl)) := by rw [upd_ne nND]; exact hN11
              have S12 : Same H4 (upd H11 D (.dT (Ms.map entP))) := fun c o g => by
                have n : c ≠ D := ne_of_none (S6 _ _ g) nD
                rw [upd_ne n]
                exact S11 c o (S48 _ _ g) n
              have hD12 : (upd H11 D (.dT (Ms.map entP))) D = some (.dT (Ms.map entP)) := upd_same
              refine ⟨h11, N, _, rfl, SqL.of hN12, _, rfl, ?_⟩
              generalize upd H11 D (HO.dT (Ms.map entP)) = H13 at S12 hD12 ⊢
              refine ite2 (fun g => ?_) (fun g => ?_)
              · have g : ((Ms.map mism).any id) = true := g
                obtain ⟨x, hx, ex⟩ := List.any_eq_true.mp g
                obtain ⟨y, hy, rfl⟩ := List.mem_map.mp hx
                obtain ⟨n, hn, e9⟩ := (pM.mem y).mp hy
                refine ⟨_, rfl, ⟨kk + 1, q2, D, Ms, some (kk + 1), _, _, _, _, _, S12, hD12, pM, ⟨rfl, by omega, ⟨n, hn, by rw [e9]; exact ex⟩, hfa⟩, q2a, q2b, q2c, q2d, rfl⟩, mu⟩
              · have g : ¬ ((Ms.map mism).any id) = true := g
                refine ⟨⟨kk + 1, q2, D, Ms, none, _, _, _, _, _, S12, hD12, pM, fun n hn => ?_, q2a, q2b, q2c, q2d, rfl⟩, mu⟩
                cases e9 : mism (rp B (wAt fs ls) d n) with
                | false => rfl
                | true => exact absurd (List.any_eq_true.mpr ⟨true, List.mem_map.mpr ⟨_, (pM.mem _).mpr ⟨n, hn, rfl⟩, e9⟩, rfl⟩) g
          · have c1 : 168 ≤ qq := by
              have : ¬ ((qq : Int) < 12 + 12 * 13) := fun z => c (decide_eq_true z)
              omega
            exact ⟨kk, none, _, _, _, _, _, _, _, _, S6, by omega, hfa, fun _ => fin kk (by omega) (fun j h1 h2 => hid j (by omega) h1) hfa, rfl⟩
      · exact m_and (m_test (m_op (m_isN (g := fun x => V.bl (decide (x = V.non)))) m_var m_c)) (m_test (m_op m_rI0 m_var (m_op m_rI0 m_c (m_op m_rI m_c m_c))))
    rintro σ H6 ⟨kk, fa, x5, x7, x9, x10, x11, x12, x13, x14, S6, kb, hfa, hno, rfl⟩
    refine ⟨fun σ H7 => ∃ oF : Option Nat, LeastF B (wAt fs ls) d oF ∧ σ = [some (.ref a), some (.ref r), some (.int d), some (.ref q), some (.int (B : Int)), x5, some (.int (kk : Int)), x7, some (optV fa), x9, x10, x11, x12, x13, x14, some (optV oF)], ?_, ?_⟩
    · replace e1 := S6 _ _ e1
      replace e2 := S6 _ _ e2
      replace e3 := S6 _ _ e3
      refine ⟨_, rfl, q, _, _, _, rfl, rfl, SqL.of e1, rfl, _, rfl, q, _, _, _, rfl, rfl, SqL.of e1, rfl, _, rfl, q, _, _, _, rfl, rfl, SqL.of e1, rfl, _, rfl, q, _, _, _, rfl, rfl, SqL.of e1, rfl, fun p dx np nx nn => mk_sum np nx e2 e3 ok.b1 ok.b2 ok.t1 ok.t2 ok.w1 ok.w2 fun H5 hS S5 => ?_⟩
      refine ⟨_, rfl, p, b, t, fs, ls, d, rfl, hS, d1, by omega, fun oF H8 hoF S8 => ?_⟩
      rw [hBn] at hoF
      exact ⟨oF, hoF, rfl⟩
    rintro σ H7 ⟨oF, hoF, rfl⟩
    have same : oF = none ↔ fa = none := by
      constructor
      · intro z
        subst z
        cases fa with
        | none => rfl
        | some j =>
          obtain ⟨_, _, ⟨n, _, hn⟩, _⟩ := hfa
          have hoF : ∀ n, mism (rp B (wAt fs ls) d n) = false := hoF
          rw [hoF n] at hn
          cases hn
      · intro z
        exact leastF_uniq hoF (hno z)
    refine ⟨fun σ H8 => H8 = H7 ∧ σ = [some (.ref a), some (.ref r), some (.int d), some (.ref q), some (.int (B : Int)), x5, some (.int (kk : Int)), x7, some (optV fa), x9, x10, x11, x12, x13, x14, some (optV oF)], ?_, ?_⟩
    · refine ⟨_, rfl, rfl, _, rfl, rfl, rfl, _, rfl, ?_⟩
      rw [opt_non, opt_non, show (!decide (V.bl oF.isNone = V.bl fa.isNone)) = false from by
        cases oF <;> cases fa <;> first | rfl | exact absurd (same.mp rfl) (fun z => (nomatch z)) | exact absurd (same.mpr rfl) (fun z => (nomatch z))]
      exact iteF ⟨rfl, rfl⟩
    rintro σ H8 ⟨rfl, rfl⟩
    cases oF with
    | none =>
      exact ⟨_, rfl, rfl, _, rfl, iteT (k _)⟩
    | some m =>
      cases fa with
      | none => exact absurd (same.mpr rfl) (fun z => (nomatch z))
      | some j =>
        obtain ⟨rfl, k1, ⟨n, hn, hm⟩, hlow⟩ := hfa
        have u1 : m < B ^ j := by
          rcases Nat.lt_or_ge n m with z | z
          · rw [hoF.2 n z] at hm
            cases hm
          · omega
        have u2 : B ^ (j - 1) ≤ m := by
          rcases Nat.lt_or_ge m (B ^ (j - 1)) with z | z
          · have := hoF.1
            rw [hlow m z] at this
            cases this
          · exact z
        refine ⟨_, rfl, rfl, _, rfl, iteF ⟨_, rfl, _, rfl, _, _, rfl, rfl, (B : Int), _, rfl, by omega, by omega, by omega, by omega, _, rfl, _, _, rfl, rfl, _, rfl, ?_⟩⟩
        rw [show decide ((B : Int) ^ ((j : Int) - 1).toNat ≤ (m : Int)) = true from decide_eq_true (by
          rw [show ((j : Int) - 1).toNat = j - 1 by omega, ← Int.natCast_pow]
          omega)]
        refine iteT ⟨_, rfl, _, rfl, (B : Int), _, rfl, by omega, by omega, by omega, by omega, _, _, rfl, rfl, ?_⟩
        show Q (.bl (decide ((m : Int) < (B : Int) ^ ((j : Int)).toNat))) _
        rw [show decide ((m : Int) < (B : Int) ^ ((j : Int)).toNat) = true from decide_eq_true (by
          rw [Int.toNat_natCast, ← Int.natCast_pow]
          omega)]
        exact k _

end
/-! ### the end -/
theorem all_mk {l : PySem.W.OpenLaw} {w : World} {K : PySem.W.Frag} {h : Heap} {mg : Str → Option Value} {fa : Addr} (X : K.In h) (G : h.Ns mainGlobals mg) (hfa : mg "law" = some (.ref fa))
    {C_TrickError : Addr}
    {C_BadBase : Addr}
    {C_BadTake : Addr}
    {C_BadDivisor : Addr}
    {C_BadSum : Addr}
    {C_BadWeights : Addr}
    {tk_LEAST_BASE : Tok}
    {tk_GREATEST_BASE : Tok}
    {tk_GREATEST_TAKE : Tok}
    {tk_GREATEST_DIVISOR : Tok}
    {tk_GREATEST_WEIGHT : Tok}
    {tk_MOST_WEIGHTS : Tok}
    {tk_GREATEST_SUM_DIVISOR : Tok}
    {a_is_integer : Addr} {od_is_integer an_is_integer : Option Addr} {sl_is_integer : Array (Option Value)} {oc_is_integer kV_is_integer dc_is_integer pm_is_integer cd_is_integer ct_is_integer : Value}
    {a_is_tuple : Addr} {od_is_tuple an_is_tuple : Option Addr} {sl_is_tuple : Array (Option Value)} {oc_is_tuple kV_is_tuple dc_is_tuple pm_is_tuple cd_is_tuple ct_is_tuple : Value}
    {a_first_wrong : Addr} {od_first_wrong an_first_wrong : Option Addr} {sl_first_wrong : Array (Option Value)} {oc_first_wrong kV_first_wrong dc_first_wrong pm_first_wrong cd_first_wrong ct_first_wrong : Value}
    {a_check_base : Addr} {od_check_base an_check_base : Option Addr} {sl_check_base : Array (Option Value)} {oc_check_base kV_check_base dc_check_base pm_check_base cd_check_base ct_check_base : Value}
    {a_check_take : Addr} {od_check_take an_check_take : Option Addr} {sl_check_take : Array (Option Value)} {oc_check_take kV_check_take dc_check_take pm_check_take cd_check_take ct_check_take : Value}
    {a_check_divisor dT_check_divisor : Addr} {od_check_divisor an_check_divisor dod_check_divisor : Option Addr} {sl_check_divisor dsl_check_divisor : Array (Option Value)} {oc_check_divisor kV_check_divisor dc_check_divisor pm_check_divisor cd_check_divisor ct_check_divisor doc_check_divisor : Value} {dvs_check_divisor : Array Value} {dn_check_divisor : Nat} {dt0_check_divisor : Tok}
    {a_block_of : Addr} {od_block_of an_block_of : Option Addr} {sl_block_of : Array (Option Value)} {oc_block_of kV_block_of dc_block_of pm_block_of cd_block_of ct_block_of : Value}
    {a_sum_fails : Addr} {od_sum_fails an_sum_fails : Option Addr} {sl_sum_fails : Array (Option Value)} {oc_sum_fails kV_sum_fails dc_sum_fails pm_sum_fails cd_sum_fails ct_sum_fails : Value}
    {a_check_weights : Addr} {od_check_weights an_check_weights : Option Addr} {sl_check_weights : Array (Option Value)} {oc_check_weights kV_check_weights dc_check_weights pm_check_weights cd_check_weights ct_check_weights : Value}
    {a_check_sum : Addr} {od_check_sum an_check_sum : Option Addr} {sl_check_sum : Array (Option Value)} {oc_check_sum kV_check_sum dc_check_sum pm_check_sum cd_check_sum ct_check_sum : Value}
    {a_sum_block : Addr} {od_sum_block an_sum_block : Option Addr} {sl_sum_block : Array (Option Value)} {oc_sum_block kV_sum_block dc_sum_block pm_sum_block cd_sum_block ct_sum_block : Value}
    {a_weight_at : Addr} {od_weight_at an_weight_at : Option Addr} {sl_weight_at : Array (Option Value)} {oc_weight_at kV_weight_at dc_weight_at pm_weight_at cd_weight_at ct_weight_at : Value}
    {a_power_rests : Addr} {od_power_rests an_power_rests : Option Addr} {sl_power_rests : Array (Option Value)} {oc_power_rests kV_power_rests dc_power_rests pm_power_rests cd_power_rests ct_power_rests : Value}
    {a_turn : Addr} {od_turn an_turn : Option Addr} {sl_turn : Array (Option Value)} {oc_turn kV_turn dc_turn pm_turn cd_turn ct_turn : Value}
    {a_new_rests : Addr} {od_new_rests an_new_rests : Option Addr} {sl_new_rests : Array (Option Value)} {oc_new_rests kV_new_rests dc_new_rests pm_new_rests cd_new_rests ct_new_rests : Value}
    {a__law_taken : Addr} {od__law_taken an__law_taken : Option Addr} {sl__law_taken : Array (Option Value)} {oc__law_taken kV__law_taken dc__law_taken pm__law_taken cd__law_taken ct__law_taken : Value}
    {a__law_power : Addr} {od__law_power an__law_power : Option Addr} {sl__law_power : Array (Option Value)} {oc__law_power kV__law_power dc__law_power pm__law_power cd__law_power ct__law_power : Value}
    {a__law_sum : Addr} {od__law_sum an__law_sum : Option Addr} {sl__law_sum : Array (Option Value)} {oc__law_sum kV__law_sum dc__law_sum pm__law_sum cd__law_sum ct__law_sum : Value}
    {a__law_weight : Addr} {od__law_weight an__law_weight : Option Addr} {sl__law_weight : Array (Option Value)} {oc__law_weight kV__law_weight dc__law_weight pm__law_weight cd__law_weight ct__law_weight : Value}
    {a_law : Addr} {od_law an_law : Option Addr} {sl_law : Array (Option Value)} {oc_law kV_law dc_law pm_law cd_law ct_law : Value}
    {C_Sum : Addr}
    {a_Sum___init__ : Addr} {od_Sum___init__ an_Sum___init__ : Option Addr} {sl_Sum___init__ : Array (Option Value)} {oc_Sum___init__ kV_Sum___init__ dc_Sum___init__ pm_Sum___init__ cd_Sum___init__ ct_Sum___init__ : Value}
    {pr_Sum_base : Addr} {rs_Sum_base : List Value}
    {a_Sum_base : Addr} {od_Sum_base an_Sum_base : Option Addr} {sl_Sum_base : Array (Option Value)} {oc_Sum_base kV_Sum_base dc_Sum_base pm_Sum_base cd_Sum_base ct_Sum_base : Value}
    {pr_Sum_take : Addr} {rs_Sum_take : List Value}
    {a_Sum_take : Addr} {od_Sum_take an_Sum_take : Option Addr} {sl_Sum_take : Array (Option Value)} {oc_Sum_take kV_Sum_take dc_Sum_take pm_Sum_take cd_Sum_take ct_Sum_take : Value}
    {pr_Sum_first : Addr} {rs_Sum_first : List Value}
    {a_Sum_first : Addr} {od_Sum_first an_Sum_first : Option Addr} {sl_Sum_first : Array (Option Value)} {oc_Sum_first kV_Sum_first dc_Sum_first pm_Sum_first cd_Sum_first ct_Sum_first : Value}
    {pr_Sum_loop : Addr} {rs_Sum_loop : List Value}
    {a_Sum_loop : Addr} {od_Sum_loop an_Sum_loop : Option Addr} {sl_Sum_loop : Array (Option Value)} {oc_Sum_loop kV_Sum_loop dc_Sum_loop pm_Sum_loop cd_Sum_loop ct_Sum_loop : Value}
    {a_Sum___eq__ : Addr} {od_Sum___eq__ an_Sum___eq__ : Option Addr} {sl_Sum___eq__ : Array (Option Value)} {oc_Sum___eq__ kV_Sum___eq__ dc_Sum___eq__ pm_Sum___eq__ cd_Sum___eq__ ct_Sum___eq__ : Value}
    {a_BadWeights___init__ cda_BadWeights___init__ cc_BadWeights___init__ N_BadWeights___init__ : Addr} {od_BadWeights___init__ an_BadWeights___init__ cdd_BadWeights___init__ cld_BadWeights___init__ dd_BadWeights___init__ : Option Addr} {sl_BadWeights___init__ ccs_BadWeights___init__ csl_BadWeights___init__ : Array (Option Value)} {oc_BadWeights___init__ dc_BadWeights___init__ pm_BadWeights___init__ ct_BadWeights___init__ ccl_BadWeights___init__ cl_BadWeights___init__ : Value} {vs_BadWeights___init__ : Array Value} {file_BadWeights___init__ nm_BadWeights___init__ qn_BadWeights___init__ : Str} {tf_BadWeights___init__ : Tok} {bs_BadWeights___init__ bm_BadWeights___init__ sub_BadWeights___init__ : List Value} {sn_BadWeights___init__ : List Str} {ab_BadWeights___init__ : Bool} {col_BadWeights___init__ : Option Bool} {k0_BadWeights___init__ k1_BadWeights___init__ k2_BadWeights___init__ k3_BadWeights___init__ k5_BadWeights___init__ : Option Value}
    (gx_TrickError : PySem.W.nsIn K mainGlobals "TrickError" = some (some (.ref C_TrickError)))
    (x_TrickError : PySem.W.excIn K C_TrickError [.type "ValueError", .type "Exception", .type "BaseException", .type "object"] "ValueError.__new__" = true)
    (k_TrickError : PySem.W.keepIn K (.ref C_TrickError) = true)
    (s_TrickError : PySem.W.subIn K (.ref C_TrickError) (.type "BaseException") = some true)
    (t_TrickError : PySem.W.typeIn K (.ref C_TrickError) = some (.type "type"))
    (gx_BadBase : PySem.W.nsIn K mainGlobals "BadBase" = some (some (.ref C_BadBase)))
    (x_BadBase : PySem.W.excIn K C_BadBase [.type "ValueError", .type "Exception", .type "BaseException", .type "object"] "ValueError.__new__" = true)
    (k_BadBase : PySem.W.keepIn K (.ref C_BadBase) = true)
    (s_BadBase : PySem.W.subIn K (.ref C_BadBase) (.type "BaseException") = some true)
    (t_BadBase : PySem.W.typeIn K (.ref C_BadBase) = some (.type "type"))
    (gx_BadTake : PySem.W.nsIn K mainGlobals "BadTake" = some (some (.ref C_BadTake)))
    (x_BadTake : PySem.W.excIn K C_BadTake [.type "ValueError", .type "Exception", .type "BaseException", .type "object"] "ValueError.__new__" = true)
    (k_BadTake : PySem.W.keepIn K (.ref C_BadTake) = true)
    (s_BadTake : PySem.W.subIn K (.ref C_BadTake) (.type "BaseException") = some true)
    (t_BadTake : PySem.W.typeIn K (.ref C_BadTake) = some (.type "type"))
    (gx_BadDivisor : PySem.W.nsIn K mainGlobals "BadDivisor" = some (some (.ref C_BadDivisor)))
    (x_BadDivisor : PySem.W.excIn K C_BadDivisor [.type "ValueError", .type "Exception", .type "BaseException", .type "object"] "ValueError.__new__" = true)
    (k_BadDivisor : PySem.W.keepIn K (.ref C_BadDivisor) = true)
    (s_BadDivisor : PySem.W.subIn K (.ref C_BadDivisor) (.type "BaseException") = some true)
    (t_BadDivisor : PySem.W.typeIn K (.ref C_BadDivisor) = some (.type "type"))
    (gx_BadSum : PySem.W.nsIn K mainGlobals "BadSum" = some (some (.ref C_BadSum)))
    (x_BadSum : PySem.W.excIn K C_BadSum [.type "ValueError", .type "Exception", .type "BaseException", .type "object"] "ValueError.__new__" = true)
    (k_BadSum : PySem.W.keepIn K (.ref C_BadSum) = true)
    (s_BadSum : PySem.W.subIn K (.ref C_BadSum) (.type "BaseException") = some true)
    (t_BadSum : PySem.W.typeIn K (.ref C_BadSum) = some (.type "type"))
    (gx_BadWeights : PySem.W.nsIn K mainGlobals "BadWeights" = some (some (.ref C_BadWeights)))
    (k_BadWeights : PySem.W.keepIn K (.ref C_BadWeights) = true)
    (s_BadWeights : PySem.W.subIn K (.ref C_BadWeights) (.type "BaseException") = some true)
    (t_BadWeights : PySem.W.typeIn K (.ref C_BadWeights) = some (.type "type"))
    (cx_LEAST_BASE : PySem.W.nsIn K mainGlobals "LEAST_BASE" = some (some (.int 2 tk_LEAST_BASE)))
    (cx_GREATEST_BASE : PySem.W.nsIn K mainGlobals "GREATEST_BASE" = some (some (.int 16 tk_GREATEST_BASE)))
    (cx_GREATEST_TAKE : PySem.W.nsIn K mainGlobals "GREATEST_TAKE" = some (some (.int 2 tk_GREATEST_TAKE)))
    (cx_GREATEST_DIVISOR : PySem.W.nsIn K mainGlobals "GREATEST_DIVISOR" = some (some (.int 100 tk_GREATEST_DIVISOR)))
    (cx_GREATEST_WEIGHT : PySem.W.nsIn K mainGlobals "GREATEST_WEIGHT" = some (some (.int 1000000 tk_GREATEST_WEIGHT)))
    (cx_MOST_WEIGHTS : PySem.W.nsIn K mainGlobals "MOST_WEIGHTS" = some (some (.int 12 tk_MOST_WEIGHTS)))
    (cx_GREATEST_SUM_DIVISOR : PySem.W.nsIn K mainGlobals "GREATEST_SUM_DIVISOR" = some (some (.int 30 tk_GREATEST_SUM_DIVISOR)))
    (gf_is_integer : PySem.W.nsIn K mainGlobals "is_integer" = some (some (.ref a_is_integer)))
    (l_is_integer : K.lookup a_is_integer = some ⟨oc_is_integer, od_is_integer, .func (PySem.W.fnOf "is_integer" "is_integer" (defArgs s_is_integer) (defBody s_is_integer) (defScope s_is_integer) .none kV_is_integer dc_is_integer pm_is_integer an_is_integer cd_is_integer ct_is_integer), sl_is_integer⟩)
    (c_is_integer : PySem.W.codeIn K cd_is_integer "is_integer" = true)
    (kp_is_integer : PySem.W.keepIn K (.ref a_is_integer) = true)
    (gf_is_tuple : PySem.W.nsIn K mainGlobals "is_tuple" = some (some (.ref a_is_tuple)))
    (l_is_tuple : K.lookup a_is_tuple = some ⟨oc_is_tuple, od_is_tuple, .func (PySem.W.fnOf "is_tuple" "is_tuple" (defArgs s_is_tuple) (defBody s_is_tuple) (defScope s_is_tuple) .none kV_is_tuple dc_is_tuple pm_is_tuple an_is_tuple cd_is_tuple ct_is_tuple), sl_is_tuple⟩)
    (c_is_tuple : PySem.W.codeIn K cd_is_tuple "is_tuple" = true)
    (kp_is_tuple : PySem.W.keepIn K (.ref a_is_tuple) = true)
    (gf_first_wrong : PySem.W.nsIn K mainGlobals "first_wrong" = some (some (.ref a_first_wrong)))
    (l_first_wrong : K.lookup a_first_wrong = some ⟨oc_first_wrong, od_first_wrong, .func (PySem.W.fnOf "first_wrong" "first_wrong" (defArgs s_first_wrong) (defBody s_first_wrong) (defScope s_first_wrong) .none kV_first_wrong dc_first_wrong pm_first_wrong an_first_wrong cd_first_wrong ct_first_wrong), sl_first_wrong⟩)
    (c_first_wrong : PySem.W.codeIn K cd_first_wrong "first_wrong" = true)
    (kp_first_wrong : PySem.W.keepIn K (.ref a_first_wrong) = true)
    (gf_check_base : PySem.W.nsIn K mainGlobals "check_base" = some (some (.ref a_check_base)))
    (l_check_base : K.lookup a_check_base = some ⟨oc_check_base, od_check_base, .func (PySem.W.fnOf "check_base" "check_base" (defArgs s_check_base) (defBody s_check_base) (defScope s_check_base) .none kV_check_base dc_check_base pm_check_base an_check_base cd_check_base ct_check_base), sl_check_base⟩)
    (c_check_base : PySem.W.codeIn K cd_check_base "check_base" = true)
    (kp_check_base : PySem.W.keepIn K (.ref a_check_base) = true)
    (gf_check_take : PySem.W.nsIn K mainGlobals "check_take" = some (some (.ref a_check_take)))
    (l_check_take : K.lookup a_check_take = some ⟨oc_check_take, od_check_take, .func (PySem.W.fnOf "check_take" "check_take" (defArgs s_check_take) (defBody s_check_take) (defScope s_check_take) .none kV_check_take dc_check_take pm_check_take an_check_take cd_check_take ct_check_take), sl_check_take⟩)
    (c_check_take : PySem.W.codeIn K cd_check_take "check_take" = true)
    (kp_check_take : PySem.W.keepIn K (.ref a_check_take) = true)
    (gf_check_divisor : PySem.W.nsIn K mainGlobals "check_divisor" = some (some (.ref a_check_divisor)))
    (l_check_divisor : K.lookup a_check_divisor = some ⟨oc_check_divisor, od_check_divisor, .func (PySem.W.fnOf "check_divisor" "check_divisor" (defArgs s_check_divisor) (defBody s_check_divisor) (defScope s_check_divisor) (.ref dT_check_divisor) kV_check_divisor dc_check_divisor pm_check_divisor an_check_divisor cd_check_divisor ct_check_divisor), sl_check_divisor⟩)
    (c_check_divisor : PySem.W.codeIn K cd_check_divisor "check_divisor" = true)
    (kp_check_divisor : PySem.W.keepIn K (.ref a_check_divisor) = true)
    (ldT_check_divisor : K.lookup dT_check_divisor = some ⟨doc_check_divisor, dod_check_divisor, .seq dvs_check_divisor dn_check_divisor, dsl_check_divisor⟩)
    (rdv_check_divisor : dvs_check_divisor = #[.int 100 dt0_check_divisor])
    (gf_block_of : PySem.W.nsIn K mainGlobals "block_of" = some (some (.ref a_block_of)))
    (l_block_of : K.lookup a_block_of = some ⟨oc_block_of, od_block_of, .func (PySem.W.fnOf "block_of" "block_of" (defArgs s_block_of) (defBody s_block_of) (defScope s_block_of) .none kV_block_of dc_block_of pm_block_of an_block_of cd_block_of ct_block_of), sl_block_of⟩)
    (c_block_of : PySem.W.codeIn K cd_block_of "block_of" = true)
    (kp_block_of : PySem.W.keepIn K (.ref a_block_of) = true)
    (gf_sum_fails : PySem.W.nsIn K mainGlobals "sum_fails" = some (some (.ref a_sum_fails)))
    (l_sum_fails : K.lookup a_sum_fails = some ⟨oc_sum_fails, od_sum_fails, .func (PySem.W.fnOf "sum_fails" "sum_fails" (defArgs s_sum_fails) (defBody s_sum_fails) (defScope s_sum_fails) .none kV_sum_fails dc_sum_fails pm_sum_fails an_sum_fails cd_sum_fails ct_sum_fails), sl_sum_fails⟩)
    (c_sum_fails : PySem.W.codeIn K cd_sum_fails "sum_fails" = true)
    (kp_sum_fails : PySem.W.keepIn K (.ref a_sum_fails) = true)
    (gf_check_weights : PySem.W.nsIn K mainGlobals "check_weights" = some (some (.ref a_check_weights)))
    (l_check_weights : K.lookup a_check_weights = some ⟨oc_check_weights, od_check_weights, .func (PySem.W.fnOf "check_weights" "check_weights" (defArgs s_check_weights) (defBody s_check_weights) (defScope s_check_weights) .none kV_check_weights dc_check_weights pm_check_weights an_check_weights cd_check_weights ct_check_weights), sl_check_weights⟩)
    (c_check_weights : PySem.W.codeIn K cd_check_weights "check_weights" = true)
    (kp_check_weights : PySem.W.keepIn K (.ref a_check_weights) = true)
    (gf_check_sum : PySem.W.nsIn K mainGlobals "check_sum" = some (some (.ref a_check_sum)))
    (l_check_sum : K.lookup a_check_sum = some ⟨oc_check_sum, od_check_sum, .func (PySem.W.fnOf "check_sum" "check_sum" (defArgs s_check_sum) (defBody s_check_sum) (defScope s_check_sum) .none kV_check_sum dc_check_sum pm_check_sum an_check_sum cd_check_sum ct_check_sum), sl_check_sum⟩)
    (c_check_sum : PySem.W.codeIn K cd_check_sum "check_sum" = true)
    (kp_check_sum : PySem.W.keepIn K (.ref a_check_sum) = true)
    (gf_sum_block : PySem.W.nsIn K mainGlobals "sum_block" = some (some (.ref a_sum_block)))
    (l_sum_block : K.lookup a_sum_block = some ⟨oc_sum_block, od_sum_block, .func (PySem.W.fnOf "sum_block" "sum_block" (defArgs s_sum_block) (defBody s_sum_block) (defScope s_sum_block) .none kV_sum_block dc_sum_block pm_sum_block an_sum_block cd_sum_block ct_sum_block), sl_sum_block⟩)
    (c_sum_block : PySem.W.codeIn K cd_sum_block "sum_block" = true)
    (kp_sum_block : PySem.W.keepIn K (.ref a_sum_block) = true)
    (gf_weight_at : PySem.W.nsIn K mainGlobals "weight_at" = some (some (.ref a_weight_at)))
    (l_weight_at : K.lookup a_weight_at = some ⟨oc_weight_at, od_weight_at, .func (PySem.W.fnOf "weight_at" "weight_at" (defArgs s_weight_at) (defBody s_weight_at) (defScope s_weight_at) .none kV_weight_at dc_weight_at pm_weight_at an_weight_at cd_weight_at ct_weight_at), sl_weight_at⟩)
    (c_weight_at : PySem.W.codeIn K cd_weight_at "weight_at" = true)
    (kp_weight_at : PySem.W.keepIn K (.ref a_weight_at) = true)
    (gf_power_rests : PySem.W.nsIn K mainGlobals "power_rests" = some (some (.ref a_power_rests)))
    (l_power_rests : K.lookup a_power_rests = some ⟨oc_power_rests, od_power_rests, .func (PySem.W.fnOf "power_rests" "power_rests" (defArgs s_power_rests) (defBody s_power_rests) (defScope s_power_rests) .none kV_power_rests dc_power_rests pm_power_rests an_power_rests cd_power_rests ct_power_rests), sl_power_rests⟩)
    (c_power_rests : PySem.W.codeIn K cd_power_rests "power_rests" = true)
    (kp_power_rests : PySem.W.keepIn K (.ref a_power_rests) = true)
    (gf_turn : PySem.W.nsIn K mainGlobals "turn" = some (some (.ref a_turn)))
    (l_turn : K.lookup a_turn = some ⟨oc_turn, od_turn, .func (PySem.W.fnOf "turn" "turn" (defArgs s_turn) (defBody s_turn) (defScope s_turn) .none kV_turn dc_turn pm_turn an_turn cd_turn ct_turn), sl_turn⟩)
    (c_turn : PySem.W.codeIn K cd_turn "turn" = true)
    (kp_turn : PySem.W.keepIn K (.ref a_turn) = true)
    (gf_new_rests : PySem.W.nsIn K mainGlobals "new_rests" = some (some (.ref a_new_rests)))
    (l_new_rests : K.lookup a_new_rests = some ⟨oc_new_rests, od_new_rests, .func (PySem.W.fnOf "new_rests" "new_rests" (defArgs s_new_rests) (defBody s_new_rests) (defScope s_new_rests) .none kV_new_rests dc_new_rests pm_new_rests an_new_rests cd_new_rests ct_new_rests), sl_new_rests⟩)
    (c_new_rests : PySem.W.codeIn K cd_new_rests "new_rests" = true)
    (kp_new_rests : PySem.W.keepIn K (.ref a_new_rests) = true)
    (gf__law_taken : PySem.W.nsIn K mainGlobals "_law_taken" = some (some (.ref a__law_taken)))
    (l__law_taken : K.lookup a__law_taken = some ⟨oc__law_taken, od__law_taken, .func (PySem.W.fnOf "_law_taken" "_law_taken" (defArgs s__law_taken) (defBody s__law_taken) (defScope s__law_taken) .none kV__law_taken dc__law_taken pm__law_taken an__law_taken cd__law_taken ct__law_taken), sl__law_taken⟩)
    (c__law_taken : PySem.W.codeIn K cd__law_taken "_law_taken" = true)
    (kp__law_taken : PySem.W.keepIn K (.ref a__law_taken) = true)
    (gf__law_power : PySem.W.nsIn K mainGlobals "_law_power" = some (some (.ref a__law_power)))
    (l__law_power : K.lookup a__law_power = some ⟨oc__law_power, od__law_power, .func (PySem.W.fnOf "_law_power" "_law_power" (defArgs s__law_power) (defBody s__law_power) (defScope s__law_power) .none kV__law_power dc__law_power pm__law_power an__law_power cd__law_power ct__law_power), sl__law_power⟩)
    (c__law_power : PySem.W.codeIn K cd__law_power "_law_power" = true)
    (kp__law_power : PySem.W.keepIn K (.ref a__law_power) = true)
    (gf__law_sum : PySem.W.nsIn K mainGlobals "_law_sum" = some (some (.ref a__law_sum)))
    (l__law_sum : K.lookup a__law_sum = some ⟨oc__law_sum, od__law_sum, .func (PySem.W.fnOf "_law_sum" "_law_sum" (defArgs s__law_sum) (defBody s__law_sum) (defScope s__law_sum) .none kV__law_sum dc__law_sum pm__law_sum an__law_sum cd__law_sum ct__law_sum), sl__law_sum⟩)
    (c__law_sum : PySem.W.codeIn K cd__law_sum "_law_sum" = true)
    (kp__law_sum : PySem.W.keepIn K (.ref a__law_sum) = true)
    (gf__law_weight : PySem.W.nsIn K mainGlobals "_law_weight" = some (some (.ref a__law_weight)))
    (l__law_weight : K.lookup a__law_weight = some ⟨oc__law_weight, od__law_weight, .func (PySem.W.fnOf "_law_weight" "_law_weight" (defArgs s__law_weight) (defBody s__law_weight) (defScope s__law_weight) .none kV__law_weight dc__law_weight pm__law_weight an__law_weight cd__law_weight ct__law_weight), sl__law_weight⟩)
    (c__law_weight : PySem.W.codeIn K cd__law_weight "_law_weight" = true)
    (kp__law_weight : PySem.W.keepIn K (.ref a__law_weight) = true)
    (gf_law : PySem.W.nsIn K mainGlobals "law" = some (some (.ref a_law)))
    (l_law : K.lookup a_law = some ⟨oc_law, od_law, .func (PySem.W.fnOf "law" "law" (defArgs s_law) (defBody s_law) (defScope s_law) .none kV_law dc_law pm_law an_law cd_law ct_law), sl_law⟩)
    (c_law : PySem.W.codeIn K cd_law "law" = true)
    (kp_law : PySem.W.keepIn K (.ref a_law) = true)
    (gx_Sum : PySem.W.nsIn K mainGlobals "Sum" = some (some (.ref C_Sum)))
    (pg_Sum : PySem.W.plainGet K C_Sum Str.empty = true)
    (hd_Sum : PySem.W.hasDictIn K C_Sum = true)
    (po_Sum : PySem.W.plainOver K C_Sum = true)
    (sa_Sum : PySem.W.findIn K (.ref C_Sum) "__setattr__" = some (some (.builtin "object.__setattr__")))
    (mk_Sum : PySem.W.makesIn K C_Sum = true)
    (kc_Sum : PySem.W.keepIn K (.ref C_Sum) = true)
    (cc_Sum : PySem.W.findIn K (.ref C_Sum) "__class__" = some (some (.builtin "object.__class__")))
    (mo_Sum : PySem.W.mroIn K C_Sum (.type "object") = some true)
    (sp_cls : PySem.W.specialIn K (.builtin "object.__class__") "__get__" = some (some (.builtin "getset_descriptor.__get__")))
    (tk_cls : PySem.W.takesIn K (.builtin "object.__class__") = some true)
    (ki_Sum_int : PySem.W.kitOne K (.ref C_Sum) (.type "int") = some false)
    (ki_Sum_bool : PySem.W.kitOne K (.ref C_Sum) (.type "bool") = some false)
    (ki_Sum_tuple : PySem.W.kitOne K (.ref C_Sum) (.type "tuple") = some false)
    (nf_Sum_tuple : PySem.W.subIn K (.type "tuple") (.ref C_Sum) = some false)
    (kis_Sum : PySem.W.kitOne K (.ref C_Sum) (.ref C_Sum) = some true)
    (kin_Sum_int : PySem.W.kitOne K (.type "int") (.ref C_Sum) = some false)
    (kin_Sum_bool : PySem.W.kitOne K (.type "bool") (.ref C_Sum) = some false)
    (kin_Sum_tuple : PySem.W.kitOne K (.type "tuple") (.ref C_Sum) = some false)
    (kin_Sum_list : PySem.W.kitOne K (.type "list") (.ref C_Sum) = some false)
    (kin_Sum_NoneType : PySem.W.kitOne K (.type "NoneType") (.ref C_Sum) = some false)
    (kin_Sum_str : PySem.W.kitOne K (.type "str") (.ref C_Sum) = some false)
    (kin_Sum_dict : PySem.W.kitOne K (.type "dict") (.ref C_Sum) = some false)
    (na_Sum_base : PySem.W.findIn K (.ref C_Sum) "_base" = some none)
    (na_Sum_first : PySem.W.findIn K (.ref C_Sum) "_first" = some none)
    (na_Sum_loop : PySem.W.findIn K (.ref C_Sum) "_loop" = some none)
    (na_Sum_take : PySem.W.findIn K (.ref C_Sum) "_take" = some none)
    (gf_Sum___init__ : PySem.W.findIn K (.ref C_Sum) "__init__" = some (some (.ref a_Sum___init__)))
    (l_Sum___init__ : K.lookup a_Sum___init__ = some ⟨oc_Sum___init__, od_Sum___init__, .func (PySem.W.fnOf "__init__" "Sum.__init__" (defArgs s_Sum___init__) (defBody s_Sum___init__) (defScope s_Sum___init__) .none kV_Sum___init__ dc_Sum___init__ pm_Sum___init__ an_Sum___init__ cd_Sum___init__ ct_Sum___init__), sl_Sum___init__⟩)
    (c_Sum___init__ : PySem.W.codeIn K cd_Sum___init__ "Sum.__init__" = true)
    (kp_Sum___init__ : PySem.W.keepIn K (.ref a_Sum___init__) = true)
    (isf_Sum___init__ : PySem.W.isFn K (.ref a_Sum___init__) = true)
    (pa_Sum_base : PySem.W.findIn K (.ref C_Sum) "base" = some (some (.ref pr_Sum_base)))
    (pg_Sum_base : PySem.W.specialIn K (.ref pr_Sum_base) "__get__" = some (some (.builtin "property.__get__")))
    (pt_Sum_base : PySem.W.takesIn K (.ref pr_Sum_base) = some true)
    (prr_Sum_base : PySem.W.recIn K pr_Sum_base "property" = some (.ref a_Sum_base :: rs_Sum_base))
    (l_Sum_base : K.lookup a_Sum_base = some ⟨oc_Sum_base, od_Sum_base, .func (PySem.W.fnOf "base" "Sum.base" (defArgs s_Sum_base) (defBody s_Sum_base) (defScope s_Sum_base) .none kV_Sum_base dc_Sum_base pm_Sum_base an_Sum_base cd_Sum_base ct_Sum_base), sl_Sum_base⟩)
    (c_Sum_base : PySem.W.codeIn K cd_Sum_base "Sum.base" = true)
    (kp_Sum_base : PySem.W.keepIn K (.ref a_Sum_base) = true)
    (pa_Sum_take : PySem.W.findIn K (.ref C_Sum) "take" = some (some (.ref pr_Sum_take)))
    (pg_Sum_take : PySem.W.specialIn K (.ref pr_Sum_take) "__get__" = some (some (.builtin "property.__get__")))
    (pt_Sum_take : PySem.W.takesIn K (.ref pr_Sum_take) = some true)
    (prr_Sum_take : PySem.W.recIn K pr_Sum_take "property" = some (.ref a_Sum_take :: rs_Sum_take))
    (l_Sum_take : K.lookup a_Sum_take = some ⟨oc_Sum_take, od_Sum_take, .func (PySem.W.fnOf "take" "Sum.take" (defArgs s_Sum_take) (defBody s_Sum_take) (defScope s_Sum_take) .none kV_Sum_take dc_Sum_take pm_Sum_take an_Sum_take cd_Sum_take ct_Sum_take), sl_Sum_take⟩)
    (c_Sum_take : PySem.W.codeIn K cd_Sum_take "Sum.take" = true)
    (kp_Sum_take : PySem.W.keepIn K (.ref a_Sum_take) = true)
    (pa_Sum_first : PySem.W.findIn K (.ref C_Sum) "first" = some (some (.ref pr_Sum_first)))
    (pg_Sum_first : PySem.W.specialIn K (.ref pr_Sum_first) "__get__" = some (some (.builtin "property.__get__")))
    (pt_Sum_first : PySem.W.takesIn K (.ref pr_Sum_first) = some true)
    (prr_Sum_first : PySem.W.recIn K pr_Sum_first "property" = some (.ref a_Sum_first :: rs_Sum_first))
    (l_Sum_first : K.lookup a_Sum_first = some ⟨oc_Sum_first, od_Sum_first, .func (PySem.W.fnOf "first" "Sum.first" (defArgs s_Sum_first) (defBody s_Sum_first) (defScope s_Sum_first) .none kV_Sum_first dc_Sum_first pm_Sum_first an_Sum_first cd_Sum_first ct_Sum_first), sl_Sum_first⟩)
    (c_Sum_first : PySem.W.codeIn K cd_Sum_first "Sum.first" = true)
    (kp_Sum_first : PySem.W.keepIn K (.ref a_Sum_first) = true)
    (pa_Sum_loop : PySem.W.findIn K (.ref C_Sum) "loop" = some (some (.ref pr_Sum_loop)))
    (pg_Sum_loop : PySem.W.specialIn K (.ref pr_Sum_loop) "__get__" = some (some (.builtin "property.__get__")))
    (pt_Sum_loop : PySem.W.takesIn K (.ref pr_Sum_loop) = some true)
    (prr_Sum_loop : PySem.W.recIn K pr_Sum_loop "property" = some (.ref a_Sum_loop :: rs_Sum_loop))
    (l_Sum_loop : K.lookup a_Sum_loop = some ⟨oc_Sum_loop, od_Sum_loop, .func (PySem.W.fnOf "loop" "Sum.loop" (defArgs s_Sum_loop) (defBody s_Sum_loop) (defScope s_Sum_loop) .none kV_Sum_loop dc_Sum_loop pm_Sum_loop an_Sum_loop cd_Sum_loop ct_Sum_loop), sl_Sum_loop⟩)
    (c_Sum_loop : PySem.W.codeIn K cd_Sum_loop "Sum.loop" = true)
    (kp_Sum_loop : PySem.W.keepIn K (.ref a_Sum_loop) = true)
    (gf_Sum___eq__ : PySem.W.findIn K (.ref C_Sum) "__eq__" = some (some (.ref a_Sum___eq__)))
    (l_Sum___eq__ : K.lookup a_Sum___eq__ = some ⟨oc_Sum___eq__, od_Sum___eq__, .func (PySem.W.fnOf "__eq__" "Sum.__eq__" (defArgs s_Sum___eq__) (defBody s_Sum___eq__) (defScope s_Sum___eq__) .none kV_Sum___eq__ dc_Sum___eq__ pm_Sum___eq__ an_Sum___eq__ cd_Sum___eq__ ct_Sum___eq__), sl_Sum___eq__⟩)
    (c_Sum___eq__ : PySem.W.codeIn K cd_Sum___eq__ "Sum.__eq__" = true)
    (kp_Sum___eq__ : PySem.W.keepIn K (.ref a_Sum___eq__) = true)
    (isf_Sum___eq__ : PySem.W.isFn K (.ref a_Sum___eq__) = true)
    (z_int : PySem.W.nsIn K mainGlobals "int" = some none)
    (z_bool : PySem.W.nsIn K mainGlobals "bool" = some none)
    (z_len : PySem.W.nsIn K mainGlobals "len" = some none)
    (z_range : PySem.W.nsIn K mainGlobals "range" = some none)
    (z_isinstance : PySem.W.nsIn K mainGlobals "isinstance" = some none)
    (z_tuple : PySem.W.nsIn K mainGlobals "tuple" = some none)
    (z_enumerate : PySem.W.nsIn K mainGlobals "enumerate" = some none)
    (z_any : PySem.W.nsIn K mainGlobals "any" = some none)
    (z_min : PySem.W.nsIn K mainGlobals "min" = some none)
    (z_max : PySem.W.nsIn K mainGlobals "max" = some none)
    (z_super : PySem.W.nsIn K mainGlobals "super" = some none)
    (z_dict : PySem.W.nsIn K mainGlobals "dict" = some none)
    (z_ValueError : PySem.W.nsIn K mainGlobals "ValueError" = some none)
    (xl_BadWeights___init__ : K.lookup C_BadWeights = some (PySem.excClassObj nm_BadWeights___init__ qn_BadWeights___init__ C_BadWeights N_BadWeights___init__ bs_BadWeights___init__ bm_BadWeights___init__ true sn_BadWeights___init__ sub_BadWeights___init__ ab_BadWeights___init__ col_BadWeights___init__ dd_BadWeights___init__ k0_BadWeights___init__ k1_BadWeights___init__ k2_BadWeights___init__ k3_BadWeights___init__ k5_BadWeights___init__ "ValueError.__new__"))
    (xrb_BadWeights___init__ : PySem.HandSPX.refsVE bm_BadWeights___init__ = true)
    (xsa_BadWeights___init__ : PySem.W.findIn K (.ref C_BadWeights) "__setattr__" = some (some (.builtin "object.__setattr__")))
    (xga_BadWeights___init__ : PySem.W.findIn K (.ref C_BadWeights) "__getattribute__" = some (some (.builtin "BaseException.__getattribute__")))
    (xgg_BadWeights___init__ : PySem.W.findIn K (.ref C_BadWeights) "__getattr__" = some none)
    (xnf_BadWeights___init__ : PySem.W.findIn K (.ref C_BadWeights) "index" = some none)
    (xic_BadWeights___init__ : PySem.W.findIn K (.ref C_BadWeights) "__init__" = some (some (.ref a_BadWeights___init__)))
    (xtc_BadWeights___init__ : PySem.W.typeIn K (.ref a_BadWeights___init__) = some (.type "function"))
    (xhd_BadWeights___init__ : PySem.W.hasDictIn K C_BadWeights = true)
    (xup_BadWeights___init__ : PySem.W.ks_superIn K C_BadWeights C_BadWeights "__init__" = some (some (.builtin "ValueError.__init__")))
    (xan_BadWeights___init__ : PySem.W.nsIn K PySem.cStatics "thirdparty.any" = some none)
    (xve_BadWeights___init__ : PySem.W.subIn K (.ref C_BadWeights) (.type "ValueError") = some true)
    (xow_BadWeights___init__ : PySem.W.mroIn K C_BadWeights (.ref C_BadWeights) = some true)
    (rmn_BadWeights___init__ : (l.prog.main.scope.names.lookup ("super" : Str)).isSome = false)
    (xfn_BadWeights___init__ : K.lookup a_BadWeights___init__ = some ⟨oc_BadWeights___init__, od_BadWeights___init__, .func (PySem.W.ksFn "__init__" "BadWeights.__init__" (defArgs s_BadWeights___init__) (defBody s_BadWeights___init__) (defScope s_BadWeights___init__) .none .none dc_BadWeights___init__ pm_BadWeights___init__ an_BadWeights___init__ (.ref cda_BadWeights___init__) ct_BadWeights___init__ cc_BadWeights___init__), sl_BadWeights___init__⟩)
    (xco_BadWeights___init__ : PySem.W.codeIn K (.ref cda_BadWeights___init__) "BadWeights.__init__" = true)
    (xcd_BadWeights___init__ : K.lookup cda_BadWeights___init__ = some ⟨ccl_BadWeights___init__, cdd_BadWeights___init__, .fields vs_BadWeights___init__, ccs_BadWeights___init__⟩)
    (rvs_BadWeights___init__ : vs_BadWeights___init__[2]? = some (.str file_BadWeights___init__ tf_BadWeights___init__))
    (rfi_BadWeights___init__ : ((l.prog.main.file : Str) == file_BadWeights___init__) = true)
    (xcc_BadWeights___init__ : K.lookup cc_BadWeights___init__ = some ⟨cl_BadWeights___init__, cld_BadWeights___init__, .cell (some (.ref C_BadWeights)), csl_BadWeights___init__⟩)
    : ∃ fd : FuncData, (∀ (s : Shared) (v : Value), BindsTo s fd ⟨[v], []⟩ [("_law_script", v)]) ∧ ∀ base : Heap, K.In base → base.Ns mainGlobals mg → FnOk l.prog w K mg base CX0 lv_law fa fd ["_law_script"] (sp_law K) := by
  have e := hfa.symm.trans (PySem.W.mg_of X G gf_law)
  have e2 : a_law = fa := by cases e; rfl
  subst e2
  have F_check_divisor : FunD K "check_divisor" "check_divisor" (defArgs s_check_divisor) (defBody s_check_divisor) (defScope s_check_divisor) [.int 100] [] a_check_divisor _ := ⟨⟨_, _, _, _, _, _, _, _, _, _, rfl, l_check_divisor, c_check_divisor, .inr ⟨List.cons_ne_nil _ _, _, _, [.int 100 dt0_check_divisor], _, rfl, ldT_check_divisor, by rw [rdv_check_divisor], (.cons ⟨_, rfl⟩ .nil)⟩, .inl rfl⟩, kp_check_divisor⟩
  obtain ⟨dn0_check_divisor, ro_check_divisor, bo_check_divisor⟩ := F_check_divisor.binds1 (ps := ["d", "greatest"]) 2 1 (List.cons_ne_nil _ _) rfl fun _ _ _ _ _ _ _ us its h1 h2 => match us, its, h1, h2 with | [_, _], [_], _, _ => ⟨_, rfl, rfl⟩
  cases ro_check_divisor
  obtain ⟨ds_check_divisor, rd_check_divisor, bd_check_divisor⟩ := F_check_divisor.binds1 (ps := ["d", "greatest"]) 1 0 (List.cons_ne_nil _ _) rfl fun _ _ _ _ _ _ _ us its h1 h2 => match us, its, h1, h2 with | [_], [_], _, _ => ⟨_, rfl, rfl⟩
  refine ⟨PySem.W.fnOf "law" "law" (defArgs s_law) (defBody s_law) (defScope s_law) .none kV_law dc_law pm_law an_law cd_law ct_law, fun s v => .of_eq rfl, fun base _ _ => ?_⟩
  exact ok_law (T :=
    { C_TrickError := C_TrickError,
      g_TrickError := PySem.W.mg_of X G gx_TrickError,
      x_TrickError := x_TrickError,
      k_TrickError := k_TrickError,
      s_TrickError := s_TrickError,
      t_TrickError := t_TrickError,
      C_BadBase := C_BadBase,
      g_BadBase := PySem.W.mg_of X G gx_BadBase,
      x_BadBase := x_BadBase,
      k_BadBase := k_BadBase,
      s_BadBase := s_BadBase,
      t_BadBase := t_BadBase,
      C_BadTake := C_BadTake,
      g_BadTake := PySem.W.mg_of X G gx_BadTake,
      x_BadTake := x_BadTake,
      k_BadTake := k_BadTake,
      s_BadTake := s_BadTake,
      t_BadTake := t_BadTake,
      C_BadDivisor := C_BadDivisor,
      g_BadDivisor := PySem.W.mg_of X G gx_BadDivisor,
      x_BadDivisor := x_BadDivisor,
      k_BadDivisor := k_BadDivisor,
      s_BadDivisor := s_BadDivisor,
      t_BadDivisor := t_BadDivisor,
      C_BadSum := C_BadSum,
      g_BadSum := PySem.W.mg_of X G gx_BadSum,
      x_BadSum := x_BadSum,
      k_BadSum := k_BadSum,
      s_BadSum := s_BadSum,
      t_BadSum := t_BadSum,
      C_BadWeights := C_BadWeights,
      g_BadWeights := PySem.W.mg_of X G gx_BadWeights,
      k_BadWeights := k_BadWeights,
      s_BadWeights := s_BadWeights,
      t_BadWeights := t_BadWeights,
      t_c_LEAST_BASE := tk_LEAST_BASE,
      c_LEAST_BASE := PySem.W.mg_of X G cx_LEAST_BASE,
      t_c_GREATEST_BASE := tk_GREATEST_BASE,
      c_GREATEST_BASE := PySem.W.mg_of X G cx_GREATEST_BASE,
      t_c_GREATEST_TAKE := tk_GREATEST_TAKE,
      c_GREATEST_TAKE := PySem.W.mg_of X G cx_GREATEST_TAKE,
      t_c_GREATEST_DIVISOR := tk_GREATEST_DIVISOR,
      c_GREATEST_DIVISOR := PySem.W.mg_of X G cx_GREATEST_DIVISOR,
      t_c_GREATEST_WEIGHT := tk_GREATEST_WEIGHT,
      c_GREATEST_WEIGHT := PySem.W.mg_of X G cx_GREATEST_WEIGHT,
      t_c_MOST_WEIGHTS := tk_MOST_WEIGHTS,
      c_MOST_WEIGHTS := PySem.W.mg_of X G cx_MOST_WEIGHTS,
      t_c_GREATEST_SUM_DIVISOR := tk_GREATEST_SUM_DIVISOR,
      c_GREATEST_SUM_DIVISOR := PySem.W.mg_of X G cx_GREATEST_SUM_DIVISOR,
      a_is_integer := a_is_integer,
      d_is_integer := _,
      F_is_integer := fun_mk (st := s_is_integer) l_is_integer c_is_integer kp_is_integer,
      b_is_integer := (fun_mk (st := s_is_integer) l_is_integer c_is_integer kp_is_integer).binds (ps := ["told", "low", "high"]) fun _ _ _ _ _ _ us hl => match us, hl with | [_, _, _], _ => rfl,
      g_is_integer := PySem.W.mg_of X G gf_is_integer,
      a_is_tuple := a_is_tuple,
      d_is_tuple := _,
      F_is_tuple := fun_mk (st := s_is_tuple) l_is_tuple c_is_tuple kp_is_tuple,
      b_is_tuple := (fun_mk (st := s_is_tuple) l_is_tuple c_is_tuple kp_is_tuple).binds (ps := ["told", "fewest", "most"]) fun _ _ _ _ _ _ us hl => match us, hl with | [_, _, _], _ => rfl,
      g_is_tuple := PySem.W.mg_of X G gf_is_tuple,
      a_first_wrong := a_first_wrong,
      d_first_wrong := _,
      F_first_wrong := fun_mk (st := s_first_wrong) l_first_wrong c_first_wrong kp_first_wrong,
      b_first_wrong := (fun_mk (st := s_first_wrong) l_first_wrong c_first_wrong kp_first_wrong).binds (ps := ["told", "low", "high"]) fun _ _ _ _ _ _ us hl => match us, hl with | [_, _, _], _ => rfl,
      g_first_wrong := PySem.W.mg_of X G gf_first_wrong,
      a_check_base := a_check_base,
      d_check_base := _,
      F_check_base := fun_mk (st := s_check_base) l_check_base c_check_base kp_check_base,
      b_check_base := (fun_mk (st := s_check_base) l_check_base c_check_base kp_check_base).binds (ps := ["base"]) fun _ _ _ _ _ _ us hl => match us, hl with | [_], _ => rfl,
      g_check_base := PySem.W.mg_of X G gf_check_base,
      a_check_take := a_check_take,
      d_check_take := _,
      F_check_take := fun_mk (st := s_check_take) l_check_take c_check_take kp_check_take,
      b_check_take := (fun_mk (st := s_check_take) l_check_take c_check_take kp_check_take).binds (ps := ["take"]) fun _ _ _ _ _ _ us hl => match us, hl with | [_], _ => rfl,
      g_check_take := PySem.W.mg_of X G gf_check_take,
      a_check_divisor := a_check_divisor,
      d_check_divisor := _,
      F_check_divisor := F_check_divisor,
      b_check_divisor := bo_check_divisor,
      ds_check_divisor := ds_check_divisor,
      rd_check_divisor := rd_check_divisor,
      bd_check_divisor := bd_check_divisor,
      g_check_divisor := PySem.W.mg_of X G gf_check_divisor,
      a_block_of := a_block_of,
      d_block_of := _,
      F_block_of := fun_mk (st := s_block_of) l_block_of c_block_of kp_block_of,
      b_block_of := (fun_mk (st := s_block_of) l_block_of c_block_of kp_block_of).binds (ps := ["base", "take"]) fun _ _ _ _ _ _ us hl => match us, hl with | [_, _], _ => rfl,
      g_block_of := PySem.W.mg_of X G gf_block_of,
      a_sum_fails := a_sum_fails,
      d_sum_fails := _,
      F_sum_fails := fun_mk (st := s_sum_fails) l_sum_fails c_sum_fails kp_sum_fails,
      b_sum_fails := (fun_mk (st := s_sum_fails) l_sum_fails c_sum_fails kp_sum_fails).binds (ps := ["told", "d"]) fun _ _ _ _ _ _ us hl => match us, hl with | [_, _], _ => rfl,
      g_sum_fails := PySem.W.mg_of X G gf_sum_fails,
      a_check_weights := a_check_weights,
      d_check_weights := _,
      F_check_weights := fun_mk (st := s_check_weights) l_check_weights c_check_weights kp_check_weights,
      b_check_weights := (fun_mk (st := s_check_weights) l_check_weights c_check_weights kp_check_weights).binds (ps := ["told", "fewest"]) fun _ _ _ _ _ _ us hl => match us, hl with | [_, _], _ => rfl,
      g_check_weights := PySem.W.mg_of X G gf_check_weights,
      a_check_sum := a_check_sum,
      d_check_sum := _,
      F_check_sum := fun_mk (st := s_check_sum) l_check_sum c_check_sum kp_check_sum,
      b_check_sum := (fun_mk (st := s_check_sum) l_check_sum c_check_sum kp_check_sum).binds (ps := ["told"]) fun _ _ _ _ _ _ us hl => match us, hl with | [_], _ => rfl,
      g_check_sum := PySem.W.mg_of X G gf_check_sum,
      a_sum_block := a_sum_block,
      d_sum_block := _,
      F_sum_block := fun_mk (st := s_sum_block) l_sum_block c_sum_block kp_sum_block,
      b_sum_block := (fun_mk (st := s_sum_block) l_sum_block c_sum_block kp_sum_block).binds (ps := ["told"]) fun _ _ _ _ _ _ us hl => match us, hl with | [_], _ => rfl,
      g_sum_block := PySem.W.mg_of X G gf_sum_block,
      a_weight_at := a_weight_at,
      d_weight_at := _,
      F_weight_at := fun_mk (st := s_weight_at) l_weight_at c_weight_at kp_weight_at,
      b_weight_at := (fun_mk (st := s_weight_at) l_weight_at c_weight_at kp_weight_at).binds (ps := ["told", "place"]) fun _ _ _ _ _ _ us hl => match us, hl with | [_, _], _ => rfl,
      g_weight_at := PySem.W.mg_of X G gf_weight_at,
      a_power_rests := a_power_rests,
      d_power_rests := _,
      F_power_rests := fun_mk (st := s_power_rests) l_power_rests c_power_rests kp_power_rests,
      b_power_rests := (fun_mk (st := s_power_rests) l_power_rests c_power_rests kp_power_rests).binds (ps := ["block", "d"]) fun _ _ _ _ _ _ us hl => match us, hl with | [_, _], _ => rfl,
      g_power_rests := PySem.W.mg_of X G gf_power_rests,
      a_turn := a_turn,
      d_turn := _,
      F_turn := fun_mk (st := s_turn) l_turn c_turn kp_turn,
      b_turn := (fun_mk (st := s_turn) l_turn c_turn kp_turn).binds (ps := ["told", "d"]) fun _ _ _ _ _ _ us hl => match us, hl with | [_, _], _ => rfl,
      g_turn := PySem.W.mg_of X G gf_turn,
      a_new_rests := a_new_rests,
      d_new_rests := _,
      F_new_rests := fun_mk (st := s_new_rests) l_new_rests c_new_rests kp_new_rests,
      b_new_rests := (fun_mk (st := s_new_rests) l_new_rests c_new_rests kp_new_rests).binds (ps := ["least", "block", "power", "weight", "d"]) fun _ _ _ _ _ _ us hl => match us, hl with | [_, _, _, _, _], _ => rfl,
      g_new_rests := PySem.W.mg_of X G gf_new_rests,
      a__law_taken := a__law_taken,
      d__law_taken := _,
      F__law_taken := fun_mk (st := s__law_taken) l__law_taken c__law_taken kp__law_taken,
      b__law_taken := (fun_mk (st := s__law_taken) l__law_taken c__law_taken kp__law_taken).binds (ps := ["_law_row", "_law_many"]) fun _ _ _ _ _ _ us hl => match us, hl with | [_, _], _ => rfl,
      g__law_taken := PySem.W.mg_of X G gf__law_taken,
      a__law_power := a__law_power,
      d__law_power := _,
      F__law_power := fun_mk (st := s__law_power) l__law_power c__law_power kp__law_power,
      b__law_power := (fun_mk (st := s__law_power) l__law_power c__law_power kp__law_power).binds (ps := ["_law_base", "_law_many"]) fun _ _ _ _ _ _ us hl => match us, hl with | [_, _], _ => rfl,
      g__law_power := PySem.W.mg_of X G gf__law_power,
      a__law_sum := a__law_sum,
      d__law_sum := _,
      F__law_sum := fun_mk (st := s__law_sum) l__law_sum c__law_sum kp__law_sum,
      b__law_sum := (fun_mk (st := s__law_sum) l__law_sum c__law_sum kp__law_sum).binds (ps := ["_law_row", "_law_d"]) fun _ _ _ _ _ _ us hl => match us, hl with | [_, _], _ => rfl,
      g__law_sum := PySem.W.mg_of X G gf__law_sum,
      a__law_weight := a__law_weight,
      d__law_weight := _,
      F__law_weight := fun_mk (st := s__law_weight) l__law_weight c__law_weight kp__law_weight,
      b__law_weight := (fun_mk (st := s__law_weight) l__law_weight c__law_weight kp__law_weight).binds (ps := ["_law_told", "_law_at"]) fun _ _ _ _ _ _ us hl => match us, hl with | [_, _], _ => rfl,
      g__law_weight := PySem.W.mg_of X G gf__law_weight,
      a_law := a_law,
      d_law := _,
      F_law := fun_mk (st := s_law) l_law c_law kp_law,
      b_law := (fun_mk (st := s_law) l_law c_law kp_law).binds (ps := ["_law_script"]) fun _ _ _ _ _ _ us hl => match us, hl with | [_], _ => rfl,
      g_law := PySem.W.mg_of X G gf_law,
      C_Sum := C_Sum,
      cl_Sum := ⟨pg_Sum, hd_Sum, po_Sum, sa_Sum⟩,
      g_Sum := PySem.W.mg_of X G gx_Sum,
      kc_Sum := kc_Sum,
      ins_Sum := fun _ _ _ _ e => .ins e ⟨pg_Sum, hd_Sum, po_Sum, sa_Sum⟩ cc_Sum sp_cls tk_cls mo_Sum,
      ki_Sum_int := ki_Sum_int,
      ki_Sum_bool := ki_Sum_bool,
      ki_Sum_tuple := ki_Sum_tuple,
      nf_Sum_tuple := nf_Sum_tuple,
      kis_Sum := kis_Sum,
      kin_Sum_int := kin_Sum_int,
      kin_Sum_bool := kin_Sum_bool,
      kin_Sum_tuple := kin_Sum_tuple,
      kin_Sum_list := kin_Sum_list,
      kin_Sum_NoneType := kin_Sum_NoneType,
      kin_Sum_str := kin_Sum_str,
      kin_Sum_dict := kin_Sum_dict,
      na_Sum_base := na_Sum_base,
      na_Sum_first := na_Sum_first,
      na_Sum_loop := na_Sum_loop,
      na_Sum_take := na_Sum_take,
      a_Sum___init__ := a_Sum___init__,
      d_Sum___init__ := _,
      F_Sum___init__ := fun_mk (st := s_Sum___init__) l_Sum___init__ c_Sum___init__ kp_Sum___init__,
      b_Sum___init__ := (fun_mk (st := s_Sum___init__) l_Sum___init__ c_Sum___init__ kp_Sum___init__).binds (ps := ["self", "base", "take", "first", "loop"]) fun _ _ _ _ _ _ us hl => match us, hl with | [_, _, _, _, _], _ => rfl,
      mk_Sum := ⟨mk_Sum, gf_Sum___init__, isf_Sum___init__, kc_Sum⟩,
      a_Sum_base := a_Sum_base,
      d_Sum_base := _,
      F_Sum_base := fun_mk (st := s_Sum_base) l_Sum_base c_Sum_base kp_Sum_base,
      b_Sum_base := (fun_mk (st := s_Sum_base) l_Sum_base c_Sum_base kp_Sum_base).binds (ps := ["self"]) fun _ _ _ _ _ _ us hl => match us, hl with | [_], _ => rfl,
      q_Sum_base := pr_Sum_base,
      p_Sum_base := ⟨pa_Sum_base, pg_Sum_base, pt_Sum_base, ⟨_, prr_Sum_base⟩⟩,
      a_Sum_take := a_Sum_take,
      d_Sum_take := _,
      F_Sum_take := fun_mk (st := s_Sum_take) l_Sum_take c_Sum_take kp_Sum_take,
      b_Sum_take := (fun_mk (st := s_Sum_take) l_Sum_take c_Sum_take kp_Sum_take).binds (ps := ["self"]) fun _ _ _ _ _ _ us hl => match us, hl with | [_], _ => rfl,
      q_Sum_take := pr_Sum_take,
      p_Sum_take := ⟨pa_Sum_take, pg_Sum_take, pt_Sum_take, ⟨_, prr_Sum_take⟩⟩,
      a_Sum_first := a_Sum_first,
      d_Sum_first := _,
      F_Sum_first := fun_mk (st := s_Sum_first) l_Sum_first c_Sum_first kp_Sum_first,
      b_Sum_first := (fun_mk (st := s_Sum_first) l_Sum_first c_Sum_first kp_Sum_first).binds (ps := ["self"]) fun _ _ _ _ _ _ us hl => match us, hl with | [_], _ => rfl,
      q_Sum_first := pr_Sum_first,
      p_Sum_first := ⟨pa_Sum_first, pg_Sum_first, pt_Sum_first, ⟨_, prr_Sum_first⟩⟩,
      a_Sum_loop := a_Sum_loop,
      d_Sum_loop := _,
      F_Sum_loop := fun_mk (st := s_Sum_loop) l_Sum_loop c_Sum_loop kp_Sum_loop,
      b_Sum_loop := (fun_mk (st := s_Sum_loop) l_Sum_loop c_Sum_loop kp_Sum_loop).binds (ps := ["self"]) fun _ _ _ _ _ _ us hl => match us, hl with | [_], _ => rfl,
      q_Sum_loop := pr_Sum_loop,
      p_Sum_loop := ⟨pa_Sum_loop, pg_Sum_loop, pt_Sum_loop, ⟨_, prr_Sum_loop⟩⟩,
      a_Sum___eq__ := a_Sum___eq__,
      d_Sum___eq__ := _,
      F_Sum___eq__ := fun_mk (st := s_Sum___eq__) l_Sum___eq__ c_Sum___eq__ kp_Sum___eq__,
      b_Sum___eq__ := (fun_mk (st := s_Sum___eq__) l_Sum___eq__ c_Sum___eq__ kp_Sum___eq__).binds (ps := ["self", "other"]) fun _ _ _ _ _ _ us hl => match us, hl with | [_, _], _ => rfl,
      m_Sum___eq__ := ⟨gf_Sum___eq__, isf_Sum___eq__, kp_Sum___eq__⟩,
      n_int := PySem.W.mg_none_of X G z_int,
      n_bool := PySem.W.mg_none_of X G z_bool,
      n_len := PySem.W.mg_none_of X G z_len,
      n_range := PySem.W.mg_none_of X G z_range,
      n_isinstance := PySem.W.mg_none_of X G z_isinstance,
      n_tuple := PySem.W.mg_none_of X G z_tuple,
      n_enumerate := PySem.W.mg_none_of X G z_enumerate,
      n_any := PySem.W.mg_none_of X G z_any,
      n_min := PySem.W.mg_none_of X G z_min,
      n_max := PySem.W.mg_none_of X G z_max,
      n_super := PySem.W.mg_none_of X G z_super,
      n_dict := PySem.W.mg_none_of X G z_dict,
      n_ValueError := PySem.W.mg_none_of X G z_ValueError,
      a_BadWeights___init__ := a_BadWeights___init__,
      x_BadWeights := { gC := PySem.W.mg_of X G gx_BadWeights, cls := ⟨_, _, _, _, _, _, _, _, _, _, _, _, _, _, _, xl_BadWeights___init__, xrb_BadWeights___init__⟩, sa := xsa_BadWeights___init__, ga := xga_BadWeights___init__, gg := xgg_BadWeights___init__, noF := xnf_BadWeights___init__, iC := xic_BadWeights___init__, tC := xtc_BadWeights___init__, kC := k_BadWeights, exC := s_BadWeights, tyC := t_BadWeights, hdC := xhd_BadWeights___init__, up := xup_BadWeights___init__, any := xan_BadWeights___init__, ve := xve_BadWeights___init__, own := xow_BadWeights___init__, sup := PySem.W.mg_none_of X G z_super, main := rmn_BadWeights___init__, fn := ⟨_, _, _, _, _, _, _, _, _, _, _, _, _, _, _, _, _, _, _, xfn_BadWeights___init__, xco_BadWeights___init__, xcd_BadWeights___init__, rvs_BadWeights___init__, rfi_BadWeights___init__, xcc_BadWeights___init__⟩, text := ⟨_, _, _, _, _, _, _, _, _, _, _, rfl, rfl, fun _ => rfl⟩, kS := rfl, kK := rfl, k0 := rfl, kF := rfl, nF := by decide, nD := by decide, noCell := by decide +kernel, bind := fun _ _ _ _ _ _ _ _ _ => rfl, plain := fun _ => rfl, knd := rfl, co := rfl, gen := rfl } })
theorem walk {l : PySem.W.OpenLaw} {q : Program} {loose : List Str} {XP : (Str → Option Value) → Heap → Prop} {YP : World → Heap → Prop} {d : DefRec} {K : Params → PySem.W.Frag} (hn : l.most = some 63) (hdf : d.params.defaults = [])
    (hY : ∀ (w : World) (h : Heap), YP w h → (K w.params).In h)
    (F : ∀ (w : World) (mg : Str → Option Value) (fa : Addr) (h : Heap), (K w.params).In h → h.Ns mainGlobals mg → mg d.name = some (.ref fa) →
      ∃ fd : FuncData, (∀ (s : Shared) (u : Value), BindsTo s fd ⟨[u], []⟩ [("_law_script", u)]) ∧ ∀ base : Heap, (K w.params).In base → base.Ns mainGlobals mg → FnOk l.prog w (K w.params) mg base CX0 lv_law fa fd ["_law_script"] (sp_law (K w.params))) :
    PySem.W.WalkO q loose XP YP l.row.toRowW d [] (fun f vs => PySem.call f vs) :=
  L2.walk_of (n := 63) (k := lv_law) (x := "_law_script") (CX := fun _ => CX0) (sp := fun w => sp_law (K w.params)) hn (by decide) hdf ⟨rfl, by decide, by decide⟩ hY F (fun _ _ a ns hl hO hS => ⟨a, ns, rfl, scr_of hO hS, hl, fun _ => rfl⟩) fun _ _ _ _ _ z => z
end Rt
open PySem PySem.W PyProof.Rows
set_option maxRecDepth 100000 in
set_option maxHeartbeats 0 in
theorem PySem.Challenge.cw_resttricks_k20_whole_multiples_of_sums_holds : PySem.Challenge.rw_resttricks_k20_whole_multiples_of_sums.Holds := by
  w_on; o_law; k_head; (case hw => w_witness2)
  k_fill
  refine Rt.walk (l := PySem.Challenge.rw_resttricks_k20_whole_multiples_of_sums) rfl rfl (fun w h Y => PySem.W.kIn_of Y) ?F
  case F =>
    intro w mg fa h KX G hmg
    refine' Rt.all_mk KX G hmg ?gx_TrickError ?x_TrickError ?k_TrickError ?s_TrickError ?t_TrickError ?gx_BadBase ?x_BadBase ?k_BadBase ?s_BadBase ?t_BadBase ?gx_BadTake ?x_BadTake ?k_BadTake ?s_BadTake ?t_BadTake ?gx_BadDivisor ?x_BadDivisor ?k_BadDivisor ?s_BadDivisor ?t_BadDivisor ?gx_BadSum ?x_BadSum ?k_BadSum ?s_BadSum ?t_BadSum ?gx_BadWeights ?k_BadWeights ?s_BadWeights ?t_BadWeights ?cx_LEAST_BASE ?cx_GREATEST_BASE ?cx_GREATEST_TAKE ?cx_GREATEST_DIVISOR ?cx_GREATEST_WEIGHT ?cx_MOST_WEIGHTS ?cx_GREATEST_SUM_DIVISOR ?gf_is_integer ?l_is_integer ?c_is_integer ?kp_is_integer ?gf_is_tuple ?l_is_tuple ?c_is_tuple ?kp_is_tuple ?gf_first_wrong ?l_first_wrong ?c_first_wrong ?kp_first_wrong ?gf_check_base ?l_check_base ?c_check_base ?kp_check_base ?gf_check_take ?l_check_take ?c_check_take ?kp_check_take ?gf_check_divisor ?l_check_divisor ?c_check_divisor ?kp_check_divisor ?ldT_check_divisor ?rdv_check_divisor ?gf_block_of ?l_block_of ?c_block_of ?kp_block_of ?gf_sum_fails ?l_sum_fails ?c_sum_fails ?kp_sum_fails ?gf_check_weights ?l_check_weights ?c_check_weights ?kp_check_weights ?gf_check_sum ?l_check_sum ?c_check_sum ?kp_check_sum ?gf_sum_block ?l_sum_block ?c_sum_block ?kp_sum_block ?gf_weight_at ?l_weight_at ?c_weight_at ?kp_weight_at ?gf_power_rests ?l_power_rests ?c_power_rests ?kp_power_rests ?gf_turn ?l_turn ?c_turn ?kp_turn ?gf_new_rests ?l_new_rests ?c_new_rests ?kp_new_rests ?gf__law_taken ?l__law_taken ?c__law_taken ?kp__law_taken ?gf__law_power ?l__law_power ?c__law_power ?kp__law_power ?gf__law_sum ?l__law_sum ?c__law_sum ?kp__law_sum ?gf__law_weight ?l__law_weight ?c__law_weight ?kp__law_weight ?gf_law ?l_law ?c_law ?kp_law ?gx_Sum ?pg_Sum ?hd_Sum ?po_Sum ?sa_Sum ?mk_Sum ?kc_Sum ?cc_Sum ?mo_Sum ?sp_cls ?tk_cls ?ki_Sum_int ?ki_Sum_bool ?ki_Sum_tuple ?nf_Sum_tuple ?kis_Sum ?kin_Sum_int ?kin_Sum_bool ?kin_Sum_tuple ?kin_Sum_list ?kin_Sum_NoneType ?kin_Sum_str ?kin_Sum_dict ?na_Sum_base ?na_Sum_first ?na_Sum_loop ?na_Sum_take ?gf_Sum___init__ ?l_Sum___init__ ?c_Sum___init__ ?kp_Sum___init__ ?isf_Sum___init__ ?pa_Sum_base ?pg_Sum_base ?pt_Sum_base ?prr_Sum_base ?l_Sum_base ?c_Sum_base ?kp_Sum_base ?pa_Sum_take ?pg_Sum_take ?pt_Sum_take ?prr_Sum_take ?l_Sum_take ?c_Sum_take ?kp_Sum_take ?pa_Sum_first ?pg_Sum_first ?pt_Sum_first ?prr_Sum_first ?l_Sum_first ?c_Sum_first ?kp_Sum_first ?pa_Sum_loop ?pg_Sum_loop ?pt_Sum_loop ?prr_Sum_loop ?l_Sum_loop ?c_Sum_loop ?kp_Sum_loop ?gf_Sum___eq__ ?l_Sum___eq__ ?c_Sum___eq__ ?kp_Sum___eq__ ?isf_Sum___eq__ ?z_int ?z_bool ?z_len ?z_range ?z_isinstance ?z_tuple ?z_enumerate ?z_any ?z_min ?z_max ?z_super ?z_dict ?z_ValueError ?xl_BadWeights___init__ ?xrb_BadWeights___init__ ?xsa_BadWeights___init__ ?xga_BadWeights___init__ ?xgg_BadWeights___init__ ?xnf_BadWeights___init__ ?xic_BadWeights___init__ ?xtc_BadWeights___init__ ?xhd_BadWeights___init__ ?xup_BadWeights___init__ ?xan_BadWeights___init__ ?xve_BadWeights___init__ ?xow_BadWeights___init__ ?rmn_BadWeights___init__ ?xfn_BadWeights___init__ ?xco_BadWeights___init__ ?xcd_BadWeights___init__ ?rvs_BadWeights___init__ ?rfi_BadWeights___init__ ?xcc_BadWeights___init__
    (case gx_TrickError => k_is)
    (case x_TrickError => k_exc)
    (case k_TrickError => k_is)
    (case s_TrickError => k_is)
    (case t_TrickError => k_is)
    (case gx_BadBase => k_is)
    (case x_BadBase => k_exc)
    (case k_BadBase => k_is)
    (case s_BadBase => k_is)
    (case t_BadBase => k_is)
    (case gx_BadTake => k_is)
    (case x_BadTake => k_exc)
    (case k_BadTake => k_is)
    (case s_BadTake => k_is)
    (case t_BadTake => k_is)
    (case gx_BadDivisor => k_is)
    (case x_BadDivisor => k_exc)
    (case k_BadDivisor => k_is)
    (case s_BadDivisor => k_is)
    (case t_BadDivisor => k_is)
    (case gx_BadSum => k_is)
    (case x_BadSum => k_exc)
    (case k_BadSum => k_is)
    (case s_BadSum => k_is)
    (case t_BadSum => k_is)
    (case gx_BadWeights => k_is)
    (case k_BadWeights => k_is)
    (case s_BadWeights => k_is)
    (case t_BadWeights => k_is)
    (case cx_LEAST_BASE => k_is)
    (case cx_GREATEST_BASE => k_is)
    (case cx_GREATEST_TAKE => k_is)
    (case cx_GREATEST_DIVISOR => k_is)
    (case cx_GREATEST_WEIGHT => k_is)
    (case cx_MOST_WEIGHTS => k_is)
    (case cx_GREATEST_SUM_DIVISOR => k_is)
    (case gf_is_integer => k_is)
    (case l_is_integer => k_is)
    (case c_is_integer => k_is)
    (case kp_is_integer => k_is)
    (case gf_is_tuple => k_is)
    (case l_is_tuple => k_is)
    (case c_is_tuple => k_is)
    (case kp_is_tuple => k_is)
    (case gf_first_wrong => k_is)
    (case l_first_wrong => k_is)
    (case c_first_wrong => k_is)
    (case kp_first_wrong => k_is)
    (case gf_check_base => k_is)
    (case l_check_base => k_is)
    (case c_check_base => k_is)
    (case kp_check_base => k_is)
    (case gf_check_take => k_is)
    (case l_check_take => k_is)
    (case c_check_take => k_is)
    (case kp_check_take => k_is)
    (case gf_check_divisor => k_is)
    (case l_check_divisor => k_is)
    (case c_check_divisor => k_is)
    (case kp_check_divisor => k_is)
    (case ldT_check_divisor => k_is)
    (case rdv_check_divisor => first | rfl | decide +kernel)
    (case gf_block_of => k_is)
    (case l_block_of => k_is)
    (case c_block_of => k_is)
    (case kp_block_of => k_is)
    (case gf_sum_fails => k_is)
    (case l_sum_fails => k_is)
    (case c_sum_fails => k_is)
    (case kp_sum_fails => k_is)
    (case gf_check_weights => k_is)
    (case l_check_weights => k_is)
    (case c_check_weights => k_is)
    (case kp_check_weights => k_is)
    (case gf_check_sum => k_is)
    (case l_check_sum => k_is)
    (case c_check_sum => k_is)
    (case kp_check_sum => k_is)
    (case gf_sum_block => k_is)
    (case l_sum_block => k_is)
    (case c_sum_block => k_is)
    (case kp_sum_block => k_is)
    (case gf_weight_at => k_is)
    (case l_weight_at => k_is)
    (case c_weight_at => k_is)
    (case kp_weight_at => k_is)
    (case gf_power_rests => k_is)
    (case l_power_rests => k_is)
    (case c_power_rests => k_is)
    (case kp_power_rests => k_is)
    (case gf_turn => k_is)
    (case l_turn => k_is)
    (case c_turn => k_is)
    (case kp_turn => k_is)
    (case gf_new_rests => k_is)
    (case l_new_rests => k_is)
    (case c_new_rests => k_is)
    (case kp_new_rests => k_is)
    (case gf__law_taken => k_is)
    (case l__law_taken => k_is)
    (case c__law_taken => k_is)
    (case kp__law_taken => k_is)
    (case gf__law_power => k_is)
    (case l__law_power => k_is)
    (case c__law_power => k_is)
    (case kp__law_power => k_is)
    (case gf__law_sum => k_is)
    (case l__law_sum => k_is)
    (case c__law_sum => k_is)
    (case kp__law_sum => k_is)
    (case gf__law_weight => k_is)
    (case l__law_weight => k_is)
    (case c__law_weight => k_is)
    (case kp__law_weight => k_is)
    (case gf_law => k_is)
    (case l_law => k_is)
    (case c_law => k_is)
    (case kp_law => k_is)
    (case gx_Sum => k_is)
    (case pg_Sum => k_is)
    (case hd_Sum => k_is)
    (case po_Sum => k_is)
    (case sa_Sum => k_is)
    (case mk_Sum => k_is)
    (case kc_Sum => k_is)
    (case cc_Sum => k_is)
    (case mo_Sum => k_is)
    (case sp_cls => k_is)
    (case tk_cls => k_is)
    (case ki_Sum_int => first | k_is | rfl)
    (case ki_Sum_bool => first | k_is | rfl)
    (case ki_Sum_tuple => first | k_is | rfl)
    (case nf_Sum_tuple => first | k_is | rfl)
    (case kis_Sum => first | k_is | rfl)
    (case kin_Sum_int => first | k_is | rfl)
    (case kin_Sum_bool => first | k_is | rfl)
    (case kin_Sum_tuple => first | k_is | rfl)
    (case kin_Sum_list => first | k_is | rfl)
    (case kin_Sum_NoneType => first | k_is | rfl)
    (case kin_Sum_str => first | k_is | rfl)
    (case kin_Sum_dict => first | k_is | rfl)
    (case na_Sum_base => k_is)
    (case na_Sum_first => k_is)
    (case na_Sum_loop => k_is)
    (case na_Sum_take => k_is)
    (case gf_Sum___init__ => k_is)
    (case l_Sum___init__ => k_is)
    (case c_Sum___init__ => k_is)
    (case kp_Sum___init__ => k_is)
    (case isf_Sum___init__ => k_is)
    (case pa_Sum_base => k_is)
    (case pg_Sum_base => k_is)
    (case pt_Sum_base => k_is)
    (case prr_Sum_base => k_is)
    (case l_Sum_base => k_is)
    (case c_Sum_base => k_is)
    (case kp_Sum_base => k_is)
    (case pa_Sum_take => k_is)
    (case pg_Sum_take => k_is)
    (case pt_Sum_take => k_is)
    (case prr_Sum_take => k_is)
    (case l_Sum_take => k_is)
    (case c_Sum_take => k_is)
    (case kp_Sum_take => k_is)
    (case pa_Sum_first => k_is)
    (case pg_Sum_first => k_is)
    (case pt_Sum_first => k_is)
    (case prr_Sum_first => k_is)
    (case l_Sum_first => k_is)
    (case c_Sum_first => k_is)
    (case kp_Sum_first => k_is)
    (case pa_Sum_loop => k_is)
    (case pg_Sum_loop => k_is)
    (case pt_Sum_loop => k_is)
    (case prr_Sum_loop => k_is)
    (case l_Sum_loop => k_is)
    (case c_Sum_loop => k_is)
    (case kp_Sum_loop => k_is)
    (case gf_Sum___eq__ => k_is)
    (case l_Sum___eq__ => k_is)
    (case c_Sum___eq__ => k_is)
    (case kp_Sum___eq__ => k_is)
    (case isf_Sum___eq__ => k_is)
    (case z_int => k_is)
    (case z_bool => k_is)
    (case z_len => k_is)
    (case z_range => k_is)
    (case z_isinstance => k_is)
    (case z_tuple => k_is)
    (case z_enumerate => k_is)
    (case z_any => k_is)
    (case z_min => k_is)
    (case z_max => k_is)
    (case z_super => k_is)
    (case z_dict => k_is)
    (case z_ValueError => k_is)
    (case xl_BadWeights___init__ => k_is)
    (case xrb_BadWeights___init__ => first | rfl | decide +kernel)
    (case xsa_BadWeights___init__ => k_is)
    (case xga_BadWeights___init__ => k_is)
    (case xgg_BadWeights___init__ => k_is)
    (case xnf_BadWeights___init__ => k_is)
    (case xic_BadWeights___init__ => k_is)
    (case xtc_BadWeights___init__ => k_is)
    (case xhd_BadWeights___init__ => k_is)
    (case xup_BadWeights___init__ => ks_is)
    (case xan_BadWeights___init__ => k_is)
    (case xve_BadWeights___init__ => k_is)
    (case xow_BadWeights___init__ => k_is)
    (case rmn_BadWeights___init__ => first | rfl | decide +kernel)
    (case xfn_BadWeights___init__ => k_is)
    (case xco_BadWeights___init__ => k_is)
    (case xcd_BadWeights___init__ => k_is)
    (case rvs_BadWeights___init__ => first | rfl | decide +kernel)
    (case rfi_BadWeights___init__ => first | rfl | decide +kernel)
    (case xcc_BadWeights___init__ => k_is)
#print axioms PySem.Challenge.cw_resttricks_k20_whole_multiples_of_sums_holds
