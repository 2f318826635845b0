import PyProof.Rows.All
import Wide.All
import OpenK.AllK
import Wide.FinOn
import HandS.ForMost
import HandS.Exc
import HandS.TryOnly
import HandS.ExcOwn
import HandS.WordsExc
import HandS.TryMany
import HandS.IsInst
import HandS.Property
import HandS.Wide
import HandS.SortInts
import HandS.Conv
import HandS.Evl
import HandS.NoneIn
import HandS.ExcIs
import HandS.ExcSuper
import KE.KExcSuper
import KE.KExcInit
import KE.GoesMore
import HandS.Rev
import HandS.FStr
import HandS.Walk
import HandS.WideMore
import HandS.TupAny
import HandS.TupMul
import HandS.Style
import HandS.SetFor
import HandS.Strs
import HandS.Defaults
import HandS.RaiseMore
import HandS.Zip
import PySem.Challenge.RW_resttricks_k32_whole_good_chains
set_option Elab.async false
set_option linter.all false
set_option maxRecDepth 100000
set_option maxHeartbeats 2000000
namespace Rt
open PySem L2 PySem.Spec PyProof.Rows
/-! ### the text by places -/
def topS (i : Nat) : Stmt := PySem.Challenge.pw_resttricks_k32_whole_good_chains.main.body.getD i (.Pass ⟨0, 0, 0, 0⟩)
abbrev s_is_integer : Stmt := topS 14
abbrev s_is_list_or_tuple : Stmt := topS 15
abbrev s_check_base : Stmt := topS 16
abbrev s_check_take : Stmt := topS 17
abbrev s_check_divisor : Stmt := topS 18
abbrev s_block_of : Stmt := topS 20
abbrev s_check_trick : Stmt := topS 24
abbrev s_trick_block : Stmt := topS 25
abbrev s_made_of : Stmt := topS 26
abbrev s_made_with : Stmt := topS 27
abbrev s_chain_tells : Stmt := topS 32
abbrev s_check_tricks : Stmt := topS 33
abbrev s_check_chain : Stmt := topS 34
abbrev s_made_of_all : Stmt := topS 35
abbrev s_blocks_product : Stmt := topS 36
abbrev s_rest_pairs : Stmt := topS 37
abbrev s_factor : Stmt := topS 39
abbrev s_tells_multiples : Stmt := topS 40
abbrev s__law_taken : Stmt := topS 42
abbrev s__law_behind : Stmt := topS 43
abbrev s__law_number : Stmt := topS 44
abbrev s__law_tricks : Stmt := topS 45
abbrev s_law : Stmt := topS 46
abbrev s_BadTricks___init__ : Stmt := inClass (topS 7) 0
abbrev s_TooWide___init__ : Stmt := inClass (topS 8) 0
abbrev s_Trick___init__ : Stmt := inClass (topS 23) 0
abbrev s_Trick_base : Stmt := inClass (topS 23) 1
abbrev s_Trick_take : Stmt := inClass (topS 23) 2
abbrev s_Trick_times : Stmt := inClass (topS 23) 3
abbrev s_Trick___eq__ : Stmt := inClass (topS 23) 4
theorem sc_is_integer : FnScope ["told", "low", "high"] ["told", "low", "high"] (defScope s_is_integer) := ⟨rfl, rfl, rfl, by decide +kernel, rfl, by decide +kernel, by decide +kernel⟩
abbrev lv_is_integer : Nat := 1
theorem sc_is_list_or_tuple : FnScope ["told", "fewest", "most"] ["told", "fewest", "most"] (defScope s_is_list_or_tuple) := ⟨rfl, rfl, rfl, by decide +kernel, rfl, by decide +kernel, by decide +kernel⟩
abbrev lv_is_list_or_tuple : Nat := 1
theorem sc_check_base : FnScope ["base"] ["base"] (defScope s_check_base) := ⟨rfl, rfl, rfl, by decide +kernel, rfl, by decide +kernel, by decide +kernel⟩
abbrev lv_check_base : Nat := 2
theorem sc_check_take : FnScope ["take"] ["take"] (defScope s_check_take) := ⟨rfl, rfl, rfl, by decide +kernel, rfl, by decide +kernel, by decide +kernel⟩
abbrev lv_check_take : Nat := 2
theorem sc_check_divisor : FnScope ["d", "greatest"] ["d", "greatest"] (defScope s_check_divisor) := ⟨rfl, rfl, rfl, by decide +kernel, rfl, by decide +kernel, by decide +kernel⟩
abbrev lv_check_divisor : Nat := 2
theorem sc_block_of : FnScope ["base", "take"] ["base", "take"] (defScope s_block_of) := ⟨rfl, rfl, rfl, by decide +kernel, rfl, by decide +kernel, by decide +kernel⟩
abbrev lv_block_of : Nat := 1
theorem sc_check_trick : FnScope ["trick"] ["trick"] (defScope s_check_trick) := ⟨rfl, rfl, rfl, by decide +kernel, rfl, by decide +kernel, by decide +kernel⟩
abbrev lv_check_trick : Nat := 1
theorem sc_trick_block : FnScope ["trick"] ["trick"] (defScope s_trick_block) := ⟨rfl, rfl, rfl, by decide +kernel, rfl, by decide +kernel, by decide +kernel⟩
abbrev lv_trick_block : Nat := 3
theorem sc_made_of : FnScope ["trick", "n"] ["trick", "n"] (defScope s_made_of) := ⟨rfl, rfl, rfl, by decide +kernel, rfl, by decide +kernel, by decide +kernel⟩
abbrev lv_made_of : Nat := 4
theorem sc_made_with : FnScope ["block", "times", "n"] ["block", "times", "n"] (defScope s_made_with) := ⟨rfl, rfl, rfl, by decide +kernel, rfl, by decide +kernel, by decide +kernel⟩
abbrev lv_made_with : Nat := 1
theorem sc_chain_tells : FnScope ["tricks", "d", "found", "rest", "made"] ["tricks", "d"] (defScope s_chain_tells) := ⟨rfl, rfl, rfl, by decide +kernel, rfl, by decide +kernel, by decide +kernel⟩
abbrev lv_chain_tells : Nat := 7
theorem sc_check_tricks : FnScope ["tricks", "index", "trick"] ["tricks"] (defScope s_check_tricks) := ⟨rfl, rfl, rfl, by decide +kernel, rfl, by decide +kernel, by decide +kernel⟩
abbrev lv_check_tricks : Nat := 3
theorem sc_check_chain : FnScope ["tricks", "d"] ["tricks", "d"] (defScope s_check_chain) := ⟨rfl, rfl, rfl, by decide +kernel, rfl, by decide +kernel, by decide +kernel⟩
abbrev lv_check_chain : Nat := 5
theorem sc_made_of_all : FnScope ["tricks", "n", "trick"] ["tricks", "n"] (defScope s_made_of_all) := ⟨rfl, rfl, rfl, by decide +kernel, rfl, by decide +kernel, by decide +kernel⟩
abbrev lv_made_of_all : Nat := 5
theorem sc_blocks_product : FnScope ["tricks", "found", "trick"] ["tricks"] (defScope s_blocks_product) := ⟨rfl, rfl, rfl, by decide +kernel, rfl, by decide +kernel, by decide +kernel⟩
abbrev lv_blocks_product : Nat := 4
theorem sc_rest_pairs : FnScope ["tricks", "d", "width", "made", "n"] ["tricks", "d"] (defScope s_rest_pairs) := ⟨rfl, rfl, rfl, by decide +kernel, rfl, by decide +kernel, by decide +kernel⟩
abbrev lv_rest_pairs : Nat := 6
theorem sc_factor : FnScope ["trick", "d"] ["trick", "d"] (defScope s_factor) := ⟨rfl, rfl, rfl, by decide +kernel, rfl, by decide +kernel, by decide +kernel⟩
abbrev lv_factor : Nat := 4
theorem sc_tells_multiples : FnScope ["block", "times", "d"] ["block", "times", "d"] (defScope s_tells_multiples) := ⟨rfl, rfl, rfl, by decide +kernel, rfl, by decide +kernel, by decide +kernel⟩
abbrev lv_tells_multiples : Nat := 1
theorem sc__law_taken : FnScope ["_law_row", "_law_many", "_law_found", "_law_cell"] ["_law_row", "_law_many"] (defScope s__law_taken) := ⟨rfl, rfl, rfl, by decide +kernel, rfl, by decide +kernel, by decide +kernel⟩
abbrev lv__law_taken : Nat := 1
theorem sc__law_behind : FnScope ["_law_told", "_law_n", "_law_base", "_law_take", "_law_times", "_law_block", "_law_rest"] ["_law_told", "_law_n"] (defScope s__law_behind) := ⟨rfl, rfl, rfl, by decide +kernel, rfl, by decide +kernel, by decide +kernel⟩
abbrev lv__law_behind : Nat := 1
theorem sc__law_number : FnScope ["_law_row", "_law_size", "_law_n"] ["_law_row"] (defScope s__law_number) := ⟨rfl, rfl, rfl, by decide +kernel, rfl, by decide +kernel, by decide +kernel⟩
abbrev lv__law_number : Nat := 2
theorem sc__law_tricks : FnScope ["_law_told", "_law_base", "_law_take", "_law_times"] ["_law_told"] (defScope s__law_tricks) := ⟨rfl, rfl, rfl, by decide +kernel, rfl, by decide +kernel, by decide +kernel⟩
abbrev lv__law_tricks : Nat := 5
theorem sc_law : FnScope ["_law_script", "_law_line", "_law_d", "_law_told", "_law_product", "_law_k", "_law_base", "_law_good", "_law_due", "_law_turn", "_law_n", "_law_later", "_law_one", "_law_times"] ["_law_script"] (defScope s_law) := ⟨rfl, rfl, rfl, by decide +kernel, rfl, by decide +kernel, by decide +kernel⟩
abbrev lv_law : Nat := 9
theorem sc_Trick___init__ : FnScope ["self", "base", "take", "times"] ["self", "base", "take", "times"] (defScope s_Trick___init__) := ⟨rfl, rfl, rfl, by decide +kernel, rfl, by decide +kernel, by decide +kernel⟩
abbrev lv_Trick___init__ : Nat := 3
theorem sc_Trick_base : FnScope ["self"] ["self"] (defScope s_Trick_base) := ⟨rfl, rfl, rfl, by decide +kernel, rfl, by decide +kernel, by decide +kernel⟩
abbrev lv_Trick_base : Nat := 1
theorem sc_Trick_take : FnScope ["self"] ["self"] (defScope s_Trick_take) := ⟨rfl, rfl, rfl, by decide +kernel, rfl, by decide +kernel, by decide +kernel⟩
abbrev lv_Trick_take : Nat := 1
theorem sc_Trick_times : FnScope ["self"] ["self"] (defScope s_Trick_times) := ⟨rfl, rfl, rfl, by decide +kernel, rfl, by decide +kernel, by decide +kernel⟩
abbrev lv_Trick_times : Nat := 1
theorem sc_Trick___eq__ : FnScope ["self", "other"] ["self", "other"] (defScope s_Trick___eq__) := ⟨rfl, rfl, rfl, by decide +kernel, rfl, by decide +kernel, by decide +kernel⟩
abbrev lv_Trick___eq__ : Nat := 1
/-! ### what is known of the top behind its run -/
/-! ### an own error whose __init__ says super().__init__(text); self.F = F -/
end Rt
namespace ErrX
open PySem PySem.W PySem.Calls PyProof.Rows PySem.HandSPX
/-- what the written part says of such a class at C, its field F, its __init__ at fI -/
structure ErrTxt (P : Program) (K : Frag) (mg : Str → Option Value) (x fld : Str) (C fI : Addr) (ae : PySem.Expr) (st : Stmt) : Prop where
  gC : mg x = some (.ref C)
  cls : ∃ nm q N bs bm sn sub ab col dd k0 k1 k2 k3 k5, K.lookup C = some (excClassObj nm q C N bs bm true sn sub ab col dd k0 k1 k2 k3 k5 "ValueError.__new__") ∧ refsVE bm = true
  sa : findIn K (.ref C) "__setattr__" = some (some (.builtin "object.__setattr__"))
  ga : findIn K (.ref C) "__getattribute__" = some (some (.builtin "BaseException.__getattribute__"))
  gg : findIn K (.ref C) "__getattr__" = some none
  noF : findIn K (.ref C) fld = some none
  iC : findIn K (.ref C) "__init__" = some (some (.ref fI))
  tC : typeIn K (.ref fI) = some (.type "function")
  kC : keepIn K (.ref C) = true
  exC : subIn K (.ref C) (.type "BaseException") = some true
  tyC : typeIn K (.ref C) = some (.type "type")
  hdC : hasDictIn K C = true
  up : ks_superIn K C C "__init__" = some (some (.builtin "ValueError.__init__"))
  any : nsIn K cStatics "thirdparty.any" = some none
  ve : subIn K (.ref C) (.type "ValueError") = some true
  own : mroIn K C (.ref C) = some true
  sup : mg "super" = none
  main : (P.main.scope.names.lookup ("super" : Str)).isSome = false
  fn : ∃ (oc : Value) (od : Option Addr) (doc pm : Value) (an : Option Addr) (cda : Addr) (ct : Value) (osl : Array (Option Value)) (cc : Addr) (vs : Array Value) (file : Str) (tf : Tok) (ccl cl : Value) (cdd cld : Option Addr) (ccs csl : Array (Option Value)) (qual : Str),
    K.lookup fI = some ⟨oc, od, .func (ksFn "__init__" qual (L2.defArgs st) (L2.defBody st) (L2.defScope st) .none .none doc pm an (.ref cda) ct cc), osl⟩ ∧ codeIn K (.ref cda) qual = true ∧
    K.lookup cda = some ⟨ccl, cdd, .fields vs, ccs⟩ ∧ vs[2]? = some (.str file tf) ∧ ((P.main.file : Str) == file) = true ∧ K.lookup cc = some ⟨cl, cld, .cell (some (.ref C)), csl⟩
  text : ∃ (p0 p1 p2 p3 p4 q1 q2 q3 q4 a1 a2 : Pos), L2.defBody st = [.Expr (.Call (.Attribute (.Call (.Name "super" p0) [] [] p1) "__init__" p2) [ae] [] p3) p4, .Assign [.Attribute (.Name "self" q1) fld q2] (.Name fld q3) q4] ∧
    L2.defArgs st = { posonlyargs := [], args := [{ arg := "self", annotation := none, pos := a1 }, { arg := fld, annotation := none, pos := a2 }], vararg := none, kwonlyargs := [], kw_defaults := [], kwarg := none, defaults := [] } ∧
    ∀ env : Env, eval (.Call (.Attribute (.Call (.Name "super" p0) [] [] p1) "__init__" p2) [ae] [] p3) env = (do
      let ov ← attributeBase (.Call (.Name "super" p0) [] [] p1) "__init__" env (eval (.Call (.Name "super" p0) [] [] p1) env)
      standAt p2.atName
      let (f, first) ← holding [ov] (getMethod ov "__init__" (do return (← importBound (.Call (.Name "super" p0) [] [] p1) env).getD true))
      callWith p3 f first (backTo p3 (starEach [ae] env)) [])
  kS : (L2.defScope st).names.lookup ("super" : Str) = some .globalImplicit
  kK : (L2.defScope st).names.lookup ("__class__" : Str) = some .free
  k0 : (L2.defScope st).names.lookup ("self" : Str) = some .local
  kF : (L2.defScope st).names.lookup fld = some .local
  nF : (("self" : Str) == fld) = false
  nD : (fld == ("__debug__" : Str)) = false
  noCell : ∀ y ∈ (L2.defScope st).names, y.2 ≠ .cell
  bind : ∀ (qual : Str) (doc pm : Value) (an : Option Addr) (cda : Addr) (ct : Value) (cc : Addr) (u v : Value), bindArgs (ksFn "__init__" qual (L2.defArgs st) (L2.defBody st) (L2.defScope st) .none .none doc pm an (.ref cda) ct cc) ⟨[u, v], []⟩ = pure [(("self" : Str), u), (fld, v)]
  plain : ∀ env : Env, starEach (ae :: []) env = (false, eval ae env) :: starEach [] env
  knd : (L2.defScope st).kind = .function
  co : (L2.defScope st).isCoroutine = false
  gen : (L2.defScope st).isGenerator = false
/-- what __init__ leaves of a fresh error at x -/
structure EndOf (h h' : Heap) (x C dx t1 : Addr) (fld : Str) (v : Value) : Prop where
  keep : ∀ b o, b ≠ x → h.get? b = some o → h'.get? b = some o
  obj : h'.get? x = some { cls := .ref C, dict := some dx, data := .fields #[.ref t1, .none, .none, .none, .bool false, .none] }
  dbig : h.objs.size ≤ dx
  dne : dx ≠ x
  ns : h'.Ns1 dx (fun y => if y = fld then some v else none)
/-- the argument of super().__init__ is a text, whatever the field is -/
def ArgOk (prog : Program) (w : World) (ae : PySem.Expr) (fld : Str) (v : Value) : Prop := ∀ (env : Env) (m : Str → Option Value) (A : Around) (Q : Value → Shared → Prop) (E : Value → Shared → Prop) (s : Shared), s.heap.Ns env.locals m → m fld = some v → env.scope.kind = .function → env.kindOf fld = some .local →
  (∀ z t tk, Q (.str z t) { s with toks := tk }) → wpAny (model prog w) A (eval ae env) Q E s
theorem argOk_const {prog : Program} {w : World} {ae : PySem.Expr} {fld : Str} {v : Value} {z : Str} {k : Nat} {pos : Pos} (h : ae = .Constant (.str z) k pos) : ArgOk prog w ae fld v := by
  intro env m A Q E s _ _ _ _ hq
  rw [h]
  exact wpAny_Constant_str (hq _ _ _)
/-- None, or an int whose text is short -/
def NoneInt (v : L2.V) : Prop := v = .non ∨ ∃ i : Int, v = .int i ∧ i.natAbs.log2 < 1920
theorem argOk_f {prog : Program} {w : World} {ae : PySem.Expr} {fld : Str} {v : L2.V} {u : Value} {z : Str} {k : Nat} {p1 p2 p3 p4 : Pos} (n : NoneInt v) (r : L2.RelV v u)
    (h : ae = .JoinedStr [.Constant (.str z) k p1, .FormattedValue (.Name fld p2) (-1) none p3] p4 := by rfl) (hz : z.length ≤ 1000 := by decide) (hd : (fld == ("__debug__" : Str)) = false := by decide) : ArgOk prog w ae fld u := by
  intro env m A Q E s hn hv hk hl hq
  rw [h]
  have e0 : evalEach [.Constant (.str z) k p1, .FormattedValue (.Name fld p2) (-1) none p3] env = [eval (.Constant (.str z) k p1) env, eval (.FormattedValue (.Name fld p2) (-1) none p3) env] := by first | rfl | simp [evalEach]
  refine wpAny_JoinedStr ?_
  rw [e0]
  refine wpAny_Constant_str ?_
  have l0 : (Str.empty ++ z).length ≤ 1000 := by
    rw [Str.length_append]
    exact Nat.le_trans (Nat.le_of_eq (Nat.zero_add _)) hz
  refine ⟨z, _, rfl, Nat.le_trans l0 (by rw [sizeLine_eq]; decide), ?_⟩
  refine wpAny_FormattedValue_plain (wpAny_Name (wpAny_loadName_local hk hl hn hv ?_) hd)
  rcases n with rfl | ⟨i, rfl, hi⟩
  · cases r
    refine wpAny_formatField_none ⟨"None", _, rfl, ?_, ?_⟩
    · rw [Str.length_append, sizeLine_eq]
      have e : ("None" : Str).length = 4 := by decide
      omega
    · refine ⟨?_, hq _ _ _⟩
      rw [Str.length_append, sizeLine_eq]
      have e : ("None" : Str).length = 4 := by decide
      omega
  · obtain ⟨t, rfl⟩ := r
    refine wpAny_formatField_int hi ⟨_, _, rfl, ?_, ?_⟩
    · rw [Str.length_append, sizeLine_eq]
      have e := int_text_length_le (k := 1920) (by decide) hi
      have e2 : (Str.ofString (toString i)).length = (toString i).length := PySem.ofString_length _
      omega
    · refine ⟨?_, hq _ _ _⟩
      rw [Str.length_append, sizeLine_eq]
      have e := int_text_length_le (k := 1920) (by decide) hi
      have e2 : (Str.ofString (toString i)).length = (toString i).length := PySem.ofString_length _
      omega
/-- the argument of super().__init__ in the text of an __init__ -/
def aeOf (st : Stmt) : PySem.Expr := match L2.defBody st with
  | .Expr (.Call _ (a :: _) _ _) _ :: _ => a
  | _ => .Name "self" ⟨0, 0, 0, 0⟩
section
variable {prog : Program} {w : World} {A : Around} {E : Value → Shared → Prop} {hp : Heap} {g : Array GenState} {d : Drawn} {tk : Nat} {os : OsState}
/-- the bound __init__ of the base, called: the args are laid anew -/
theorem base_init {nm q : Str} {C N u e t0 : Addr} {bs bm : List Value} {sn : List Str} {sub : List Value} {ab : Bool} {col : Option Bool} {dd : Option Addr} {k0 k1 k2 k3 k5 : Option Value} {rest : List Value} {Q : Value → Shared → Prop}
    (hC : hp.get? C = some (excClassObj nm q C N bs bm true sn sub ab col dd k0 k1 k2 k3 k5 "ValueError.__new__")) (he : hp.get? e = some (excO C t0)) (hu : hp.get? u = some (kxs_mw "ValueError.__init__" e)) (hz : rest.length ≤ sizeLine)
    (k : ∀ h' t1, (∀ b o, b ≠ e → hp.get? b = some o → h'.get? b = some o) → h'.get? e = some (excO C t1) → Q .none ⟨h', g, d, tk, os⟩) : wpAny (model prog w) A (call (.ref u) rest) Q E ⟨hp, g, d, tk, os⟩ := by
  refine wpAny_call (codeAny_of_tree ?_)
  show wpAny _ A.in1 (callAny (.ref u) { pos := rest }) _ _ _
  unfold callAny
  refine wpAny_bind (wpAny_load hu ?_)
  have c1 : (Value.type "method-wrapper" == Value.type "method" || Value.type "method-wrapper" == Value.type "builtin_function_or_method" ||
    Value.type "method-wrapper" == Value.type "method-wrapper") = true := by decide
  simp only [kxs_mw, c1, if_true]
  refine KFB.if_so (by decide) (wpAny_bind (ESX.check_bound F.excBase_ValueError hC he rfl (wpAny_bind (wpAny_pure (wpAny_pure ?_)))))
  have FB := F.excBase_ValueError
  refine ⟨plainId_quiet FB.init.plain _, codeAny_builtin FB.initEntry ?_⟩
  rw [Around.under_plainId FB.init.plain _]
  wp_walk
  refine k _ hp.objs.size (fun b o n z => ?_) ?_
  · rw [Heap.get?_update_other _ _ (Ne.symm n)]
    exact Heap.get?_push_of_some _ z
  · rw [Heap.get?_update_self _ (Heap.get?_push_of_some _ he) rfl]
    rfl
theorem call_bound1 {M : Model} {s : Shared} {pos : Pos} {u b : Addr} {env : Env} {ae : PySem.Expr} {i : String} {Q : Value → Shared → Prop} (hpl : starEach (ae :: []) env = (false, eval ae env) :: starEach [] env)
    (h : wpAny M A (eval ae env) (fun v s₁ => KxsAt i u b s₁.heap ∧ wpAny M A (call (.ref u) [v]) Q E s₁) E s) : wpAny M A (callWith pos (.ref u) [] (backTo pos (starEach [ae] env)) []) Q E s := by
  have q : wpAny M A (spliced (backTo pos (starEach (ae :: []) env))) (fun vs s₁ => KxsAt i u b s₁.heap ∧ wpAny M A (call (.ref u) vs) Q E s₁) E s := args_cons (he := hpl) (wpAny_mono h (fun v s₁ z => wpAny_of_eq rfl z) fun _ _ z => z)
  rw [hpl] at q ⊢
  exact kxs_callWith (x := b) rfl (evalArgs_plain q)
theorem err_init {R : Result → Shared → Prop} {K : Frag} {mg mb : Str → Option Value} {x fld : Str} {C fI e t0 : Addr} {ae : PySem.Expr} {st : Stmt} {v : Value} (T : ErrTxt prog K mg x fld C fI ae st) (hA : ArgOk prog w ae fld v)
    (X : K.In hp) (hlim : hp.NoLimit) (hg : hp.Ns mainGlobals mg) (hb : hp.Ns builtinsNs mb) (hbb : ∀ y : Str, y ≠ "__name__" → mb y = bootBuiltins y) (he : hp.get? e = some (excO C t0)) (hne : K.lookup e = none) (hroom : A.depth < recursionLimit)
    (hq : ∀ h' tk dx t1, EndOf hp h' e C dx t1 fld v → R (.ok (.ret .none)) ⟨h', g, d, tk, os⟩) : codeAny (model prog w) A (.call (.ref fI) ⟨[.ref e, v], []⟩) R ⟨hp, g, d, tk, os⟩ := by
  obtain ⟨oc, od, doc, pm, an, cda, ct, osl, cc, vs, file, tf, ccl, cl, cdd, cld, ccs, csl, qual, lf, lc, lda, lvs, lfile, lcc⟩ := T.fn
  obtain ⟨p0, p1, p2, p3, p4, q1, q2, q3, q4, a1, a2, hB, hArgs, hcallE⟩ := T.text
  obtain ⟨nm, qn, N, bs, bm, sn, sub, ab, col, dd, k0, k1, k2, k3, k5, lC, hbm⟩ := T.cls
  have hcl : clsIn K C = some { name := nm, bases := bs, mro := .ref C :: bm, ns := N, qualname := qn, hasDict := true, slotNames := sn, subclasses := sub, abstract := ab, collection := col, hasDel := false } := by
    unfold clsIn
    rw [lC]
    all_goals rfl
  have hbind := T.bind qual doc pm an cda ct cc (.ref e) v
  rw [hB, hArgs] at lf hbind
  have neC : e ≠ C := fun z => by
    rw [z, lC] at hne
    cases hne
  refine ks_codeAny_call_defAt (binds := [("self", .ref e), (fld, v)]) hroom (X _ _ lf) rfl hlim (codeRec_of X lc) rfl (BindsTo.of_eq hbind) T.noCell ?_ (fun h1 hns keep => ?_) T.co T.gen T.knd
  · intro y hy
    rcases List.mem_cons.mp hy with z | hy
    · rw [z]; exact T.k0
    · rcases List.mem_cons.mp hy with z | hy
      · rw [z]; exact T.kF
      · cases hy
  have hint : ∀ env : Env, env.scope = L2.defScope st → interactive env = false := fun env z => by
    unfold interactive
    rw [z, T.knd]
    rfl
  have X1 : K.In h1 := X.keeps keep
  have he1 := keep _ _ he
  have m0 : ([("self", Value.ref e), (fld, v)] : List (Str × Value)).reverse.lookup ("self" : Str) = some (.ref e) := by
    show List.lookup ("self" : Str) [(fld, v), (("self" : Str), Value.ref e)] = some (.ref e)
    rw [List.lookup_cons, T.nF]
    rfl
  have mF : ([("self", Value.ref e), (fld, v)] : List (Str × Value)).reverse.lookup fld = some v := by
    show List.lookup fld [(fld, v), (("self" : Str), Value.ref e)] = some v
    rw [List.lookup_cons, beq_self_eq_true]
  obtain ⟨oD, hD1, hD2⟩ : ∃ oD : Obj, h1.get? C = some oD ∧ oD.data = .cls { name := nm, bases := bs, mro := .ref C :: bm, ns := N, qualname := qn, hasDict := true, slotNames := sn, subclasses := sub, abstract := ab, collection := col, hasDel := false } := ⟨_, X1 _ _ lC, rfl⟩
  refine ks_wpAt_execs_cons (ks_wpAt_Expr_any (hi := hint _ rfl) (ks_wpAt_MethodCall (he := hcallE _) (ks_wpAt_super_base T.kS T.kK (by decide) rfl (X1 _ _ lf) rfl rfl rfl (X1 _ _ lda) rfl lvs lfile T.main ?_)))
  refine ks_loadName_global T.knd T.kS (Calls.loadGlobal_builtin (hg.keeps keep) T.sup (hb.keeps keep) ((hbb _ (by decide +kernel)).trans (show bootBuiltins "super" = some (.type "super") by kernel_rfl)) ⟨rfl, ?_⟩)
  refine wpAny_loadName_free T.knd T.kK rfl ⟨_, X1 _ _ lcc, rfl⟩ ?_
  refine wpAny_loadName_local T.knd T.k0 hns m0 ?_
  refine ks_wpAny_isType_cls hD1 hD2 ⟨rfl, ?_⟩
  refine ks_wpAny_call_super hD1 hD2 he1 rfl (fun c z => by cases z) (looks_mroIn X1 T.own) (fun h2 hso k2 => ?_)
  have X2 : K.In h2 := X1.keeps k2
  have he2 := k2 _ _ he1
  have hup : alongIn K "__init__" (List.drop 1 (List.dropWhile (fun (z : Value) => z != Value.ref C) (.ref C :: bm))) = some (some (.builtin "ValueError.__init__")) := by
    have z := T.up
    unfold ks_superIn at z
    rw [hcl] at z
    exact z
  have I2 : InstAt h2 e (excO C t0) C none := ⟨he2, rfl, rfl, trivial⟩
  refine kxs_getMethod kxs_ValueError hso (looks_opaque X2 T.any) (l₀ := .ref C :: bm) (fun A Q E s k q => wpAny_bind ((looks_clsIn X2 hcl) A _ E s k (wpAny_pure q))) rfl X2 hup (I2.type.andThen (looks_subIn X2 T.ve)) neC (by decide) ?_
  have k3 : ∀ b o, h2.get? b = some o → (h2.push (kxs_mw "ValueError.__init__" e)).get? b = some o := fun b o z => Heap.get?_push_of_some _ z
  have k13 : ∀ b o, h1.get? b = some o → (h2.push (kxs_mw "ValueError.__init__" e)).get? b = some o := fun b o z => k3 _ _ (k2 _ _ z)
  have hn3 := hns.keeps k13
  refine call_bound1 (i := "ValueError.__init__") (b := e) (T.plain _) ?_
  refine hA _ _ _ _ _ _ hn3 mF T.knd T.kF fun z t tk => ⟨Heap.get?_push_at rfl rfl, ?_⟩
  refine base_init (X2.keeps k3 _ _ lC) (k3 _ _ he2) (Heap.get?_push_at rfl rfl) (by rw [sizeLine_eq]; exact Nat.le_of_ble_eq_true rfl) fun h4 t1 k4 he4 => ?_
  have X4 : K.In h4 := fun b o z => k4 _ _ (fun y => by rw [y, hne] at z; cases z) (X2.keeps k3 b o z)
  have hLe : hp.objs.size ≠ e := Nat.ne_of_gt (Heap.lt_size he)
  have hn4 : h4.Ns hp.objs.size (fun y => List.lookup y ([(("self" : Str), Value.ref e), (fld, v)] : List (Str × Value)).reverse) := by
    obtain ⟨oL, es, ep, hL, r⟩ := hn3
    exact ⟨oL, es, ep, k4 _ _ hLe hL, r⟩
  -- self.F = F
  refine wpAt_of_wpAny (wpAny_execs_cons (plainObj_wpAny_Assign_Attribute ?_))
  refine ESX.ldL hn4 mF (ESX.ldL hn4 m0 ?_ T.knd T.k0) T.knd T.kF T.nD
  refine set_plain X4 (ox := excO C t1) (od := none) ⟨he4, rfl, rfl, trivial⟩ T.sa ?_
  refine exc_osa X4 he4 hcl (show refsVE (.ref C :: bm) = true from hbm) rfl T.noF (fun h5 tk5 dx k5' dn dne he5 hn5 => ?_)
  have z : hp.objs.size ≤ dx := Nat.le_trans (Nat.le_of_lt (Nat.lt_of_lt_of_le hn4.lt (Nat.le_refl _))) dn
  exact wpAny_execs_nil (hq h5 tk5 dx t1 ⟨fun b o hbe y => k5' b o hbe (k4 b o hbe (k3 b o (k2 b o (keep b o y)))), he5, z, dne, hn5⟩)
/-- a made error -/
structure Made (h h' : Heap) (e C d : Addr) (fld : Str) (v : Value) : Prop where
  keep : ∀ b o, h.get? b = some o → h'.get? b = some o
  new : h.objs.size ≤ e
  obj : ∃ oe vs, h'.get? e = some oe ∧ oe.cls = .ref C ∧ oe.dict = some d ∧ oe.data = .fields vs ∧ vs[1]? = some .none
  dbig : h.objs.size ≤ d
  dne : d ≠ e
  ns : h'.Ns1 d (fun y => if y = fld then some v else none)
theorem err_made {R : Result → Shared → Prop} {K : Frag} {mg mb : Str → Option Value} {x fld : Str} {C fI : Addr} {ae : PySem.Expr} {st : Stmt} {v : Value} (T : ErrTxt prog K mg x fld C fI ae st) (hA : ArgOk prog w ae fld v)
    (X : K.In hp) (hlim : hp.NoLimit) (hg : hp.Ns mainGlobals mg) (hb : hp.Ns builtinsNs mb) (hbb : ∀ y : Str, y ≠ "__name__" → mb y = bootBuiltins y) (hroom : A.depth + 1 < recursionLimit)
    (hq : ∀ h' tk e dx, Made hp h' e C dx fld v → R (.ok (.ret (.ref e))) ⟨h', g, d, tk, os⟩) : codeAny (model prog w) A (.call (.ref C) ⟨[v], []⟩) R ⟨hp, g, d, tk, os⟩ := by
  obtain ⟨nm, qn, N, bs, bm, sn, sub, ab, col, dd, k0, k1, k2, k3, k5, lC, hbm⟩ := T.cls
  have k : ∀ b o, hp.get? b = some o → ((hp.push (kdv_tup [v])).push (excO C hp.objs.size)).get? b = some o := fun b o z => Heap.get?_push_of_some _ (Heap.get?_push_of_some _ z)
  have hget : ((hp.push (kdv_tup [v])).push (excO C hp.objs.size)).get? (hp.objs.size + 1) = some (excO C hp.objs.size) := by heap_get
  have hnx : K.lookup (hp.objs.size + 1) = none := by
    cases z : K.lookup (hp.objs.size + 1) with
    | none => rfl
    | some o => exact absurd (Nat.lt_of_succ_lt (Heap.lt_size (X _ _ z))) (Nat.lt_irrefl _)
  refine call_own F.excBase_ValueError (fun X => refsVE_contains X bm hbm) (X _ _ lC) (looks_findIn X T.iC) (fun self => bind_fn X self T.tC) (by rw [sizeLine_eq]; exact Nat.le_of_ble_eq_true rfl) ?_
  refine err_init T hA (X.keeps k) (hlim.keeps k) (hg.keeps k) (hb.keeps k) hbb hget hnx ?_ fun h' tk' dx t1 M => ?_
  · show A.depth + 1 < recursionLimit
    exact hroom
  · have old : ∀ b o, hp.get? b = some o → h'.get? b = some o := fun b o z => M.keep b o (Nat.ne_of_lt (Nat.lt_succ_of_lt (Heap.lt_size z))) (k b o z)
    have z : hp.objs.size + 1 + 1 ≤ dx := by
      have q := M.dbig
      rw [Heap.size_push, Heap.size_push] at q
      exact q
    exact ⟨rfl, hq h' tk' (hp.objs.size + 1) dx ⟨old, Nat.le_succ _, ⟨_, _, M.obj, rfl, rfl, rfl, rfl⟩, Nat.le_trans (Nat.le_trans (Nat.le_succ _) (Nat.le_succ _)) z, M.dne, M.ns⟩⟩
end
end ErrX
namespace L2
open PySem PySem.Spec PyProof.Rows ErrX
theorem relO_fld {v : V} {v' : Value} (fld : Str) (r : RelV v v') (f : Str) : RelO (List.lookup f [(fld, v)]) (if f = fld then some v' else none) := by
  by_cases hw : f = fld
  · subst hw
    rw [if_pos rfl]
    have q : List.lookup f [(f, v)] = some v := by simp [List.lookup]
    rw [q]
    exact r
  · rw [if_neg hw]
    have qw : (f == fld) = false := by simpa using hw
    have q2 : List.lookup f [(fld, v)] = none := by simp [List.lookup, qw]
    rw [q2]
    trivial
section
variable {X : Cx} {C fI : Addr} {x fld : Str} {ae : PySem.Expr} {st : Stmt}
/-- Bad(e) -/
def tMkErr (C : Addr) (fld : Str) (ok : V → Prop) (ta : TA) : L2.St → Hp → XK → Prop := fun σ H Q => ta σ H fun vs H1 => ∃ v, vs = [v] ∧ ok v ∧ ∀ d, H1 d = none → Q (.ref C) (some d) (upd H1 d (.xd [(fld, v)]))
theorem pmk_err {ok : V → Prop} {a : PySem.Expr} {ta : TA} {p pos : Pos} {k : Nat} (T : ErrTxt X.prog X.K X.mg x fld C fI ae st) (hA : ∀ v u, ok v → RelV v u → ArgOk X.prog X.w ae fld u) (hr : Room k X.A) (ha : PA X [a] ta) (hg : Gl X x) (hdb : (x == ("__debug__" : Str)) = false)
    (he : starEach (a :: []) X.env = (false, eval a X.env) :: starEach [] X.env) (hpl : (backTo pos (starEach [] X.env)).any (·.1) = false) :
    PMk X (.Call (.Name x p) [a] [] pos) (tMkErr C fld ok ta) := by
  intro pins s σ H Q I h
  refine wpAny_Call_Name_kw (ld_glob I hg T.gC ?_ hdb)
  refine PySem.W.callWith_K (h₀ := X.base) I.ok.mod.kin T.kC (thn (ha.run pos pins s σ H _ I h) fun us s1 hh => ?_) he hpl
  obtain ⟨vs, H1, I1, r1, v, ev, okv, q1⟩ := hh
  subst ev
  refine ⟨I1.kIn, ?_⟩
  cases r1 with
  | cons rv rn =>
    rename_i v' us'
    cases rn
    show wpAny _ _ (call (.ref C) [v']) _ _ _
    have hlim := I1.nolimit
    obtain ⟨mb, hb1, hb2⟩ := I1.mod.blt
    have hgN := I1.mod.glob.keeps I1.bk
    have hbN := hb1.keeps I1.bk
    obtain ⟨hp, g, dr, tk, os⟩ := s1
    refine wpAny_call (err_made T (hA v v' okv rv) I1.kIn hlim hgN hbN hb2 (by have := hr.dp; omega) fun h' tk' e d M => ?_)
    show MkP X pins σ Q (.ref e) ⟨h', g, dr, tk', os⟩
    obtain ⟨oe, fv, hoe, hc, hd, hdat, h1⟩ := M.obj
    have hns := M.ns
    obtain ⟨G', g1, g2⟩ := restrict h' fun b => decide (b ≠ e)
    have gk : ∀ b, b ≠ e → G'.get? b = h'.get? b := fun b hb => g1 b (decide_eq_true hb)
    have ge : G'.get? e = none := g2 e (by simp)
    have old : ∀ b o, hp.get? b = some o → G'.get? b = some o := fun b o q => (gk b (Nat.ne_of_lt (Nat.lt_of_lt_of_le (Heap.lt_size q) M.new))).trans (M.keep b o q)
    have ob : ObjOk X.prog X.w (upd H1 d (.xd [(fld, v)])) G' d (.xd [(fld, v)]) := ⟨_, hns.at (fun o q => (gk d M.dne).trans q), fun f => relO_fld fld rv f⟩
    have J : Inv X pins σ (upd H1 d (.xd [(fld, v)])) ⟨G', g, dr, tk', os⟩ := I1.laid (t' := tk') old M.dbig ob
    refine ⟨e, oe, fv, ⟨G', g, dr, tk', os⟩, _, .ref C, some d, rfl, J, fun b o q => ?_, ge, hoe, ⟨hc, hd⟩, hdat, h1, ?_, rfl, I1.bare, raises_own T.exC T.tyC, q1 d (I1.hok.fresh M.dbig)⟩
    · by_cases hb : b = e
      · have q' : G'.get? b = some o := q
        rw [hb, ge] at q'
        cases q'
      · exact (gk b hb).symm.trans q
    · rw [upd_ne (Ne.symm M.dne)]
      exact I1.hok.fresh M.new
/-- raise Bad(e) -/
def tRaiseF (C : Addr) (fld : Str) (ok : V → Prop) (W : WX) (ta : TA) : TS := fun _ σ H => tMkErr C fld ok ta σ H fun cls d H' => W cls d σ H'
theorem ps_raiseF {ok : V → Prop} {a : PySem.Expr} {ta : TA} {W : WX} {p pos pos2 : Pos} {k : Nat} (T : ErrTxt X.prog X.K X.mg x fld C fI ae st) (hA : ∀ v u, ok v → RelV v u → ArgOk X.prog X.w ae fld u) (hc : X.calm = true) (hr : Room k X.A) (tk : Takes X W) (ha : PA X [a] ta) (hg : Gl X x := by rfl)
    (hdb : (x == ("__debug__" : Str)) = false := by decide) (he : starEach (a :: []) X.env = (false, eval a X.env) :: starEach [] X.env := by rfl) (hpl : (backTo pos (starEach [] X.env)).any (·.1) = false := by rfl) :
    PS X (.Raise (some (.Call (.Name x p) [a] [] pos)) none pos2) (tRaiseF C fld ok W ta) := ps_raise hc tk (pmk_err T hA hr ha hg hdb he hpl)
/-- e.F, e the error that the suite holds (at a; its class cls, its dict d) -/
def tErrF (C : Addr) (fld : Str) (a : Addr) (cls : Value) (d : Option Addr) (te : TE) : TE := fun σ H Q => te σ H fun y H1 => y = .ref a ∧ cls = .ref C ∧ ∃ (dd : Addr) (v : V), d = some dd ∧ H1 dd = some (.xd [(fld, v)]) ∧ Q v H1
theorem pe_errF {P : Program} {a : Addr} {oe : Obj} {cls : Value} {d : Option Addr} {pn : List (Addr × Obj)} {e : PySem.Expr} {te : TE} {pos : Pos} (T : ErrTxt P X.K X.mg x fld C fI ae st) (hz : Zc cls d oe) (hf : ∃ vs, oe.data = .fields vs) (he : PE (X.suite a ((a, oe) :: pn)) e te)
    (hb : attributeBase e fld X.env (eval e X.env) = eval e X.env := by rfl) : PE (X.suite a ((a, oe) :: pn)) (.Attribute e fld pos) (tErrF C fld a cls d te) := by
  refine ⟨fun pins s σ H Q I h => ?_⟩
  refine attr_of hb (thn (he.run pins s σ H _ I h) fun u s1 hh => ?_)
  obtain ⟨y, H1, I1, rx, ex, ec, dd, v, ed, ea, q⟩ := hh
  subst ex
  obtain rfl : u = Value.ref a := rx
  subst ec
  subst ed
  obtain ⟨ha, _⟩ := I1.pin (a, oe) (List.mem_append_left _ List.mem_cons_self)
  obtain ⟨vs, hd⟩ := hf
  have hx : ObjOk X.prog X.w H1 s1.heap dd (.xd [(fld, v)]) := I1.hok dd _ ea
  obtain ⟨mA, hns, hr⟩ := hx
  obtain ⟨od, ho, hl⟩ := lookIn_ns hns
  have l : List.lookup fld [(fld, v)] = some v := by simp [List.lookup]
  obtain ⟨u, hu, ru⟩ := RelO.some_of (v := v) (o := mA fld) (by rw [← l]; exact hr fld)
  have J : PySem.W.InstAt s1.heap a oe C (some od) := ⟨ha, hz.1, by unfold PySem.W.notCls; rw [hd] <;> rfl, by rw [hz.2]; exact ho⟩
  exact HandSPX.exc_get I1.kIn J T.ga T.gg T.exC (PySem.W.findObj_own T.hdC T.noF rfl (by rw [hl, hu])) (handed_of ru) ⟨v, H1, I1.tok _, ru, q⟩
end
end L2
namespace Rt
open PySem L2 PySem.Spec PyProof.Rows

structure Tx (P : Program) (K : PySem.W.Frag) (mg : Str → Option Value) : Type where
  C_TrickError : Addr
  g_TrickError : mg "TrickError" = some (.ref C_TrickError)
  x_TrickError : PySem.W.excIn K C_TrickError [.type "ValueError", .type "Exception", .type "BaseException", .type "object"] "ValueError.__new__" = true
  k_TrickError : PySem.W.keepIn K (.ref C_TrickError) = true
  s_TrickError : PySem.W.subIn K (.ref C_TrickError) (.type "BaseException") = some true
  t_TrickError : PySem.W.typeIn K (.ref C_TrickError) = some (.type "type")
  C_BadBase : Addr
  g_BadBase : mg "BadBase" = some (.ref C_BadBase)
  x_BadBase : PySem.W.excIn K C_BadBase [.type "ValueError", .type "Exception", .type "BaseException", .type "object"] "ValueError.__new__" = true
  k_BadBase : PySem.W.keepIn K (.ref C_BadBase) = true
  s_BadBase : PySem.W.subIn K (.ref C_BadBase) (.type "BaseException") = some true
  t_BadBase : PySem.W.typeIn K (.ref C_BadBase) = some (.type "type")
  C_BadTake : Addr
  g_BadTake : mg "BadTake" = some (.ref C_BadTake)
  x_BadTake : PySem.W.excIn K C_BadTake [.type "ValueError", .type "Exception", .type "BaseException", .type "object"] "ValueError.__new__" = true
  k_BadTake : PySem.W.keepIn K (.ref C_BadTake) = true
  s_BadTake : PySem.W.subIn K (.ref C_BadTake) (.type "BaseException") = some true
  t_BadTake : PySem.W.typeIn K (.ref C_BadTake) = some (.type "type")
  C_BadTimes : Addr
  g_BadTimes : mg "BadTimes" = some (.ref C_BadTimes)
  x_BadTimes : PySem.W.excIn K C_BadTimes [.type "ValueError", .type "Exception", .type "BaseException", .type "object"] "ValueError.__new__" = true
  k_BadTimes : PySem.W.keepIn K (.ref C_BadTimes) = true
  s_BadTimes : PySem.W.subIn K (.ref C_BadTimes) (.type "BaseException") = some true
  t_BadTimes : PySem.W.typeIn K (.ref C_BadTimes) = some (.type "type")
  C_BadTrick : Addr
  g_BadTrick : mg "BadTrick" = some (.ref C_BadTrick)
  x_BadTrick : PySem.W.excIn K C_BadTrick [.type "ValueError", .type "Exception", .type "BaseException", .type "object"] "ValueError.__new__" = true
  k_BadTrick : PySem.W.keepIn K (.ref C_BadTrick) = true
  s_BadTrick : PySem.W.subIn K (.ref C_BadTrick) (.type "BaseException") = some true
  t_BadTrick : PySem.W.typeIn K (.ref C_BadTrick) = some (.type "type")
  C_BadDivisor : Addr
  g_BadDivisor : mg "BadDivisor" = some (.ref C_BadDivisor)
  x_BadDivisor : PySem.W.excIn K C_BadDivisor [.type "ValueError", .type "Exception", .type "BaseException", .type "object"] "ValueError.__new__" = true
  k_BadDivisor : PySem.W.keepIn K (.ref C_BadDivisor) = true
  s_BadDivisor : PySem.W.subIn K (.ref C_BadDivisor) (.type "BaseException") = some true
  t_BadDivisor : PySem.W.typeIn K (.ref C_BadDivisor) = some (.type "type")
  C_BadTricks : Addr
  g_BadTricks : mg "BadTricks" = some (.ref C_BadTricks)
  k_BadTricks : PySem.W.keepIn K (.ref C_BadTricks) = true
  s_BadTricks : PySem.W.subIn K (.ref C_BadTricks) (.type "BaseException") = some true
  t_BadTricks : PySem.W.typeIn K (.ref C_BadTricks) = some (.type "type")
  C_TooWide : Addr
  g_TooWide : mg "TooWide" = some (.ref C_TooWide)
  k_TooWide : PySem.W.keepIn K (.ref C_TooWide) = true
  s_TooWide : PySem.W.subIn K (.ref C_TooWide) (.type "BaseException") = some true
  t_TooWide : PySem.W.typeIn K (.ref C_TooWide) = some (.type "type")
  t_c_LEAST_BASE : Tok
  c_LEAST_BASE : mg "LEAST_BASE" = some (.int 2 t_c_LEAST_BASE)
  t_c_GREATEST_BASE : Tok
  c_GREATEST_BASE : mg "GREATEST_BASE" = some (.int 16 t_c_GREATEST_BASE)
  t_c_GREATEST_TAKE : Tok
  c_GREATEST_TAKE : mg "GREATEST_TAKE" = some (.int 2 t_c_GREATEST_TAKE)
  t_c_GREATEST_DIVISOR : Tok
  c_GREATEST_DIVISOR : mg "GREATEST_DIVISOR" = some (.int 100 t_c_GREATEST_DIVISOR)
  t_c_GREATEST_TIMES : Tok
  c_GREATEST_TIMES : mg "GREATEST_TIMES" = some (.int 100 t_c_GREATEST_TIMES)
  t_c_MOST_TRICKS : Tok
  c_MOST_TRICKS : mg "MOST_TRICKS" = some (.int 4 t_c_MOST_TRICKS)
  t_c_GREATEST_CHAIN_DIVISOR : Tok
  c_GREATEST_CHAIN_DIVISOR : mg "GREATEST_CHAIN_DIVISOR" = some (.int 30 t_c_GREATEST_CHAIN_DIVISOR)
  t_c_GREATEST_PRODUCT : Tok
  c_GREATEST_PRODUCT : mg "GREATEST_PRODUCT" = some (.int 300 t_c_GREATEST_PRODUCT)
  a_is_integer : Addr
  d_is_integer : FuncData
  F_is_integer : Fun K "is_integer" "is_integer" s_is_integer a_is_integer d_is_integer
  b_is_integer : Binds K d_is_integer ["told", "low", "high"] []
  g_is_integer : mg "is_integer" = some (.ref a_is_integer)
  a_is_list_or_tuple : Addr
  d_is_list_or_tuple : FuncData
  F_is_list_or_tuple : Fun K "is_list_or_tuple" "is_list_or_tuple" s_is_list_or_tuple a_is_list_or_tuple d_is_list_or_tuple
  b_is_list_or_tuple : Binds K d_is_list_or_tuple ["told", "fewest", "most"] []
  g_is_list_or_tuple : mg "is_list_or_tuple" = some (.ref a_is_list_or_tuple)
  a_check_base : Addr
  d_check_base : FuncData
  F_check_base : Fun K "check_base" "check_base" s_check_base a_check_base d_check_base
  b_check_base : Binds K d_check_base ["base"] []
  g_check_base : mg "check_base" = some (.ref a_check_base)
  a_check_take : Addr
  d_check_take : FuncData
  F_check_take : Fun K "check_take" "check_take" s_check_take a_check_take d_check_take
  b_check_take : Binds K d_check_take ["take"] []
  g_check_take : mg "check_take" = some (.ref a_check_take)
  a_check_divisor : Addr
  d_check_divisor : FuncData
  F_check_divisor : FunD K "check_divisor" "check_divisor" (defArgs s_check_divisor) (defBody s_check_divisor) (defScope s_check_divisor) [.int 100] [] a_check_divisor d_check_divisor
  b_check_divisor : Binds K d_check_divisor ["d", "greatest"] []
  ds_check_divisor : List Value
  rd_check_divisor : Vals [.int 100] ds_check_divisor
  bd_check_divisor : Binds K d_check_divisor ["d", "greatest"] ds_check_divisor
  g_check_divisor : mg "check_divisor" = some (.ref a_check_divisor)
  a_block_of : Addr
  d_block_of : FuncData
  F_block_of : Fun K "block_of" "block_of" s_block_of a_block_of d_block_of
  b_block_of : Binds K d_block_of ["base", "take"] []
  g_block_of : mg "block_of" = some (.ref a_block_of)
  a_check_trick : Addr
  d_check_trick : FuncData
  F_check_trick : Fun K "check_trick" "check_trick" s_check_trick a_check_trick d_check_trick
  b_check_trick : Binds K d_check_trick ["trick"] []
  g_check_trick : mg "check_trick" = some (.ref a_check_trick)
  a_trick_block : Addr
  d_trick_block : FuncData
  F_trick_block : Fun K "trick_block" "trick_block" s_trick_block a_trick_block d_trick_block
  b_trick_block : Binds K d_trick_block ["trick"] []
  g_trick_block : mg "trick_block" = some (.ref a_trick_block)
  a_made_of : Addr
  d_made_of : FuncData
  F_made_of : Fun K "made_of" "made_of" s_made_of a_made_of d_made_of
  b_made_of : Binds K d_made_of ["trick", "n"] []
  g_made_of : mg "made_of" = some (.ref a_made_of)
  a_made_with : Addr
  d_made_with : FuncData
  F_made_with : Fun K "made_with" "made_with" s_made_with a_made_with d_made_with
  b_made_with : Binds K d_made_with ["block", "times", "n"] []
  g_made_with : mg "made_with" = some (.ref a_made_with)
  a_chain_tells : Addr
  d_chain_tells : FuncData
  F_chain_tells : Fun K "chain_tells" "chain_tells" s_chain_tells a_chain_tells d_chain_tells
  b_chain_tells : Binds K d_chain_tells ["tricks", "d"] []
  g_chain_tells : mg "chain_tells" = some (.ref a_chain_tells)
  a_check_tricks : Addr
  d_check_tricks : FuncData
  F_check_tricks : Fun K "check_tricks" "check_tricks" s_check_tricks a_check_tricks d_check_tricks
  b_check_tricks : Binds K d_check_tricks ["tricks"] []
  g_check_tricks : mg "check_tricks" = some (.ref a_check_tricks)
  a_check_chain : Addr
  d_check_chain : FuncData
  F_check_chain : Fun K "check_chain" "check_chain" s_check_chain a_check_chain d_check_chain
  b_check_chain : Binds K d_check_chain ["tricks", "d"] []
  g_check_chain : mg "check_chain" = some (.ref a_check_chain)
  a_made_of_all : Addr
  d_made_of_all : FuncData
  F_made_of_all : Fun K "made_of_all" "made_of_all" s_made_of_all a_made_of_all d_made_of_all
  b_made_of_all : Binds K d_made_of_all ["tricks", "n"] []
  g_made_of_all : mg "made_of_all" = some (.ref a_made_of_all)
  a_blocks_product : Addr
  d_blocks_product : FuncData
  F_blocks_product : Fun K "blocks_product" "blocks_product" s_blocks_product a_blocks_product d_blocks_product
  b_blocks_product : Binds K d_blocks_product ["tricks"] []
  g_blocks_product : mg "blocks_product" = some (.ref a_blocks_product)
  a_rest_pairs : Addr
  d_rest_pairs : FuncData
  F_rest_pairs : Fun K "rest_pairs" "rest_pairs" s_rest_pairs a_rest_pairs d_rest_pairs
  b_rest_pairs : Binds K d_rest_pairs ["tricks", "d"] []
  g_rest_pairs : mg "rest_pairs" = some (.ref a_rest_pairs)
  a_factor : Addr
  d_factor : FuncData
  F_factor : Fun K "factor" "factor" s_factor a_factor d_factor
  b_factor : Binds K d_factor ["trick", "d"] []
  g_factor : mg "factor" = some (.ref a_factor)
  a_tells_multiples : Addr
  d_tells_multiples : FuncData
  F_tells_multiples : Fun K "tells_multiples" "tells_multiples" s_tells_multiples a_tells_multiples d_tells_multiples
  b_tells_multiples : Binds K d_tells_multiples ["block", "times", "d"] []
  g_tells_multiples : mg "tells_multiples" = some (.ref a_tells_multiples)
  a__law_taken : Addr
  d__law_taken : FuncData
  F__law_taken : Fun K "_law_taken" "_law_taken" s__law_taken a__law_taken d__law_taken
  b__law_taken : Binds K d__law_taken ["_law_row", "_law_many"] []
  g__law_taken : mg "_law_taken" = some (.ref a__law_taken)
  a__law_behind : Addr
  d__law_behind : FuncData
  F__law_behind : Fun K "_law_behind" "_law_behind" s__law_behind a__law_behind d__law_behind
  b__law_behind : Binds K d__law_behind ["_law_told", "_law_n"] []
  g__law_behind : mg "_law_behind" = some (.ref a__law_behind)
  a__law_number : Addr
  d__law_number : FuncData
  F__law_number : Fun K "_law_number" "_law_number" s__law_number a__law_number d__law_number
  b__law_number : Binds K d__law_number ["_law_row"] []
  g__law_number : mg "_law_number" = some (.ref a__law_number)
  a__law_tricks : Addr
  d__law_tricks : FuncData
  F__law_tricks : Fun K "_law_tricks" "_law_tricks" s__law_tricks a__law_tricks d__law_tricks
  b__law_tricks : Binds K d__law_tricks ["_law_told"] []
  g__law_tricks : mg "_law_tricks" = some (.ref a__law_tricks)
  a_law : Addr
  d_law : FuncData
  F_law : Fun K "law" "law" s_law a_law d_law
  b_law : Binds K d_law ["_law_script"] []
  g_law : mg "law" = some (.ref a_law)
  C_Trick : Addr
  cl_Trick : Cls K C_Trick
  g_Trick : mg "Trick" = some (.ref C_Trick)
  kc_Trick : PySem.W.keepIn K (.ref C_Trick) = true
  ins_Trick : ∀ (H : Hp) (a dx : Addr) (fs : List (Str × V)), H a = some (.ins C_Trick dx fs) → TyOf K H (.ref a) (.ref C_Trick)
  ki_Trick_int : PySem.W.kitOne K (.ref C_Trick) (.type "int") = some false
  ki_Trick_bool : PySem.W.kitOne K (.ref C_Trick) (.type "bool") = some false
  ki_Trick_tuple : PySem.W.kitOne K (.ref C_Trick) (.type "tuple") = some false
  ki_Trick_list : PySem.W.kitOne K (.ref C_Trick) (.type "list") = some false
  nf_Trick_tuple : PySem.W.subIn K (.type "tuple") (.ref C_Trick) = some false
  kis_Trick : PySem.W.kitOne K (.ref C_Trick) (.ref C_Trick) = some true
  kin_Trick_int : PySem.W.kitOne K (.type "int") (.ref C_Trick) = some false
  kin_Trick_bool : PySem.W.kitOne K (.type "bool") (.ref C_Trick) = some false
  kin_Trick_tuple : PySem.W.kitOne K (.type "tuple") (.ref C_Trick) = some false
  kin_Trick_list : PySem.W.kitOne K (.type "list") (.ref C_Trick) = some false
  kin_Trick_NoneType : PySem.W.kitOne K (.type "NoneType") (.ref C_Trick) = some false
  kin_Trick_str : PySem.W.kitOne K (.type "str") (.ref C_Trick) = some false
  kin_Trick_dict : PySem.W.kitOne K (.type "dict") (.ref C_Trick) = some false
  na_Trick_base : NoAttr K C_Trick "_base"
  na_Trick_take : NoAttr K C_Trick "_take"
  na_Trick_times : NoAttr K C_Trick "_times"
  a_Trick___init__ : Addr
  d_Trick___init__ : FuncData
  F_Trick___init__ : Fun K "__init__" "Trick.__init__" s_Trick___init__ a_Trick___init__ d_Trick___init__
  b_Trick___init__ : Binds K d_Trick___init__ ["self", "base", "take", "times"] []
  mk_Trick : Mk K C_Trick a_Trick___init__
  a_Trick_base : Addr
  d_Trick_base : FuncData
  F_Trick_base : Fun K "base" "Trick.base" s_Trick_base a_Trick_base d_Trick_base
  b_Trick_base : Binds K d_Trick_base ["self"] []
  q_Trick_base : Addr
  p_Trick_base : PropOf K C_Trick "base" q_Trick_base a_Trick_base
  a_Trick_take : Addr
  d_Trick_take : FuncData
  F_Trick_take : Fun K "take" "Trick.take" s_Trick_take a_Trick_take d_Trick_take
  b_Trick_take : Binds K d_Trick_take ["self"] []
  q_Trick_take : Addr
  p_Trick_take : PropOf K C_Trick "take" q_Trick_take a_Trick_take
  a_Trick_times : Addr
  d_Trick_times : FuncData
  F_Trick_times : Fun K "times" "Trick.times" s_Trick_times a_Trick_times d_Trick_times
  b_Trick_times : Binds K d_Trick_times ["self"] []
  q_Trick_times : Addr
  p_Trick_times : PropOf K C_Trick "times" q_Trick_times a_Trick_times
  a_Trick___eq__ : Addr
  d_Trick___eq__ : FuncData
  F_Trick___eq__ : Fun K "__eq__" "Trick.__eq__" s_Trick___eq__ a_Trick___eq__ d_Trick___eq__
  b_Trick___eq__ : Binds K d_Trick___eq__ ["self", "other"] []
  m_Trick___eq__ : Meth K C_Trick "__eq__" a_Trick___eq__
  n_int : mg "int" = none
  n_bool : mg "bool" = none
  n_len : mg "len" = none
  n_range : mg "range" = none
  n_isinstance : mg "isinstance" = none
  n_tuple : mg "tuple" = none
  n_list : mg "list" = none
  n_enumerate : mg "enumerate" = none
  n_all : mg "all" = none
  n_super : mg "super" = none
  n_ValueError : mg "ValueError" = none
  a_BadTricks___init__ : Addr
  x_BadTricks : ErrX.ErrTxt P K mg "BadTricks" "index" C_BadTricks a_BadTricks___init__ (ErrX.aeOf s_BadTricks___init__) s_BadTricks___init__
  a_TooWide___init__ : Addr
  x_TooWide : ErrX.ErrTxt P K mg "TooWide" "most" C_TooWide a_TooWide___init__ (ErrX.aeOf s_TooWide___init__) s_TooWide___init__
/-! ### the program's own classes (no errors) -/
def OwnT {P : Program} {K : PySem.W.Frag} {mg : Str → Option Value} (T : Tx P K mg) (C : Addr) : Prop := C = T.C_Trick
theorem OwnT.ty {P : Program} {K : PySem.W.Frag} {mg : Str → Option Value} {T : Tx P K mg} {C : Addr} (t : OwnT T C) {H : Hp} {a dx : Addr} {fs : List (Str × V)} (e : H a = some (.ins C dx fs)) : TyOf K H (.ref a) (.ref C) := by
  cases t
  exact T.ins_Trick _ _ _ _ e
theorem OwnT.nint {P : Program} {K : PySem.W.Frag} {mg : Str → Option Value} {T : Tx P K mg} {C : Addr} (t : OwnT T C) : PySem.W.kitOne K (.ref C) (.type "int") = some false := by
  cases t
  exact T.ki_Trick_int
theorem OwnT.nbool {P : Program} {K : PySem.W.Frag} {mg : Str → Option Value} {T : Tx P K mg} {C : Addr} (t : OwnT T C) : PySem.W.kitOne K (.ref C) (.type "bool") = some false := by
  cases t
  exact T.ki_Trick_bool
theorem OwnT.ntuple {P : Program} {K : PySem.W.Frag} {mg : Str → Option Value} {T : Tx P K mg} {C : Addr} (t : OwnT T C) : PySem.W.kitOne K (.ref C) (.type "tuple") = some false := by
  cases t
  exact T.ki_Trick_tuple
theorem OwnT.nlist {P : Program} {K : PySem.W.Frag} {mg : Str → Option Value} {T : Tx P K mg} {C : Addr} (t : OwnT T C) : PySem.W.kitOne K (.ref C) (.type "list") = some false := by
  cases t
  exact T.ki_Trick_list
theorem ar_BadTricks {P : Program} {w : World} : ∀ (v : V) (u : Value), ErrX.NoneInt v → RelV v u → ErrX.ArgOk P w (ErrX.aeOf s_BadTricks___init__) "index" u := fun _ _ n r => ErrX.argOk_f n r
theorem ar_TooWide {P : Program} {w : World} : ∀ (v : V) (u : Value), ErrX.NoneInt v → RelV v u → ErrX.ArgOk P w (ErrX.aeOf s_TooWide___init__) "most" u := fun _ _ n r => ErrX.argOk_f n r
section
variable {P : Program} {w : World} {K : PySem.W.Frag} {mg : Str → Option Value} {base : Heap}
/-! ### heaps -/
/-- all but what stands at r is as it was -/
def But (r : Addr) (H H' : Hp) : Prop := ∀ b o, H b = some o → b ≠ r → H' b = some o
theorem But.refl (r : Addr) (H : Hp) : But r H H := fun _ _ e _ => e
theorem But.trans {r : Addr} {H H1 H2 : Hp} (a : But r H H1) (b : But r H1 H2) : But r H H2 := fun c o e n => b c o (a c o e n) n
theorem Same.but {r : Addr} {H H' : Hp} (a : Same H H') : But r H H' := fun c o e _ => a c o e
theorem But.put {r : Addr} {H : Hp} {o : HO} : But r H (upd H r o) := fun b _ e n => by rw [upd_ne n]; exact e
theorem But.seq {K : PySem.W.Frag} {r a : Addr} {H H' : Hp} {xs : List V} (e : But r H H') (n : a ≠ r) (h : SqL K H a xs) : SqL K H' a xs := by
  rcases h with (h | ⟨o, h⟩) | h
  · exact .inl (.inl (e _ _ h n))
  · exact .inl (.inr ⟨o, e _ _ h n⟩)
  · exact .inr h
theorem same_upd {H : Hp} {p : Addr} {o : HO} (h : H p = none) : Same H (upd H p o) := fun b x e => by
  rw [upd_ne (ne_of_none e h)]
  exact e
/-- any value of the document's point 1 -/
inductive AnyV (T : Addr → Prop) (H : Hp) : V → Prop where
  | non : AnyV T H .non
  | bl (b : Bool) : AnyV T H (.bl b)
  | int (i : Int) : AnyV T H (.int i)
  | str (x : Str) : AnyV T H (.str x)
  | lst {a : Addr} {xs : List V} (e : H a = some (.lst xs)) : AnyV T H (.ref a)
  | tup {a : Addr} {xs : List V} (e : H a = some (.tup xs)) : AnyV T H (.ref a)
  | dct {a : Addr} {kvs : List (Key × V)} (e : H a = some (.dK kvs)) : AnyV T H (.ref a)
  | ins {a C dx : Addr} {fs : List (Str × V)} (t : T C) (e : H a = some (.ins C dx fs)) : AnyV T H (.ref a)
/-- it is an integer from lo to hi -/
def intIn (x : V) (lo hi : Int) : Bool := match x with | .int i => decide (lo ≤ i) && decide (i ≤ hi) | _ => false
theorem intIn_of {i lo hi : Int} (h1 : lo ≤ i) (h2 : i ≤ hi) : intIn (.int i) lo hi = true := by
  show (decide (lo ≤ i) && decide (i ≤ hi)) = true
  rw [decide_eq_true h1, decide_eq_true h2]
  all_goals rfl
theorem small5 {n : Nat} (h : n ≤ 100000) : n < sizeLine := Nat.lt_of_le_of_lt h (by decide)
theorem dec_i (i j : Int) : decide (V.int i = V.int j) = decide (i = j) := by
  rw [Bool.eq_iff_iff]
  simp
theorem AnyV.mono {T : Addr → Prop} {H H' : Hp} {v : V} (a : AnyV T H v) (s : Same H H') : AnyV T H' v := by
  cases a with
  | non => exact .non
  | bl b => exact .bl b
  | int i => exact .int i
  | str x => exact .str x
  | lst e => exact .lst (s _ _ e)
  | tup e => exact .tup (s _ _ e)
  | dct e => exact .dct (s _ _ e)
  | ins t e => exact .ins t (s _ _ e)
theorem intIn_int' {x : V} {lo hi : Int} (h : intIn x lo hi = true) : ∃ i, x = .int i ∧ lo ≤ i ∧ i ≤ hi := by
  cases x with
  | int i =>
    have h2 : (decide (lo ≤ i) && decide (i ≤ hi)) = true := h
    rw [Bool.and_eq_true, decide_eq_true_iff, decide_eq_true_iff] at h2
    exact ⟨i, rfl, h2⟩
  | _ => cases h

/-! ### lists of ints -/
theorem dpAll_ints {H : Hp} : ∀ ns : List Int, DpAll K H (ns.map V.int) (ns.map PyData.int)
  | [] => .nil
  | n :: ns => .cons (.int n) (dpAll_ints ns)
theorem dp_ints {H : Hp} {a : Addr} {ns : List Int} (h : SqL K H a (ns.map V.int)) : Dp K H (.ref a) (.list (ns.map PyData.int)) := .lst h (dpAll_ints ns)
theorem dp_tints {H : Hp} {a : Addr} {ns : List Int} (h : SqT K H a (ns.map V.int)) : Dp K H (.ref a) (.tuple (ns.map PyData.int)) := .tup h (dpAll_ints ns)
theorem eqvAll_ints : ∀ ns ms : List Int, PyData.eqvAll (ns.map PyData.int) (ms.map PyData.int) = decide (ns = ms)
  | [], [] => rfl
  | [], _ :: _ => rfl
  | _ :: _, [] => rfl
  | n :: ns, m :: ms => by
    show (PyData.eqv (.int n) (.int m) && PyData.eqvAll (ns.map PyData.int) (ms.map PyData.int)) = _
    rw [eqvAll_ints ns ms]
    show ((n == m) && decide (ns = ms)) = _
    by_cases h1 : n = m
    · by_cases h2 : ns = ms
      · simp [h1, h2]
      · simp [h1, h2]
    · simp [h1]
theorem eqv_ints (ns ms : List Int) : PyData.eqv (.list (ns.map PyData.int)) (.list (ms.map PyData.int)) = decide (ns = ms) := eqvAll_ints ns ms
theorem eqv_tints (ns ms : List Int) : PyData.eqv (.tuple (ns.map PyData.int)) (.tuple (ms.map PyData.int)) = decide (ns = ms) := eqvAll_ints ns ms
theorem shaped_lints (ns : List Int) : SeqAt.shaped (.list (ns.map PyData.int)) = true := PySem.W.shaped_ints ns
/-- an item of a written list at a drawn place -/
theorem at_some (Pr : Int → Prop) {ns : List Int} (h : ∀ z ∈ ns, Pr z) {i : Int} (h0 : 0 ≤ i) (h1 : i < ns.length) : ∃ z, Pr z ∧ atI (ns.map V.int) i = some (V.int z) := by
  obtain ⟨z, hz⟩ : ∃ z, ns[i.toNat]? = some z := ⟨ns[i.toNat]'(by omega), List.getElem?_eq_getElem (by omega)⟩
  refine ⟨z, h z (List.mem_of_getElem? hz), at_of (j := i.toNat) (by omega) (by rw [List.getElem?_map, hz]; rfl)⟩
theorem sorted_ext {l m : List Int} (p : l.Perm m) (h1 : l.Pairwise (· ≤ ·)) (h2 : m.Pairwise (· ≤ ·)) : l = m :=
  p.eq_of_pairwise (fun a b _ _ x y => Int.le_antisymm x y) h1 h2
/-- reading an item within a comprehension: the written part said aloud -/
theorem ix_lK {X : Cx} (h : X.K = K) : IxR X (rIxL K) := by
  subst h
  exact ix_list
/-- the same of a tuple -/
theorem ix_tK {X : Cx} (h : X.K = K) : IxR X (rIxT K) := by
  subst h
  exact ix_tup
/-- name op= e, by the operation in place -/
theorem ip_op {X : Cx} {op : Operator} {r : R2} (ho : OpR X (inplaceOp op) r) : PIp X op r := fun pins s σ H x y v u Q I r1 r2 h => ho pins s σ H x y v u Q I r1 r2 h

/-! ### what is shallow enough to be compared -/
theorem lays_map {α : Type} (f : α → PyData) (k : Nat) (h : ∀ x, PyData.canLay0 (f x) = true ∧ PyData.depth (f x) ≤ k) : ∀ l : List α, PyData.canLayAll0 (l.map f) = true ∧ PyData.depthAll (l.map f) ≤ k
  | [] => ⟨by simp [PyData.canLayAll0], by simp [PyData.depthAll]⟩
  | x :: l => by
    have h1 := lays_map f k h l
    have h2 := h x
    refine ⟨by simp [PyData.canLayAll0, h1.1, h2.1], ?_⟩
    simp only [List.map_cons, PyData.depthAll]
    omega
theorem shaped_of {ds : List PyData} {k : Nat} (h : PyData.canLayAll0 ds = true ∧ PyData.depthAll ds ≤ k) (hk : k ≤ 60) : SeqAt.shaped (.list ds) = true ∧ SeqAt.shaped (.tuple ds) = true := by
  have e1 : PyData.depth (.list ds) ≤ 64 := by simp only [PyData.depth]; omega
  have e2 : PyData.depth (.tuple ds) ≤ 64 := by simp only [PyData.depth]; omega
  refine ⟨?_, ?_⟩
  · show (PyData.canLay0 (.list ds) && decide (PyData.depth (.list ds) ≤ 64)) = true
    rw [Bool.and_eq_true]
    exact ⟨by simp only [PyData.canLay0]; exact h.1, decide_eq_true e1⟩
  · show (PyData.canLay0 (.tuple ds) && decide (PyData.depth (.tuple ds) ≤ 64)) = true
    rw [Bool.and_eq_true]
    exact ⟨by simp only [PyData.canLay0]; exact h.1, decide_eq_true e2⟩
theorem lay_int (i : Int) : PyData.canLay0 (.int i) = true ∧ PyData.depth (.int i) ≤ 1 := ⟨by simp [PyData.canLay0], by simp [PyData.depth]⟩
theorem shaped_tints (ns : List Int) : SeqAt.shaped (.tuple (ns.map PyData.int)) = true := (shaped_of (lays_map PyData.int 1 lay_int ns) (by decide)).2

/-! ### what is wished for less is met, too -/
def TEMono (t : TE) : Prop := ∀ (σ : L2.St) (H : Hp) (Q Q' : VK), (∀ v H1, Q v H1 → Q' v H1) → t σ H Q → t σ H Q'
def TAMono (t : TA) : Prop := ∀ (σ : L2.St) (H : Hp) (Q Q' : List V → Hp → Prop), (∀ v H1, Q v H1 → Q' v H1) → t σ H Q → t σ H Q'
def TTMono (t : TT) : Prop := ∀ (σ : L2.St) (H : Hp) (Q Q' : Bool → Hp → Prop), (∀ b H1, Q b H1 → Q' b H1) → t σ H Q → t σ H Q'
def R2Mono (r : R2) : Prop := ∀ (x y : V) (H : Hp) (Q Q' : VK), (∀ v H1, Q v H1 → Q' v H1) → r x y H Q → r x y H Q'
theorem m_var {i : Nat} : TEMono (tVar i) := fun _ _ _ _ h ⟨v, e, z⟩ => ⟨v, e, h _ _ z⟩
theorem m_c {v : V} : TEMono (tC v) := fun _ _ _ _ h z => h _ _ z
theorem m_op {r : R2} {a b : TE} (hr : R2Mono r) (ha : TEMono a) (hb : TEMono b) : TEMono (tOp r a b) := fun σ H Q Q' h z => ha σ H _ _ (fun x H1 q => hb σ H1 _ _ (fun y H2 q2 => hr x y H2 _ _ h q2) q) z
theorem m_nil : TAMono tNil := fun _ _ _ _ h z => h _ _ z
theorem m_cons {t : TE} {u : TA} (ht : TEMono t) (hu : TAMono u) : TAMono (tCons t u) := fun σ H Q Q' h z => ht σ H _ _ (fun x H1 q => hu σ H1 _ _ (fun xs H2 q2 => h _ _ q2) q) z
theorem m_test {t : TE} (ht : TEMono t) : TTMono (tTest t) := fun σ H Q Q' h z => ht σ H _ _ (fun x H1 ⟨k, e, q⟩ => ⟨k, e, h _ _ q⟩) z
theorem m_and {t u : TT} (ht : TTMono t) (hu : TTMono u) : TTMono (tAnd t u) := fun σ H Q Q' h z => ht σ H _ _ (fun c H1 q => by
  cases c with
  | true => exact hu σ H1 _ _ h q
  | false => exact h _ _ q) z
theorem m_rI {C : Int → Int → Prop} {g : Int → Int → V} : R2Mono (rI C g) := fun _ _ _ _ _ h ⟨i, j, e1, e2, c, q⟩ => ⟨i, j, e1, e2, c, h _ _ q⟩
theorem m_rI0 {g : Int → Int → V} : R2Mono (rI0 g) := fun _ _ _ _ _ h ⟨i, j, e1, e2, q⟩ => ⟨i, j, e1, e2, h _ _ q⟩
theorem m_rEq : R2Mono rEq := fun _ _ _ _ _ h ⟨e, q⟩ => ⟨e, h _ _ q⟩
theorem m_rNe : R2Mono rNe := fun _ _ _ _ _ h ⟨e, q⟩ => ⟨e, h _ _ q⟩
theorem m_rIn {n : Bool} : R2Mono (rIn K n) := fun _ _ _ _ _ h ⟨p, xs, e, s, f, a, q⟩ => ⟨p, xs, e, s, f, a, h _ _ q⟩
theorem m_len {i : Nat} : TEMono (tCB (fun xs H Q => ∃ p ys, xs = [V.ref p] ∧ (SqL K H p ys ∨ SqT K H p ys) ∧ Q (.int (ys.length : Int)) H) (tCons (tVar i) tNil)) := fun _ _ _ _ h ⟨v, e, p, ys, e1, e2, q⟩ => ⟨v, e, p, ys, e1, e2, h _ _ q⟩
/-! ### what is never reached -/
def tNev : TS := fun _ _ _ => False
theorem pss_nev {X : Cx} {sts : List Stmt} : PSs X sts tNev := ⟨fun _ _ _ _ _ _ h => h.elim⟩

/-! ### is_integer, and the checks -/
def spIsInt (T : Tx P K mg) : Sp := fun vs H Q _ => ∃ (x : V) (lo hi : Int), vs = [x, .int lo, .int hi] ∧ AnyV (OwnT T) H x ∧ Q (.bl (intIn x lo hi)) H
theorem isi_int (T : Tx P K mg) {H : Hp} {x : V} (a : AnyV (OwnT T) H x) : ∃ t, TyX K H x t ∧ (∃ b, PySem.W.kitOne K t (.type "int") = some b ∧ (b = false → ∀ lo hi, intIn x lo hi = false) ∧ ∃ c, PySem.W.kitOne K t (.type "bool") = some c ∧ (c = true → ∀ lo hi, intIn x lo hi = false) ∧ (b = true → c = false → ∃ i, x = .int i)) := by
  cases a with
  | non => exact ⟨_, .base .non, false, kit_ty (by decide +kernel), fun _ _ _ => rfl, false, kit_ty (by decide +kernel), fun _ _ _ => rfl, fun z => nomatch z⟩
  | bl b => exact ⟨_, .base (.bl b), true, kit_ty (by decide +kernel), fun _ _ _ => rfl, true, kit_ty (by decide +kernel), fun _ _ _ => rfl, fun _ z => nomatch z⟩
  | int i => exact ⟨.type "int", .base (.int i), true, kit_ty (by decide +kernel), fun z => Bool.noConfusion z, false, kit_ty (by decide +kernel), fun z => Bool.noConfusion z, fun _ _ => ⟨i, rfl⟩⟩
  | str x => exact ⟨_, .base (.str x), false, kit_ty (by decide +kernel), fun _ _ _ => rfl, false, kit_ty (by decide +kernel), fun _ _ _ => rfl, fun z => nomatch z⟩
  | lst e => exact ⟨_, .base (.lst e), false, kit_ty (by decide +kernel), fun _ _ _ => rfl, false, kit_ty (by decide +kernel), fun _ _ _ => rfl, fun z => nomatch z⟩
  | tup e => exact ⟨_, .base (.tup e), false, kit_ty (by decide +kernel), fun _ _ _ => rfl, false, kit_ty (by decide +kernel), fun _ _ _ => rfl, fun z => nomatch z⟩
  | dct e => exact ⟨_, .base (.dK e), false, kit_ty (by decide +kernel), fun _ _ _ => rfl, false, kit_ty (by decide +kernel), fun _ _ _ => rfl, fun z => nomatch z⟩
  | ins t e => exact ⟨_, .base (t.ty e), false, t.nint, fun _ _ _ => rfl, false, t.nbool, fun _ _ _ => rfl, fun z => nomatch z⟩
theorem ok_is_integer (T : Tx P K mg) : FnOk P w K mg base CX0 lv_is_integer T.a_is_integer T.d_is_integer ["told", "low", "high"] (spIsInt T) := by
  refine T.F_is_integer.ok sc_is_integer (fun vs H Q E h => ?_) (fun cdv A outer s H vs Q E hr h => ?_)
  · obtain ⟨x, lo, hi, rfl, _⟩ := h
    rfl
  · obtain ⟨x, lo, hi, rfl, a, k⟩ := h
    refine ⟨_, (pss_one (ps_ret (pe_and (pe_callB call_isi (by rfl) T.n_isinstance (by decide +kernel) (pa_cons (pv 0) (pa_cons (pe_bltn (v := .ty "int") rfl T.n_int (by decide +kernel) rfl) pa_nil))) (pe_and (pe_not (pe_callB call_isi (by rfl) T.n_isinstance (by decide +kernel) (pa_cons (pv 0) (pa_cons (pe_bltn (v := .ty "bool") rfl T.n_bool (by decide +kernel) rfl) pa_nil)))) (pe_one (pe_chain op_le op_le (pv 1) (pv 0) (pv 2))))))), ?_⟩
    obtain ⟨t, ty, b, e1, h1, c, e2, h2, h3⟩ := isi_int T a
    refine ⟨_, rfl, _, _, _, _, b, rfl, .ty _, ty, e1, b, rfl, ?_⟩
    cases b with
    | false => exact iteF (by rw [h1 rfl lo hi] at k; exact k)
    | true =>
      refine iteT ?_
      refine ⟨_, rfl, _, _, _, _, c, rfl, .ty _, ty, e2, c, rfl, _, rfl, ?_⟩
      cases c with
      | true => exact iteF (by rw [h2 rfl lo hi] at k; exact k)
      | false =>
        refine iteT ?_
        obtain ⟨i, rfl⟩ := h3 rfl rfl
        refine ⟨_, rfl, _, rfl, _, _, rfl, rfl, _, rfl, ?_⟩
        have ke : Q (V.bl (decide (lo ≤ i) && decide (i ≤ hi))) H := k
        refine ite2 (fun c1 => ?_) (fun c1 => ?_)
        · rw [c1] at ke
          exact ⟨_, rfl, _, _, rfl, rfl, ke⟩
        · rw [show decide (lo ≤ i) = false from by simpa using c1] at ke
          exact ke
/-- base, take and the like: a value in the range, or the error of the class C -/
def spChk (T : Tx P K mg) (C : Addr) (lo hi : Int) : Sp := fun vs H Q E => ∃ x : V, vs = [x] ∧ AnyV (OwnT T) H x ∧ (intIn x lo hi = true → Q .non H) ∧ (intIn x lo hi = false → E (.ref C) none H)

theorem ok_check_base (T : Tx P K mg) : FnOk P w K mg base (L2.CX P w) lv_check_base T.a_check_base T.d_check_base ["base"] (spChk T T.C_BadBase 2 16) := by
  refine T.F_check_base.okX sc_check_base (fun vs H Q E h => ?_) (fun cdv A outer s H vs Q E hr h => ?_)
  · obtain ⟨x, rfl, _⟩ := h
    rfl
  · obtain ⟨x, rfl, a, k1, k2⟩ := h
    refine ⟨_, (pss_one (ps_if (pt_not (pt_val (pe_call (ok_is_integer T) (hr.mono (by decide)) rfl T.g_is_integer T.F_is_integer.kp T.b_is_integer .nil pass0 (pa_cons (pv 0) (pa_cons (pe_glob (v := .int 2) rfl T.c_LEAST_BASE ⟨_, rfl⟩) (pa_cons (pe_glob (v := .int 16) rfl T.c_GREATEST_BASE ⟨_, rfl⟩) pa_nil)))))) (pss_one (ps_raise rfl (takes_of rfl rfl rfl rfl) (pmk_own PySem.F.excBase_ValueError T.x_BadBase T.g_BadBase T.k_BadBase (raises_own T.s_BadBase T.t_BadBase) rfl))) pss_nil)), ?_⟩
    refine ⟨_, rfl, _, _, _, rfl, a, _, rfl, ?_⟩
    cases e : intIn x 2 16 with
    | true => exact iteF (k1 e)
    | false => exact iteT (k2 e)

theorem ok_check_take (T : Tx P K mg) : FnOk P w K mg base (L2.CX P w) lv_check_take T.a_check_take T.d_check_take ["take"] (spChk T T.C_BadTake 1 2) := by
  refine T.F_check_take.okX sc_check_take (fun vs H Q E h => ?_) (fun cdv A outer s H vs Q E hr h => ?_)
  · obtain ⟨x, rfl, _⟩ := h
    rfl
  · obtain ⟨x, rfl, a, k1, k2⟩ := h
    refine ⟨_, (pss_one (ps_if (pt_not (pt_val (pe_call (ok_is_integer T) (hr.mono (by decide)) rfl T.g_is_integer T.F_is_integer.kp T.b_is_integer .nil pass0 (pa_cons (pv 0) (pa_cons pe_int (pa_cons (pe_glob (v := .int 2) rfl T.c_GREATEST_TAKE ⟨_, rfl⟩) pa_nil)))))) (pss_one (ps_raise rfl (takes_of rfl rfl rfl rfl) (pmk_own PySem.F.excBase_ValueError T.x_BadTake T.g_BadTake T.k_BadTake (raises_own T.s_BadTake T.t_BadTake) rfl))) pss_nil)), ?_⟩
    refine ⟨_, rfl, _, _, _, rfl, a, _, rfl, ?_⟩
    cases e : intIn x 1 2 with
    | true => exact iteF (k1 e)
    | false => exact iteT (k2 e)

/-! ### divisors up to a greatest one -/
def spDivisor (T : Tx P K mg) : Sp := fun vs H Q E => ∃ (x : V) (g : Int), vs = [x, .int g] ∧ 1 ≤ g ∧ g ≤ 100 ∧ AnyV (OwnT T) H x ∧ (intIn x 1 g = true → Q .non H) ∧ (intIn x 1 g = false → E (.ref T.C_BadDivisor) none H)
theorem ok_check_divisor (T : Tx P K mg) : FnOk P w K mg base (L2.CX P w) lv_check_divisor T.a_check_divisor T.d_check_divisor ["d", "greatest"] (spDivisor T) := by
  refine FunD.ok T.F_check_divisor sc_check_divisor (fun vs H Q E h => ?_) (fun cdv A outer s H vs Q E hr h => ?_)
  · obtain ⟨x, g, rfl, _⟩ := h
    rfl
  · obtain ⟨x, g, rfl, g1, g2, a, k1, k2⟩ := h
    refine ⟨_, (pss_one (ps_if (pt_not (pt_val (pe_call (ok_is_integer T) (hr.mono (by decide)) rfl T.g_is_integer T.F_is_integer.kp T.b_is_integer .nil pass0 (pa_cons (pv 0) (pa_cons pe_int (pa_cons (pv 1) pa_nil)))))) (pss_one (ps_raise rfl (takes_of rfl rfl rfl rfl) (SkE.pmk_own1 PySem.F.excBase_ValueError T.x_BadDivisor T.g_BadDivisor T.k_BadDivisor (raises_own T.s_BadDivisor T.t_BadDivisor) rfl (pe_joined (PJ.cons pe_str (PJ.cons (pe_fmt (pv 1)) PJ.nil)))))) pss_nil)), ?_⟩
    refine ⟨_, rfl, _, rfl, _, _, _, rfl, a, _, rfl, ?_⟩
    cases e : intIn x 1 g with
    | true => exact iteF (k1 e)
    | false =>
      have sm : g.natAbs.log2 < 1920 := Nat.lt_of_le_of_lt (Nat.log2_le_self _) (by omega)
      refine iteT ⟨_, rfl, (by rw [Str.length_append, sizeLine_eq]; exact Nat.le_trans (Nat.add_le_add (Nat.zero_le 0) (show ("no integer from 1 to " : Str).length ≤ 21 by decide)) (by decide)), _, rfl, .inr ⟨g, rfl, sm, _, rfl, ?_, k2 e⟩⟩
      rw [Str.length_append, Str.length_append, sizeLine_eq]
      have e0 := int_text_length_le (k := 1920) (by decide) sm
      have e2 : (Str.ofString (toString g)).length = (toString g).length := PySem.ofString_length _
      have e3 : ("no integer from 1 to " : Str).length ≤ 21 := by decide
      have e4 : Str.empty.length = 0 := rfl
      have e5 : ((toString g : Str)).length = (Str.ofString (toString g)).length := rfl
      omega

/-! ### enumerate(tuple) -/
end
end Rt
namespace EnumX
open PySem PyProof.Rows
theorem new1 {u : Value} {ob : Obj} {Z : Heap → Prop} (B : Begins u ob Z) : Meets (Builtin.«enumerate.__new__» ⟨[.type "enumerate", u], []⟩) (fun _ R s => Z s.heap ∧
      R (.ok (.ret (.ref (s.heap.push ob).objs.size))) { s with heap := (s.heap.push ob).push ⟨.type "enumerate", none, .fields #[.none, .bool false, .ref s.heap.objs.size, rawInt 0, .none, .none], #[]⟩ }) := by
  refine Meets.of_wp fun P w A R s hyp => ?_
  obtain ⟨z, fin⟩ := hyp
  obtain ⟨hp, g, d, tk, os⟩ := s
  have se := sub_enumerate
  have go : ∀ {A2 : Around} {E2 Q2 : Value → Shared → Prop}, Q2 (.ref hp.objs.size) ⟨hp.push ob, g, d, tk, os⟩ → wpAny (model P w) A2 (pyIter u) Q2 E2 ⟨hp, g, d, tk, os⟩ := fun q => B.iter P w _ _ ⟨hp, g, d, tk, os⟩ _ z q
  wp_walk using go
  refine wpAny_stack_any fun stk => (wpAny_pure ?_)
  split
  · rename_i cc _ _ _ _ _
    cases (cc == Value.type "enumerate") <;> (wp_walk using go; exact ⟨_, rfl, fin⟩)
  · wp_walk using go
    exact ⟨_, rfl, fin⟩
theorem made1 {P : Program} {w : World} {A : Around} {E Q : Value → Shared → Prop} {s : Shared} {u : Value} {ob : Obj} {Z : Heap → Prop} (B : Begins u ob Z) (z : Z s.heap)
    (q : ∀ h2, IsEnum h2 (s.heap.objs.size + 1) s.heap.objs.size 0 .none → h2.get? s.heap.objs.size = some ob → (∀ b o, s.heap.get? b = some o → h2.get? b = some o) → Q (.ref (s.heap.objs.size + 1)) { s with heap := h2 }) :
    wpAny (model P w) A (call (.type "enumerate") [u]) Q E s := by
  refine callType_new F.called_enumerate (by decide) (F.typeCall_enumerate_1 u) (F.newCall_enumerate_1 u) (fun ob => F.args_object_init_2 ob u) F.entry_enumerate_new (new1 B) ⟨z, ?_⟩
  have sz : (s.heap.push ob).objs.size = s.heap.objs.size + 1 := Heap.size_push ..
  have at1 : ((s.heap.push ob).push ⟨.type "enumerate", none, .fields #[.none, .bool false, .ref s.heap.objs.size, rawInt 0, .none, .none], #[]⟩).get? (s.heap.objs.size + 1) = some ⟨.type "enumerate", none, .fields #[.none, .bool false, .ref s.heap.objs.size, rawInt 0, .none, .none], #[]⟩ := by
    rw [← sz]
    exact Heap.get?_push_size _ rfl
  show _ ∧ _
  rw [sz]
  exact ⟨⟨_, at1, rfl⟩, q _ at1 (Heap.get?_push_of_some _ (Heap.get?_push_size _ B.free)) fun b o e => Heap.get?_push_of_some _ (Heap.get?_push_of_some _ e)⟩
/-- at the end nothing is drawn -/
theorem drawn_out {P : Program} {w : World} {A : Around} (hh : A.handled = none) (it t : Addr) (ne : t ≠ it) (its : Array Value) (n : Nat) (hn : its.size ≤ n) : Draws P w A it [it, t] n (fun _ _ => True) (fun j h => j = n ∧ h.IsTupleIter it t n ∧ h.IsTuple t its) where
  live := fun _ _ ⟨_, ⟨o, e, _⟩, _⟩ => ⟨o, e⟩
  frame := fun _ _ _ ⟨z, a, b⟩ k => ⟨z, a.at fun o e => k it List.mem_cons_self o e, b.at fun o e => k t (List.mem_cons_of_mem _ List.mem_cons_self) o e⟩
  item := fun j _ _ _ lt ⟨z, _⟩ _ => absurd z (Nat.ne_of_lt lt)
  done := fun s Q E ⟨_, a, b⟩ q => wpAny_nextOf_tuple_end hh a b (Array.getElem?_eq_none hn) q
end EnumX
namespace L2
open PySem PySem.Spec PyProof.Rows
/-- the tuple at a, each item in a new pair with its place -/
def IteT (K : PySem.W.Frag) (a : Addr) : It where
  go := fun i H => ∃ (ys : List V) (y : V), SqT K H a ys ∧ ys[i]? = some y
  yld := fun i H v H2 => ∃ c y, v = .ref c ∧ H c = none ∧ H2 = upd H c (.tup [.int (i : Nat), y]) ∧ ∀ ys, SqT K H a ys → ys[i]? = some y
  stop := fun i H => ∃ ys : List V, SqT K H a ys ∧ ys.length ≤ i
theorem turn_enumT {P : Program} {w : World} {K : PySem.W.Frag} {elts : List PySem.Expr} {kk : Nat} {tpos : Pos} (a e it : Addr) :
    Turn P w K (.Tuple elts kk tpos) (IteT K a) [e, it] e (fun i h => (∃ old, IsEnum h e it ((i : Nat) : Int) old) ∧ h.IsTupleIter it a i ∧ e ≠ it) where
  mem := List.mem_cons_self
  obj := fun i h st b hb => by
    obtain ⟨⟨v0, en⟩, ⟨o, g1, g2, g3⟩, _⟩ := st
    rcases List.mem_cons.mp hb with z | hb2
    · rw [z]
      exact ⟨_, en, fun v q => nomatch q⟩
    · rw [List.mem_singleton.mp hb2]
      exact ⟨o, g1, fun v q => by rw [g3] at q; cases q⟩
  keep := fun i h h2 st k => by
    obtain ⟨⟨v0, en⟩, ti, ne⟩ := st
    exact ⟨⟨v0, k e List.mem_cons_self _ en⟩, ti.at fun o q => k it (List.mem_cons_of_mem _ List.mem_cons_self) o q, ne⟩
  item := by
    intro X hP hw hK hc i pins s σ H E I hf st hg
    subst hP hw hK
    obtain ⟨⟨v0, en⟩, ti, ne⟩ := st
    obtain ⟨ys, y, sq, hy⟩ := hg
    obtain ⟨its, vals, tp, ln⟩ := I.tuple sq
    obtain ⟨u, hu, ru⟩ := vals.get hy
    have tpl : s.heap.IsTuple a its.toArray := tp
    have le : e < s.heap.objs.size := Heap.lt_size en
    have li : it < s.heap.objs.size := by
      obtain ⟨_, q, _⟩ := ti
      exact Heap.lt_size q
    have nea : e ≠ a := fun z => by
      obtain ⟨o, g1, g2, _⟩ := tpl
      rw [← z, (show s.heap.get? e = some _ from en)] at g1
      rw [← Option.some.inj g1] at g2
      exact absurd (show Value.type "enumerate" = Value.type "tuple" from g2) (by decide)
    have nia : it ≠ a := fun z => by
      obtain ⟨o, g1, g2, _⟩ := tpl
      obtain ⟨o2, f1, f2, _⟩ := ti
      rw [← z, f1] at g1
      rw [← Option.some.inj g1, f2] at g2
      exact absurd g2 (by decide)
    refine wpAny_pyNext_enum_itemD (Draws.tuple (show X.A.in1.handled = none from I.ok.hd hc) it a (Ne.symm nia) its.toArray) en ⟨ti, tpl⟩ (by have := (List.getElem?_eq_some_iff.mp hu).1; simpa using this) ne (by simp [ne, nea]) fun x h2 tk px eo st2 nt sz kp => ?_
    have exu : x = u := by
      have px2 : its.toArray[i]? = some x := px
      rw [List.getElem?_toArray, hu] at px2
      exact (Option.some.inj px2).symm
    subst exu
    refine ⟨_, rfl, wpAny_letOwnedTupleGo_enum (s := { s with heap := h2, toks := tk + 1 }) eo fun h3 en3 sb => ?_⟩
    have nt3 : h3.get? s.heap.objs.size = some { cls := .type "tuple", data := .seq #[.int i tk, x] } := (sb.2 _ (Nat.ne_of_gt le)).trans nt
    have nw : ObjOk X.prog X.w (upd H s.heap.objs.size (.tup [.int (i : Nat), y])) h3 s.heap.objs.size (.tup [.int (i : Nat), y]) := ⟨by show 2 ≤ sizeLine; decide, [.int i tk, x], .cons ⟨_, rfl⟩ (.cons ru .nil), ⟨_, nt3, rfl, _, rfl⟩⟩
    have J : Inv X pins σ (upd H s.heap.objs.size (.tup [.int (i : Nat), y])) { s with heap := h3, toks := tk + 1 } :=
      I.turnedNew (ch := [e, it]) (fun b ob hb q => (sb.2 b (fun z => hb (z ▸ List.mem_cons_self))).trans (kp b ob (fun z => hb (z ▸ List.mem_cons_self)) (fun z => hb (z ▸ List.mem_cons_of_mem _ List.mem_cons_self)) q)) hf (Nat.le_refl _) nw
    refine ⟨.ref s.heap.objs.size, _, J, rfl, ⟨_, y, rfl, I.hok.fresh (Nat.le_refl _), rfl, fun zs hz => by rw [I.tuple_inj hz sq]; exact hy⟩, ⟨⟨x, ?_⟩, st2.1.at fun o q => (sb.2 it (Ne.symm ne)).trans q, ne⟩, fun b hb => ?_⟩
    · rw [show ((i + 1 : Nat) : Int) = (i : Int) + 1 from by omega]
      exact en3
    · have lb : b < s.heap.objs.size := by
        rcases List.mem_cons.mp hb with z | hb2
        · rw [z]
          exact le
        · rw [List.mem_singleton.mp hb2]
          exact li
      rw [upd_ne (Nat.ne_of_lt lb)]
      exact (hf b hb).1
  done := by
    intro X hP hw hK hc i pins s σ H E I hf st hg
    subst hP hw hK
    obtain ⟨⟨v0, en⟩, ti, ne⟩ := st
    obtain ⟨ys, sq, ln⟩ := hg
    obtain ⟨its, vals, tp, _⟩ := I.tuple sq
    obtain ⟨f0, f1, f2, f3, f4, f5⟩ := hf it (List.mem_cons_of_mem _ List.mem_cons_self)
    have tpl : s.heap.IsTuple a its.toArray := tp
    have nia : it ≠ a := fun z => by
      obtain ⟨o, g1, g2, _⟩ := tpl
      obtain ⟨o2, q1, q2, _⟩ := ti
      rw [← z, q1] at g1
      rw [← Option.some.inj g1, q2] at g2
      exact absurd g2 (by decide)
    have hl := vals.length
    refine wpAny_pyNext_enum_endD (EnumX.drawn_out (show X.A.in1.handled = none from I.ok.hd hc) it a (Ne.symm nia) its.toArray i (by simp; omega)) en ⟨rfl, ti, tpl⟩ fun h2 eb => ⟨rfl, I.turned (t' := s.toks) (fun b o hb q => eb b o hb q) f0 f1 f3 f4 f5⟩
  self := fun A i s Q E st h => let ⟨⟨_, en⟩, _⟩ := st; wpAny_pyIter_enum en h
def iEnumT (K : PySem.W.Frag) (ta : TA) : TI := fun σ H R => ta σ H fun vs H1 => ∃ a ys, vs = [.ref a] ∧ SqT K H1 a ys ∧ R (IteT K a) H1
theorem pi_enumT {X : Cx} {e : PySem.Expr} {ta : TA} {p pos tpos : Pos} {elts : List PySem.Expr} {kk : Nat} (hg : Gl X "enumerate") (hm : X.mg "enumerate" = none) (ha : PA X [e] ta) (hs : starEach [e] X.env = [(false, eval e X.env)] := by rfl) :
    PI X (.Tuple elts kk tpos) (.Call (.Name "enumerate" p) [e] [] pos) (iEnumT X.K ta) := by
  refine ⟨fun pins s σ H R I wish => ?_⟩
  refine Call_ (ld_blt I hg hm boot_enumerate (PyProof.Rows.callWith_type1 (thn (ha.run pos pins s σ H _ I wish) fun us s1 hh => ?_) hs rfl))
  obtain ⟨vs, H1, I1, r1, a, ys, rfl, sq, q⟩ := hh
  cases r1 with
  | cons r rr =>
    cases rr
    cases r
    obtain ⟨its, vals, tp, ln⟩ := I1.tuple sq
    have tpl : s1.heap.IsTuple a its.toArray := tp
    refine EnumX.made1 (begins_tuple a its.toArray) tpl fun h2 en nw kp => wpAny_pyIter_enum en ?_
    have J : Inv X pins σ H1 { s1 with heap := h2 } := I1.kept (t' := s1.toks) kp
    refine ⟨s1.heap.objs.size + 1, [s1.heap.objs.size + 1, s1.heap.objs.size], _, _, H1, rfl, J, turn_enumT a (s1.heap.objs.size + 1) s1.heap.objs.size, ⟨⟨.none, en⟩, ⟨_, nw, rfl, rfl⟩, Nat.succ_ne_self _⟩, fun b hb => ?_, q⟩
    have le : s1.heap.objs.size ≤ b := by
      rcases List.mem_cons.mp hb with z | hb2
      · rw [z]
        exact Nat.le_succ _
      · rw [List.mem_singleton.mp hb2]
        exact Nat.le_refl _
    exact I1.fpOk le (I1.hok.fresh le)
theorem walk_enumT {K : PySem.W.Frag} {a : Addr} {ys : List V} : Walk (IteT K a) ys.length (fun H => SqT K H a ys) (YPair (fun i => some (.int (i : Nat))) (fun i => ys[i]?)) := by
  refine ⟨fun i _ lt q => ⟨ys, ys[i], q, by simp [lt]⟩, fun _ q => ⟨ys, q, Nat.le_refl _⟩, fun i H v H2 _ q w => ?_⟩
  obtain ⟨c, y, e1, e2, e3, e4⟩ := w
  exact ⟨c, .int (i : Nat), y, e1, e2, e3, rfl, e4 ys q⟩
end L2
namespace Rt
open PySem L2 PySem.Spec PyProof.Rows
section
variable {P : Program} {w : World} {K : PySem.W.Frag} {mg : Str → Option Value} {base : Heap}

/-! ### what stands where a value points -/
theorem AnyV.at {T : Addr → Prop} {H H1 : Hp} {c : Addr} {o : HO} (a : AnyV T H (.ref c)) (S : Same H H1) (e : H1 c = some o) : H c = some o := by
  cases a with
  | lst e2 => rw [S _ _ e2] at e; rw [← e]; exact e2
  | tup e2 => rw [S _ _ e2] at e; rw [← e]; exact e2
  | dct e2 => rw [S _ _ e2] at e; rw [← e]; exact e2
  | ins t e2 => rw [S _ _ e2] at e; rw [← e]; exact e2
/-- the things of the tuple x -/
def tupOf (H : Hp) (x : V) : Option (List V) := match x with
  | .ref c => match H c with
    | some (.tup ys) => some ys
    | _ => none
  | _ => none
theorem tupOf_ref {H : Hp} {c : Addr} {ys : List V} (h : H c = some (.tup ys)) : tupOf H (.ref c) = some ys := by
  show (match H c with | some (.tup ys) => some ys | _ => none) = _
  rw [h]
theorem tupOf_some {H : Hp} {x : V} {ys : List V} (h : tupOf H x = some ys) : ∃ c, x = .ref c ∧ H c = some (.tup ys) := by
  cases x with
  | ref c =>
    refine ⟨c, rfl, ?_⟩
    have h2 : (match H c with | some (.tup ys) => some ys | _ => none) = some ys := h
    split at h2
    · rename_i zs e
      cases h2
      exact e
    · cases h2
  | _ => cases h
theorem tupOf_same {T : Addr → Prop} {H H2 : Hp} {x : V} (a : AnyV T H x) (S : Same H H2) : tupOf H2 x = tupOf H x := by
  cases e : tupOf H x with
  | some ys =>
    obtain ⟨c, rfl, h⟩ := tupOf_some e
    exact tupOf_ref (S _ _ h)
  | none =>
    cases e2 : tupOf H2 x with
    | none => rfl
    | some ys =>
      obtain ⟨c, rfl, h⟩ := tupOf_some e2
      rw [tupOf_ref (a.at S h)] at e
      cases e
/-- its things are any values -/
def ItemsAny (T : Addr → Prop) (H : Hp) (x : V) : Prop := ∀ ys, tupOf H x = some ys → ∀ y ∈ ys, AnyV T H y
theorem ItemsAny.same {T : Addr → Prop} {H H2 : Hp} {x : V} (h : ItemsAny T H x) (a : AnyV T H x) (S : Same H H2) : ItemsAny T H2 x := fun ys e y hy => by
  rw [tupOf_same a S] at e
  exact (h ys e y hy).mono S
theorem ItemsAny.ints {T : Addr → Prop} {H : Hp} {c : Addr} {ns : List Int} (h : H c = some (.tup (ns.map V.int))) : ItemsAny T H (.ref c) := fun ys e y hy => by
  rw [tupOf_ref h] at e
  cases e
  obtain ⟨z, _, rfl⟩ := List.mem_map.mp hy
  exact .int z
theorem ItemsAny.non {T : Addr → Prop} {H : Hp} {x : V} (h : tupOf H x = none) : ItemsAny T H x := fun ys e => by
  rw [h] at e
  cases e
/-- the place of the first thing that is no integer from a to b -/
def firstW (a b : Int) : List V → Option Nat
  | [] => none
  | y :: ys => if intIn y a b = true then (firstW a b ys).map (· + 1) else some 0
theorem firstW_none {a b : Int} : ∀ {ys : List V}, (∀ y ∈ ys, intIn y a b = true) → firstW a b ys = none
  | [], _ => rfl
  | y :: ys, h => by
    unfold firstW
    rw [if_pos (h y List.mem_cons_self), firstW_none fun z hz => h z (List.mem_cons_of_mem _ hz)]
    rfl
theorem firstW_all {a b : Int} : ∀ {ys : List V}, firstW a b ys = none → ∀ y ∈ ys, intIn y a b = true
  | [], _, _, hy => by cases hy
  | z :: ys, h, y, hy => by
    unfold firstW at h
    by_cases e : intIn z a b = true
    · rw [if_pos e] at h
      rcases List.mem_cons.mp hy with rfl | hy
      · exact e
      · exact firstW_all (Option.map_eq_none_iff.mp h) y hy
    · rw [if_neg e] at h
      cases h
theorem firstW_at {a b : Int} : ∀ {ys : List V} {i : Nat} {y : V}, (∀ (j : Nat) (z : V), j < i → ys[j]? = some z → intIn z a b = true) → ys[i]? = some y → intIn y a b = false → firstW a b ys = some i
  | [], i, y, _, h, _ => by cases h
  | z :: ys, 0, y, _, h, e => by
    cases h
    unfold firstW
    rw [if_neg (by rw [e]; exact Bool.false_ne_true)]
  | z :: ys, i + 1, y, h0, h, e => by
    unfold firstW
    rw [if_pos (h0 0 z (Nat.succ_pos _) rfl), firstW_at (i := i) (y := y) (fun j x hj hx => h0 (j + 1) x (Nat.succ_lt_succ hj) hx) h e]
    rfl
theorem firstW_lt {a b : Int} : ∀ {ys : List V} {i : Nat}, firstW a b ys = some i → i < ys.length
  | [], _, h => by cases h
  | y :: ys, i, h => by
    unfold firstW at h
    by_cases e : intIn y a b = true
    · rw [if_pos e] at h
      obtain ⟨j, hj, rfl⟩ := Option.map_eq_some_iff.mp h
      exact Nat.succ_lt_succ (firstW_lt hj)
    · rw [if_neg e] at h
      cases h
      exact Nat.succ_pos _
theorem firstW_some {a b : Int} : ∀ {ys : List V} {i : Nat}, firstW a b ys = some i → (∀ (j : Nat) (z : V), j < i → ys[j]? = some z → intIn z a b = true) ∧ ∃ y, ys[i]? = some y ∧ intIn y a b = false
  | [], _, h => by cases h
  | y :: ys, i, h => by
    unfold firstW at h
    by_cases e : intIn y a b = true
    · rw [if_pos e] at h
      obtain ⟨j, hj, rfl⟩ := Option.map_eq_some_iff.mp h
      obtain ⟨h1, z, h2, h3⟩ := firstW_some hj
      refine ⟨fun m v hm hv => ?_, z, h2, h3⟩
      cases m with
      | zero =>
        cases hv
        exact e
      | succ m => exact h1 m v (by omega) hv
    · rw [if_neg e] at h
      cases h
      exact ⟨fun m v hm => absurd hm (Nat.not_lt_zero _), y, rfl, by simpa using e⟩
/-- what is wrong of a tuple of lo to hi integers from a to b: nothing, None, or the first wrong place -/
def verdict (lo hi : Nat) (a b : Int) (o : Option (List V)) : Option V := match o with
  | none => some .non
  | some ys => if lo ≤ ys.length ∧ ys.length ≤ hi then (firstW a b ys).map fun i => .int (i : Nat) else some .non
theorem verdict_some (lo hi : Nat) (a b : Int) (ys : List V) : verdict lo hi a b (some ys) = if lo ≤ ys.length ∧ ys.length ≤ hi then (firstW a b ys).map fun i => .int (i : Nat) else some .non := rfl
theorem verdict_good {lo hi : Nat} {a b : Int} {ys : List V} (l1 : lo ≤ ys.length) (l2 : ys.length ≤ hi) (h : ∀ y ∈ ys, intIn y a b = true) : verdict lo hi a b (some ys) = none := by
  rw [verdict_some, if_pos ⟨l1, l2⟩, firstW_none h]
  rfl
theorem verdict_none {lo hi : Nat} {a b : Int} {o : Option (List V)} (h : verdict lo hi a b o = none) : ∃ ys, o = some ys ∧ lo ≤ ys.length ∧ ys.length ≤ hi ∧ ∀ y ∈ ys, intIn y a b = true := by
  cases o with
  | none => cases h
  | some ys =>
    rw [verdict_some] at h
    by_cases l : lo ≤ ys.length ∧ ys.length ≤ hi
    · rw [if_pos l] at h
      exact ⟨ys, rfl, l.1, l.2, firstW_all (Option.map_eq_none_iff.mp h)⟩
    · rw [if_neg l] at h
      cases h

/-! ### for over a list or a tuple -/
end
end Rt
namespace L2
open PySem PySem.Spec PyProof.Rows
def iSeqA (K : PySem.W.Frag) (tl : TE) : TI := fun σ H R => iList K tl σ H R ∨ iTup K tl σ H R
theorem pi_seqA {X : Cx} {tg l : PySem.Expr} {tl : TE} (hl : PE X l tl) : PI X tg l (iSeqA X.K tl) :=
  ⟨fun pins s σ H R I h => h.elim ((pi_list hl).run pins s σ H R I) ((pi_tup hl).run pins s σ H R I)⟩
def iEnumA (K : PySem.W.Frag) (ta : TA) : TI := fun σ H R => iEnum K ta σ H R ∨ iEnumT K ta σ H R
theorem pi_enumA {X : Cx} {e : PySem.Expr} {ta : TA} {p pos tpos : Pos} {elts : List PySem.Expr} {kk : Nat} (hg : Gl X "enumerate") (hm : X.mg "enumerate" = none) (ha : PA X [e] ta) (hs : starEach [e] X.env = [(false, eval e X.env)] := by rfl) :
    PI X (.Tuple elts kk tpos) (.Call (.Name "enumerate" p) [e] [] pos) (iEnumA X.K ta) :=
  ⟨fun pins s σ H R I h => h.elim ((pi_enum hg hm ha hs).run pins s σ H R I) ((pi_enumT hg hm ha hs).run pins s σ H R I)⟩
/-- a list or a tuple stands at c -/
def SqA (H : Hp) (c : Addr) (ys : List V) : Prop := H c = some (.lst ys) ∨ H c = some (.tup ys)
theorem SqA.same {H H2 : Hp} {c : Addr} {ys : List V} (h : SqA H c ys) (S : Same H H2) : SqA H2 c ys := h.imp (S _ _) (S _ _)
theorem SqA.len {K : PySem.W.Frag} {H : Hp} {c : Addr} {ys : List V} (h : SqA H c ys) : SqL K H c ys ∨ SqT K H c ys := h.imp SqL.of SqT.of
theorem seqA_of {K : PySem.W.Frag} {i : Nat} {σ : L2.St} {H : Hp} {R : It → Hp → Prop} {c : Addr} {ys : List V} (hv : σ[i]? = some (some (.ref c))) (hc : SqA H c ys)
    (k : ∀ (J : It) (G : Hp → Prop), Walk J ys.length G (YAt ys) → (∀ H2, Same H H2 → G H2) → R J H) : iSeqA K (tVar i) σ H R := by
  rcases hc with hc | hc
  · exact .inl ⟨_, hv, c, rfl, ⟨_, SqL.of hc⟩, k _ _ walk_list fun H2 S => SqL.of (S _ _ hc)⟩
  · exact .inr ⟨_, hv, c, rfl, ⟨_, SqT.of hc⟩, k _ _ walk_tup fun H2 S => SqT.of (S _ _ hc)⟩
theorem enumA_of {K : PySem.W.Frag} {i : Nat} {σ : L2.St} {H : Hp} {R : It → Hp → Prop} {c : Addr} {ys : List V} (hv : σ[i]? = some (some (.ref c))) (hc : SqA H c ys)
    (k : ∀ (J : It) (G : Hp → Prop), Walk J ys.length G (YPair (fun i => some (.int (i : Nat))) (fun i => ys[i]?)) → (∀ H2, Same H H2 → G H2) → R J H) : iEnumA K (tCons (tVar i) tNil) σ H R := by
  rcases hc with hc | hc
  · exact .inl ⟨_, hv, c, ys, rfl, SqL.of hc, k _ _ walk_enum fun H2 S => SqL.of (S _ _ hc)⟩
  · exact .inr ⟨_, hv, c, ys, rfl, SqT.of hc, k _ _ walk_enumT fun H2 S => SqT.of (S _ _ hc)⟩
end L2
namespace Rt
open PySem L2 PySem.Spec PyProof.Rows
section
variable {P : Program} {w : World} {K : PySem.W.Frag} {mg : Str → Option Value} {base : Heap}

/-! ### tuples of so many things; the first wrong one -/
def isTup (lo hi : Int) (o : Option (List V)) : Bool := match o with
  | none => false
  | some ys => decide (lo ≤ (ys.length : Int)) && decide ((ys.length : Int) ≤ hi)
theorem isi_tup (T : Tx P K mg) {H : Hp} {x : V} (a : AnyV (OwnT T) H x) : ∃ t, TyX K H x t ∧ ∃ b, PySem.W.kitOne K t (.type "tuple") = some b ∧ (b = false → tupOf H x = none) ∧ (b = true → ∃ c ys, x = .ref c ∧ H c = some (.tup ys)) := by
  have no : ∀ {c : Addr} {o : HO}, H c = some o → (∀ ys, o ≠ .tup ys) → tupOf H (.ref c) = none := fun {c o} e h => by
    cases q : tupOf H (.ref c) with
    | none => rfl
    | some ys =>
      obtain ⟨c', e1, e2⟩ := tupOf_some q
      cases e1
      rw [e] at e2
      exact absurd (Option.some.inj e2) (h ys)
  cases a with
  | non => exact ⟨_, .base .non, false, kit_ty (by decide +kernel), fun _ => rfl, fun z => nomatch z⟩
  | bl b => exact ⟨_, .base (.bl b), false, kit_ty (by decide +kernel), fun _ => rfl, fun z => nomatch z⟩
  | int i => exact ⟨.type "int", .base (.int i), false, kit_ty (by decide +kernel), fun _ => rfl, fun z => nomatch z⟩
  | str x => exact ⟨_, .base (.str x), false, kit_ty (by decide +kernel), fun _ => rfl, fun z => nomatch z⟩
  | lst e => exact ⟨_, .base (.lst e), false, kit_ty (by decide +kernel), fun _ => no e (fun _ z => nomatch z), fun z => nomatch z⟩
  | tup e => exact ⟨_, .base (.tup e), true, kit_ty (by decide +kernel), fun z => (nomatch z), fun _ => ⟨_, _, rfl, e⟩⟩
  | dct e => exact ⟨_, .base (.dK e), false, kit_ty (by decide +kernel), fun _ => no e (fun _ z => nomatch z), fun z => nomatch z⟩
  | ins t e => exact ⟨_, .base (t.ty e), false, t.ntuple, fun _ => no e (fun _ z => nomatch z), fun z => nomatch z⟩

/-! ### lists and tuples -/
def seqOf (H : Hp) (x : V) : Option (List V) := match x with
  | .ref c => match H c with
    | some (.tup ys) => some ys
    | some (.lst ys) => some ys
    | _ => none
  | _ => none
theorem seqOf_at {H : Hp} {c : Addr} {ys : List V} (h : SqA H c ys) : seqOf H (.ref c) = some ys := by
  show (match H c with | some (.tup ys) => some ys | some (.lst ys) => some ys | _ => none) = _
  rcases h with h | h <;> rw [h]
theorem seqOf_some {H : Hp} {x : V} {ys : List V} (h : seqOf H x = some ys) : ∃ c, x = .ref c ∧ SqA H c ys := by
  cases x with
  | ref c =>
    refine ⟨c, rfl, ?_⟩
    have h2 : (match H c with | some (.tup ys) => some ys | some (.lst ys) => some ys | _ => none) = some ys := h
    split at h2
    · rename_i zs e
      cases h2
      exact .inr e
    · rename_i zs e
      cases h2
      exact .inl e
    · cases h2
  | _ => cases h
theorem seqOf_same {T : Addr → Prop} {H H2 : Hp} {x : V} (a : AnyV T H x) (S : Same H H2) : seqOf H2 x = seqOf H x := by
  cases e : seqOf H x with
  | some ys =>
    obtain ⟨c, rfl, h⟩ := seqOf_some e
    exact seqOf_at (h.same S)
  | none =>
    cases e2 : seqOf H2 x with
    | none => rfl
    | some ys =>
      obtain ⟨c, rfl, h⟩ := seqOf_some e2
      rw [seqOf_at (show SqA H c ys from h.imp (a.at S) (a.at S))] at e
      cases e
theorem isi_seq (T : Tx P K mg) {H : Hp} {x : V} (a : AnyV (OwnT T) H x) : ∃ t, TyX K H x t ∧ ∃ b, PySem.W.kitAny K t [.type "list", .type "tuple"] = some b ∧ (b = false → seqOf H x = none) ∧ (b = true → ∃ c ys, x = .ref c ∧ SqA H c ys) := by
  have no : ∀ {t : Value}, PySem.W.kitOne K t (.type "list") = some false → PySem.W.kitOne K t (.type "tuple") = some false → PySem.W.kitAny K t [.type "list", .type "tuple"] = some false := fun h1 h2 => kitAny_cons h1 (fun _ => kitAny_cons h2 (fun _ => rfl) (fun z => nomatch z)) (fun z => nomatch z)
  have un : ∀ {c : Addr} {o : HO}, H c = some o → (∀ ys, o ≠ .tup ys) → (∀ ys, o ≠ .lst ys) → seqOf H (.ref c) = none := fun {c o} e h1 h2 => by
    cases q : seqOf H (.ref c) with
    | none => rfl
    | some ys =>
      obtain ⟨c', e1, e2⟩ := seqOf_some q
      cases e1
      rcases e2 with e2 | e2
      · rw [e] at e2
        exact absurd (Option.some.inj e2) (h2 ys)
      · rw [e] at e2
        exact absurd (Option.some.inj e2) (h1 ys)
  cases a with
  | non => exact ⟨_, .base .non, false, no (kit_ty (by decide +kernel)) (kit_ty (by decide +kernel)), fun _ => rfl, fun z => nomatch z⟩
  | bl b => exact ⟨_, .base (.bl b), false, no (kit_ty (by decide +kernel)) (kit_ty (by decide +kernel)), fun _ => rfl, fun z => nomatch z⟩
  | int i => exact ⟨.type "int", .base (.int i), false, no (kit_ty (by decide +kernel)) (kit_ty (by decide +kernel)), fun _ => rfl, fun z => nomatch z⟩
  | str x => exact ⟨_, .base (.str x), false, no (kit_ty (by decide +kernel)) (kit_ty (by decide +kernel)), fun _ => rfl, fun z => nomatch z⟩
  | lst e => exact ⟨_, .base (.lst e), true, kitAny_cons (b := true) (kit_ty (by decide +kernel)) (fun z => nomatch z) (fun _ => rfl), fun z => (nomatch z), fun _ => ⟨_, _, rfl, .inl e⟩⟩
  | tup e => exact ⟨_, .base (.tup e), true, kitAny_cons (b := false) (kit_ty (by decide +kernel)) (fun _ => kitAny_cons (b := true) (kit_ty (by decide +kernel)) (fun z => nomatch z) (fun _ => rfl)) (fun z => nomatch z), fun z => (nomatch z), fun _ => ⟨_, _, rfl, .inr e⟩⟩
  | dct e => exact ⟨_, .base (.dK e), false, no (kit_ty (by decide +kernel)) (kit_ty (by decide +kernel)), fun _ => un e (fun _ z => nomatch z) (fun _ z => nomatch z), fun z => nomatch z⟩
  | ins t e => exact ⟨_, .base (t.ty e), false, no t.nlist t.ntuple, fun _ => un e (fun _ z => nomatch z) (fun _ z => nomatch z), fun z => nomatch z⟩
def spIsSeq (T : Tx P K mg) : Sp := fun vs H Q _ => ∃ (x : V) (lo hi : Int), vs = [x, .int lo, .int hi] ∧ AnyV (OwnT T) H x ∧ ∀ H2, Same H H2 → Q (.bl (isTup lo hi (seqOf H x))) H2
theorem ok_is_list_or_tuple (T : Tx P K mg) : FnOk P w K mg base CX0 lv_is_list_or_tuple T.a_is_list_or_tuple T.d_is_list_or_tuple ["told", "fewest", "most"] (spIsSeq T) := by
  refine T.F_is_list_or_tuple.ok sc_is_list_or_tuple (fun vs H Q E h => ?_) (fun cdv A outer s H vs Q E hr h => ?_)
  · obtain ⟨x, lo, hi, rfl, _⟩ := h
    rfl
  · obtain ⟨x, lo, hi, rfl, a, k⟩ := h
    refine ⟨_, (pss_one (ps_ret (pe_and (pe_callB call_isiT (by rfl) T.n_isinstance (by decide +kernel) (pa_cons (pv 0) (pa_cons (pe_tup (pa_cons (pe_bltn (v := .ty "list") rfl T.n_list (by decide +kernel) rfl) (pa_cons (pe_bltn (v := .ty "tuple") rfl T.n_tuple (by decide +kernel) rfl) pa_nil))) pa_nil))) (pe_one (pe_chain op_le op_le (pv 1) (pe_callB call_len_seq (by rfl) T.n_len (by decide +kernel) (pa_cons (pv 0) pa_nil)) (pv 2)))))), ?_⟩
    refine ⟨_, rfl, by show 2 ≤ sizeLine; decide, fun tp htp => ?_⟩
    have S := same_upd (o := .tup [.ty "list", .ty "tuple"]) htp
    have k := k _ S
    rw [← seqOf_same a S] at k
    have a2 := a.mono S
    obtain ⟨t, ty, q, e1, h1, h2⟩ := isi_seq T a2
    refine ⟨x, tp, _, t, _, q, rfl, upd_same, .cons (.ty _) (.cons (.ty _) .nil), ty, e1, q, rfl, ?_⟩
    cases q with
    | false =>
      rw [h1 rfl] at k
      exact iteF k
    | true =>
      obtain ⟨c, ys, rfl, e⟩ := h2 rfl
      rw [seqOf_at e] at k
      have k : Q (V.bl (decide (lo ≤ (ys.length : Int)) && decide ((ys.length : Int) ≤ hi))) _ := k
      refine iteT ⟨_, rfl, _, rfl, c, ys, rfl, e.len, _, _, rfl, rfl, _, rfl, ?_⟩
      refine ite2 (fun g1 => ?_) (fun g1 => ?_)
      · rw [g1] at k
        exact ⟨_, rfl, _, _, rfl, rfl, k⟩
      · rw [show decide (lo ≤ (ys.length : Int)) = false from by simpa using g1] at k
        exact k

/-! ### the block -/
def blockOf (b t : Int) : Int := if t = 1 then b else b * b
theorem block_bd {b t : Int} (h1 : 2 ≤ b) (h2 : b ≤ 16) : 2 ≤ blockOf b t ∧ blockOf b t ≤ 256 := by
  unfold blockOf
  split
  · omega
  · have q : b * b ≤ 16 * 16 := Int.mul_le_mul h2 h2 (by omega) (by omega)
    have r : 2 * 2 ≤ b * b := Int.mul_le_mul h1 h1 (by omega) (by omega)
    omega
theorem pow_block {b t : Int} (t1 : 1 ≤ t) (t2 : t ≤ 2) : b ^ t.toNat = blockOf b t := by
  unfold blockOf
  by_cases h : t = 1
  · rw [if_pos h, h]
    exact Int.pow_succ b 0 |>.trans (by rw [Int.pow_zero, Int.one_mul])
  · have h2 : t = 2 := by omega
    rw [if_neg h, h2]
    exact Int.pow_succ b 1 |>.trans (by rw [Int.pow_succ, Int.pow_zero, Int.one_mul])

/-! ### tricks -/
def spBlockOf : Sp := fun vs H Q _ => ∃ b t : Int, vs = [.int b, .int t] ∧ 2 ≤ b ∧ b ≤ 16 ∧ Q (.int (blockOf b t)) H
theorem ok_block_of (T : Tx P K mg) : FnOk P w K mg base CX0 lv_block_of T.a_block_of T.d_block_of ["base", "take"] spBlockOf := by
  refine T.F_block_of.ok sc_block_of (fun vs H Q E h => ?_) (fun cdv A outer s H vs Q E hr h => ?_)
  · obtain ⟨b, t, rfl, _⟩ := h
    rfl
  · obtain ⟨b, t, rfl, h1, h2, k⟩ := h
    refine ⟨_, (pss_one (ps_ret (pe_ifExp (pt_cmpR op_eq (pv 1) pe_int (nomark _)) (pv 0) (pe_op op_mul (pv 0) (pv 0))))), ?_⟩
    refine ⟨_, rfl, rfl, _, rfl, ?_⟩
    refine ite2 (fun c => ?_) (fun c => ?_)
    · have c1 : t = 1 := by simpa using c
      have k2 : Q (.int b) H := by
        have e : blockOf b t = b := by unfold blockOf; rw [if_pos c1]
        rw [e] at k
        exact k
      exact ⟨_, rfl, k2⟩
    · have c1 : ¬ t = 1 := by simpa using c
      have k2 : Q (.int (b * b)) H := by
        have e : blockOf b t = b * b := by unfold blockOf; rw [if_neg c1]
        rw [e] at k
        exact k
      exact ⟨_, rfl, _, rfl, _, _, rfl, rfl, .inl ⟨by omega, by omega⟩, k2⟩

/-- a trick's attributes -/
def tf (b t m : Int) : List (Str × V) := putF "_times" (.int m) (putF "_take" (.int t) (putF "_base" (.int b) []))
theorem n1 : ¬ (("_base" : Str) = "_take") := by decide +kernel
theorem n2 : ¬ (("_base" : Str) = "_times") := by decide +kernel
theorem n3 : ¬ (("_take" : Str) = "_times") := by decide +kernel
theorem tf_eq (b t m : Int) : tf b t m = ([("_base", V.int b), ("_take", V.int t), ("_times", V.int m)] : List (Str × V)) := by
  have e2 : putF "_take" (V.int t) (putF "_base" (V.int b) []) = ([("_base", V.int b), ("_take", V.int t)] : List (Str × V)) := by
    show (if ("_base" : Str) = "_take" then [(("_base" : Str), V.int t)] else (("_base" : Str), V.int b) :: putF "_take" (V.int t) []) = _
    rw [if_neg n1]
    all_goals rfl
  unfold tf
  rw [e2]
  show (if ("_base" : Str) = "_times" then _ else (("_base" : Str), V.int b) :: (if ("_take" : Str) = "_times" then _ else (("_take" : Str), V.int t) :: putF "_times" (V.int m) [])) = _
  rw [if_neg n2, if_neg n3]
  all_goals rfl
theorem tf_base (b t m : Int) : (tf b t m).lookup ("_base" : Str) = some (.int b) := by
  unfold tf
  rw [lookup_putF, if_neg n2, lookup_putF, if_neg n1, lookup_putF, if_pos rfl]
theorem tf_take (b t m : Int) : (tf b t m).lookup ("_take" : Str) = some (.int t) := by
  unfold tf
  rw [lookup_putF, if_neg n3, lookup_putF, if_pos rfl]
theorem tf_times (b t m : Int) : (tf b t m).lookup ("_times" : Str) = some (.int m) := by
  unfold tf
  rw [lookup_putF, if_pos rfl]
/-- the Trick of these parts stands at p -/
def TrickAt (T : Tx P K mg) (H : Hp) (p : Addr) (b t m : Int) : Prop := (∃ dx, H p = some (.ins T.C_Trick dx (tf b t m))) ∧ 2 ≤ b ∧ b ≤ 16 ∧ 1 ≤ t ∧ t ≤ 2 ∧ -100 ≤ m ∧ m ≤ 100
theorem TrickAt.same {T : Tx P K mg} {H H' : Hp} {p : Addr} {b t m : Int} (h : TrickAt T H p b t m) (s : Same H H') : TrickAt T H' p b t m :=
  let ⟨⟨dx, e⟩, r⟩ := h
  ⟨⟨dx, s _ _ e⟩, r⟩
theorem TrickAt.but {T : Tx P K mg} {H H' : Hp} {p r : Addr} {b t m : Int} (h : TrickAt T H p b t m) (s : But r H H') (n : p ≠ r) : TrickAt T H' p b t m :=
  let ⟨⟨dx, e⟩, q⟩ := h
  ⟨⟨dx, s _ _ e n⟩, q⟩
theorem TrickAt.any {T : Tx P K mg} {H : Hp} {p : Addr} {b t m : Int} (h : TrickAt T H p b t m) : AnyV (OwnT T) H (.ref p) :=
  let ⟨⟨_, e⟩, _⟩ := h
  .ins (by first | exact rfl | exact Or.inl rfl) e
theorem isi_trick (T : Tx P K mg) {H : Hp} {x : V} (a : AnyV (fun _ => False) H x) : ∃ t, TyX K H x t ∧ PySem.W.kitOne K t (.ref T.C_Trick) = some false := by
  cases a with
  | non => exact ⟨_, .base .non, T.kin_Trick_NoneType⟩
  | bl b => exact ⟨_, .base (.bl b), T.kin_Trick_bool⟩
  | int i => exact ⟨_, .base (.int i), T.kin_Trick_int⟩
  | str x => exact ⟨_, .base (.str x), T.kin_Trick_str⟩
  | lst e => exact ⟨_, .base (.lst e), T.kin_Trick_list⟩
  | tup e => exact ⟨_, .base (.tup e), T.kin_Trick_tuple⟩
  | dct e => exact ⟨_, .base (.dK e), T.kin_Trick_dict⟩
  | ins t e => exact t.elim

/-- Trick(b, t, m) of good parts: a new object; nothing that stood is changed -/
def spTrickI (T : Tx P K mg) : Sp := fun vs H Q _ => ∃ (p dx : Addr) (b t m : Int), vs = [.ref p, .int b, .int t, .int m] ∧ H p = some (.ins T.C_Trick dx []) ∧ 2 ≤ b ∧ b ≤ 16 ∧ 1 ≤ t ∧ t ≤ 2 ∧ -100 ≤ m ∧ m ≤ 100 ∧
  ∀ H', TrickAt T H' p b t m → (∀ c o, H c = some o → c ≠ p → H' c = some o) → Q .non H'
theorem ok_Trick___init__ (T : Tx P K mg) : FnOk P w K mg base CX0 lv_Trick___init__ T.a_Trick___init__ T.d_Trick___init__ ["self", "base", "take", "times"] (spTrickI T) := by
  refine T.F_Trick___init__.ok sc_Trick___init__ (fun vs H Q E h => ?_) (fun cdv A outer s H vs Q E hr h => ?_)
  · obtain ⟨p, dx, b, t, m, rfl, _⟩ := h
    rfl
  · obtain ⟨p, dx, b, t, m, rfl, hp, b1, b2, t1, t2, m1, m2, k⟩ := h
    refine ⟨_, (pss_cons (ps_expr (pe_call (ok_check_base T) (hr.mono (by decide)) rfl T.g_check_base T.F_check_base.kp T.b_check_base .nil passL (pa_cons (pv 1) pa_nil)))
      (pss_cons (ps_expr (pe_call (ok_check_take T) (hr.mono (by decide)) rfl T.g_check_take T.F_check_take.kp T.b_check_take .nil passL (pa_cons (pv 2) pa_nil)))
      (pss_cons (ps_if (pt_not (pt_val (pe_call (ok_is_integer T) (hr.mono (by decide)) rfl T.g_is_integer T.F_is_integer.kp T.b_is_integer .nil pass0 (pa_cons (pv 3) (pa_cons (pe_un un_neg (pe_glob (v := .int 100) rfl T.c_GREATEST_TIMES ⟨_, rfl⟩)) (pa_cons (pe_glob (v := .int 100) rfl T.c_GREATEST_TIMES ⟨_, rfl⟩) pa_nil)))))) (pss_one ps_never) pss_nil)
      (pss_cons (ps_fld (pv 0) (pv 1) rfl)
      (pss_cons (ps_fld (pv 0) (pv 2) rfl)
      (pss_one (ps_fld (pv 0) (pv 3) rfl))))))), ?_⟩
    refine ⟨_, rfl, _, rfl, .int b, fun _ => ?_, fun z => Bool.noConfusion ((intIn_of b1 b2).symm.trans z)⟩
    refine ⟨_, rfl, _, rfl, .int t, fun _ => ?_, fun z => Bool.noConfusion ((intIn_of t1 t2).symm.trans z)⟩
    refine ⟨_, rfl, _, rfl, _, _, _, rfl, .int m, _, rfl, ?_⟩
    rw [intIn_of m1 m2]
    refine iteF ?_
    refine ⟨_, rfl, _, rfl, p, _, dx, _, rfl, hp, T.cl_Trick, T.na_Trick_base, (by show 0 < 1000; decide), ?_⟩
    refine ⟨_, rfl, _, rfl, p, _, dx, _, rfl, upd_same, T.cl_Trick, T.na_Trick_take, (by show 1 < 1000; decide), ?_⟩
    refine ⟨_, rfl, _, rfl, p, _, dx, _, rfl, upd_same, T.cl_Trick, T.na_Trick_times, (by show 2 < 1000; decide), ?_⟩
    refine k _ ⟨⟨dx, upd_same⟩, b1, b2, t1, t2, m1, m2⟩ fun c o e hc => ?_
    rw [upd_ne hc, upd_ne hc, upd_ne hc]
    exact e
/-- a Trick of good parts is made -/
theorem mk_trick {T : Tx P K mg} {H1 : Hp} {p dx : Addr} {b t m : Int} {R : Hp → Prop} {E : XK} (np : H1 p = none) (nd : H1 dx = none) (b1 : 2 ≤ b) (b2 : b ≤ 16) (t1 : 1 ≤ t) (t2 : t ≤ 2) (m1 : -100 ≤ m) (m2 : m ≤ 100)
    (k : ∀ H2, TrickAt T H2 p b t m → Same H1 H2 → R H2) : spTrickI T (.ref p :: ([.int b, .int t, .int m] ++ [])) (upd (upd H1 dx (.own p)) p (.ins T.C_Trick dx [])) (fun v H2 => v = .non ∧ R H2) E :=
  ⟨p, dx, b, t, m, rfl, upd_same, b1, b2, t1, t2, m1, m2, fun H2 hT kp => ⟨rfl, k H2 hT (Same.made np nd kp)⟩⟩

/-! ### a trick's parts, its block -/
def spGet (T : Tx P K mg) (f : Int → Int → Int → Int) : Sp := fun vs H Q _ => ∃ (p : Addr) (b t m : Int), vs = [.ref p] ∧ TrickAt T H p b t m ∧ Q (.int (f b t m)) H
theorem ok_Trick_base (T : Tx P K mg) : FnOk P w K mg base CX0 lv_Trick_base T.a_Trick_base T.d_Trick_base ["self"] (spGet T fun b _ _ => b) := by
  refine T.F_Trick_base.ok sc_Trick_base (fun vs H Q E h => ?_) (fun cdv A outer s H vs Q E hr h => ?_)
  · obtain ⟨p, b, t, m, rfl, _⟩ := h
    rfl
  · obtain ⟨p, b, t, m, rfl, ⟨⟨dx, e⟩, _⟩, k⟩ := h
    exact ⟨_, (pss_one (ps_ret (pe_fld (pv 0) rfl))), _, rfl, p, _, dx, _, _, rfl, e, T.cl_Trick, T.na_Trick_base, tf_base b t m, k⟩
theorem ok_Trick_take (T : Tx P K mg) : FnOk P w K mg base CX0 lv_Trick_take T.a_Trick_take T.d_Trick_take ["self"] (spGet T fun _ t _ => t) := by
  refine T.F_Trick_take.ok sc_Trick_take (fun vs H Q E h => ?_) (fun cdv A outer s H vs Q E hr h => ?_)
  · obtain ⟨p, b, t, m, rfl, _⟩ := h
    rfl
  · obtain ⟨p, b, t, m, rfl, ⟨⟨dx, e⟩, _⟩, k⟩ := h
    exact ⟨_, (pss_one (ps_ret (pe_fld (pv 0) rfl))), _, rfl, p, _, dx, _, _, rfl, e, T.cl_Trick, T.na_Trick_take, tf_take b t m, k⟩
theorem ok_Trick_times (T : Tx P K mg) : FnOk P w K mg base CX0 lv_Trick_times T.a_Trick_times T.d_Trick_times ["self"] (spGet T fun _ _ m => m) := by
  refine T.F_Trick_times.ok sc_Trick_times (fun vs H Q E h => ?_) (fun cdv A outer s H vs Q E hr h => ?_)
  · obtain ⟨p, b, t, m, rfl, _⟩ := h
    rfl
  · obtain ⟨p, b, t, m, rfl, ⟨⟨dx, e⟩, _⟩, k⟩ := h
    exact ⟨_, (pss_one (ps_ret (pe_fld (pv 0) rfl))), _, rfl, p, _, dx, _, _, rfl, e, T.cl_Trick, T.na_Trick_times, tf_times b t m, k⟩

theorem ok_trick_block (T : Tx P K mg) : FnOk P w K mg base CX0 lv_trick_block T.a_trick_block T.d_trick_block ["trick"] (spGet T fun b t _ => blockOf b t) := by
  refine T.F_trick_block.ok sc_trick_block (fun vs H Q E h => ?_) (fun cdv A outer s H vs Q E hr h => ?_)
  · obtain ⟨p, b, t, m, rfl, _⟩ := h
    rfl
  · obtain ⟨p, b, t, m, rfl, a, k⟩ := h
    obtain ⟨⟨dx, e⟩, b1, b2, _⟩ := id a
    exact ⟨_, (pss_one (ps_ret (pe_call (ok_block_of T) (hr.mono (by decide)) rfl T.g_block_of T.F_block_of.kp T.b_block_of .nil pass0 (pa_cons (pe_prop (pv 0) T.cl_Trick T.p_Trick_base (ok_Trick_base T) (hr.mono (by decide)) T.b_Trick_base .nil pass0 rfl) (pa_cons (pe_prop (pv 0) T.cl_Trick T.p_Trick_take (ok_Trick_take T) (hr.mono (by decide)) T.b_Trick_take .nil pass0 rfl) pa_nil))))), _, rfl, p, dx, _, rfl, e, p, b, t, m, rfl, a, _, rfl, p, dx, _, rfl, e, p, b, t, m, rfl, a, b, t, rfl, b1, b2, k⟩

/-! ### what a trick makes; the stretch behind which all comes again -/
def made (b t m n : Int) : Int := n / blockOf b t + m * n.fmod (blockOf b t)
def spMadeW (K : PySem.W.Frag) : Sp := fun vs H Q _ => ∃ B m n : Int, vs = [.int B, .int m, .int n] ∧ 2 ≤ B ∧ B ≤ 256 ∧ -100 ≤ m ∧ m ≤ 100 ∧ Q (.int (n / B + m * n.fmod B)) H
theorem ok_made_with (T : Tx P K mg) : FnOk P w K mg base CX0 lv_made_with T.a_made_with T.d_made_with ["block", "times", "n"] (spMadeW K) := by
  refine T.F_made_with.ok sc_made_with (fun vs H Q E h => ?_) (fun cdv A outer s H vs Q E hr h => ?_)
  · obtain ⟨B, m, n, rfl, _⟩ := h
    rfl
  · obtain ⟨B, m, n, rfl, B1, B2, m1, m2, k⟩ := h
    refine ⟨_, (pss_one (ps_ret (pe_op op_add (pe_op op_fdivW (pv 2) (pv 0)) (pe_op op_mul (pv 1) (pe_op op_modN (pv 2) (pv 0)))))), ?_⟩
    refine ⟨_, rfl, _, rfl, _, _, rfl, rfl, wide_div (show 0 < B by omega) (b := 9) (show B.natAbs < 2 ^ 9 by omega) (by decide) (by decide), ?_⟩
    exact ⟨_, rfl, _, rfl, _, rfl, _, _, rfl, rfl, (show B ≠ 0 by omega), _, _, rfl, rfl, .inl (show -(2 ^ 64) < m ∧ m < 2 ^ 64 from ⟨by omega, by omega⟩), _, _, rfl, rfl, k⟩
def spMade (T : Tx P K mg) : Sp := fun vs H Q _ => ∃ (p : Addr) (b t m n : Int), vs = [.ref p, .int n] ∧ TrickAt T H p b t m ∧ Q (.int (made b t m n)) H
theorem ok_made_of (T : Tx P K mg) : FnOk P w K mg base CX0 lv_made_of T.a_made_of T.d_made_of ["trick", "n"] (spMade T) := by
  refine T.F_made_of.ok sc_made_of (fun vs H Q E h => ?_) (fun cdv A outer s H vs Q E hr h => ?_)
  · obtain ⟨p, b, t, m, n, rfl, _⟩ := h
    rfl
  · obtain ⟨p, b, t, m, n, rfl, a, k⟩ := h
    obtain ⟨⟨dx, e⟩, b1, b2, t1, t2, m1, m2⟩ := id a
    obtain ⟨B1, B2⟩ := block_bd (t := t) b1 b2
    refine ⟨_, (pss_one (ps_ret (pe_call (ok_made_with T) (hr.mono (by decide)) rfl T.g_made_with T.F_made_with.kp T.b_made_with .nil pass0 (pa_cons (pe_call (ok_trick_block T) (hr.mono (by decide)) rfl T.g_trick_block T.F_trick_block.kp T.b_trick_block .nil pass0 (pa_cons (pv 0) pa_nil)) (pa_cons (pe_prop (pv 0) T.cl_Trick T.p_Trick_times (ok_Trick_times T) (hr.mono (by decide)) T.b_Trick_times .nil pass0 rfl) (pa_cons (pv 1) pa_nil)))))), ?_⟩
    refine ⟨_, rfl, p, b, t, m, rfl, a, ?_⟩
    refine ⟨_, rfl, p, dx, _, rfl, e, p, b, t, m, rfl, a, ?_⟩
    exact ⟨_, rfl, _, _, _, rfl, by omega, by omega, m1, m2, k⟩

/-! ### chains of tricks -/
abbrev Prt : Type := Int × Int × Int
/-- the values are tricks of these parts -/
def Trs (T : Tx P K mg) (H : Hp) : List V → List Prt → Prop
  | [], [] => True
  | v :: vs, z :: l => (∃ p, v = .ref p ∧ TrickAt T H p z.1 z.2.1 z.2.2) ∧ Trs T H vs l
  | _, _ => False
theorem Trs.of {T : Tx P K mg} {H H' : Hp} (e : ∀ p b t m, TrickAt T H p b t m → TrickAt T H' p b t m) : ∀ {vs : List V} {l : List Prt}, Trs T H vs l → Trs T H' vs l
  | [], [], _ => trivial
  | _ :: _, _ :: _, ⟨⟨q, h1, h2⟩, h3⟩ => ⟨⟨q, h1, e _ _ _ _ h2⟩, h3.of e⟩
  | [], _ :: _, h => h.elim
  | _ :: _, [], h => h.elim
theorem Trs.same {T : Tx P K mg} {H H' : Hp} {vs : List V} {l : List Prt} (h : Trs T H vs l) (S : Same H H') : Trs T H' vs l := h.of fun _ _ _ _ e => e.same S
theorem Trs.but {T : Tx P K mg} {H H' : Hp} {r : Addr} {ys : List V} {vs : List V} {l : List Prt} (h : Trs T H vs l) (hr : H r = some (.lst ys)) (B : But r H H') : Trs T H' vs l :=
  h.of fun p _ _ _ e => e.but B fun z => by
    obtain ⟨⟨dx, e1⟩, _⟩ := e
    rw [z, hr] at e1
    cases e1
theorem Trs.len {T : Tx P K mg} {H : Hp} : ∀ {vs : List V} {l : List Prt}, Trs T H vs l → vs.length = l.length
  | [], [], _ => rfl
  | _ :: _, _ :: _, ⟨_, h3⟩ => congrArg Nat.succ h3.len
  | [], _ :: _, h => h.elim
  | _ :: _, [], h => h.elim
theorem Trs.at {T : Tx P K mg} {H : Hp} : ∀ {vs : List V} {l : List Prt}, Trs T H vs l → ∀ {i : Nat} {y : V}, vs[i]? = some y → ∃ p z, y = .ref p ∧ l[i]? = some z ∧ TrickAt T H p z.1 z.2.1 z.2.2
  | [], [], _, i, y, h => by cases h
  | _ :: _, z :: _, ⟨⟨q, h1, h2⟩, _⟩, 0, y, h => by
    cases h
    exact ⟨q, z, h1, rfl, h2⟩
  | _ :: _, _ :: _, ⟨_, h3⟩, i + 1, y, h => h3.at (i := i) h
  | [], _ :: _, h, _, _, _ => h.elim
  | _ :: _, [], h, _, _, _ => h.elim
theorem Trs.snoc {T : Tx P K mg} {H : Hp} {q : Addr} {z : Prt} (hq : TrickAt T H q z.1 z.2.1 z.2.2) : ∀ {vs : List V} {l : List Prt}, Trs T H vs l → Trs T H (vs ++ [.ref q]) (l ++ [z])
  | [], [], _ => ⟨⟨q, rfl, hq⟩, trivial⟩
  | _ :: _, _ :: _, ⟨h1, h3⟩ => ⟨h1, h3.snoc hq⟩
  | [], _ :: _, h => h.elim
  | _ :: _, [], h => h.elim
theorem Trs.take {T : Tx P K mg} {H : Hp} : ∀ {vs : List V} {l : List Prt} (k : Nat), Trs T H vs l → Trs T H (vs.take k) (l.take k)
  | [], [], k, _ => by rw [List.take_nil, List.take_nil]; trivial
  | _ :: _, _ :: _, 0, _ => trivial
  | _ :: _, _ :: _, k + 1, ⟨h1, h3⟩ => ⟨h1, h3.take k⟩
  | [], _ :: _, _, h => h.elim
  | _ :: _, [], _, h => h.elim
/-- is a Trick -/
def isT (T : Tx P K mg) (H : Hp) (y : V) : Prop := ∃ p dx fs, y = .ref p ∧ H p = some (.ins T.C_Trick dx fs)
theorem isT.same {T : Tx P K mg} {H H' : Hp} {y : V} (h : isT T H y) (S : Same H H') : isT T H' y :=
  let ⟨p, dx, fs, e, hp⟩ := h
  ⟨p, dx, fs, e, S _ _ hp⟩
theorem Trs.isT {T : Tx P K mg} {H : Hp} {vs : List V} {l : List Prt} (h : Trs T H vs l) {i : Nat} {y : V} (hy : vs[i]? = some y) : isT T H y := by
  obtain ⟨p, z, e, _, ⟨dx, hp⟩, _⟩ := h.at hy
  exact ⟨p, dx, _, e, hp⟩
def errN (T : Tx P K mg) (E : XK) (C : Addr) (f : Str) (H : Hp) (v : V) : Prop := ∀ H2 d, Same H H2 → H2 d = none → E (.ref C) (some d) (upd H2 d (.xd [(f, v)]))
/-- a list or tuple of 1 to 4 tricks, or the error -/
def spTricks (T : Tx P K mg) : Sp := fun vs H Q E => ∃ x : V, vs = [x] ∧
  ((AnyV (OwnT T) H x ∧ isTup 1 4 (seqOf H x) = false ∧ errN T E T.C_BadTricks "index" H .non) ∨
   ∃ (c : Addr) (ys : List V) (lim : Nat), x = .ref c ∧ SqA H c ys ∧ 1 ≤ ys.length ∧ ys.length ≤ 4 ∧ lim ≤ ys.length ∧ (∀ (j : Nat) (z : V), j < lim → ys[j]? = some z → isT T H z) ∧
     (lim < ys.length → ∃ y, ys[lim]? = some y ∧ AnyV (fun _ => False) H y ∧ errN T E T.C_BadTricks "index" H (.int (lim : Nat))) ∧ (lim = ys.length → ∀ H2, Same H H2 → Q .non H2))
theorem SqA.any {T : Addr → Prop} {H : Hp} {c : Addr} {ys : List V} (h : SqA H c ys) : AnyV T H (.ref c) := h.elim .lst .tup
theorem isTup_len {lo hi : Nat} {H : Hp} {c : Addr} {ys : List V} (h : SqA H c ys) (l1 : lo ≤ ys.length) (l2 : ys.length ≤ hi) : isTup lo hi (seqOf H (.ref c)) = true := by
  rw [seqOf_at h]
  show (decide ((lo : Int) ≤ (ys.length : Int)) && decide ((ys.length : Int) ≤ (hi : Int))) = true
  rw [Bool.and_eq_true, decide_eq_true_eq, decide_eq_true_eq]
  omega
theorem ok_check_tricks (T : Tx P K mg) : FnOk P w K mg base (L2.CX P w) lv_check_tricks T.a_check_tricks T.d_check_tricks ["tricks"] (spTricks T) := by
  refine T.F_check_tricks.okX sc_check_tricks (fun vs H Q E h => ?_) (fun cdv A outer s H vs Q E hr h => ?_)
  · obtain ⟨x, rfl, _⟩ := h
    rfl
  · obtain ⟨x, rfl, h⟩ := h
    refine ⟨_, (pss_cons (ps_if (pt_not (pt_val (pe_call (ok_is_list_or_tuple T) (hr.mono (by decide)) rfl T.g_is_list_or_tuple T.F_is_list_or_tuple.kp T.b_is_list_or_tuple .nil pass0 (pa_cons (pv 0) (pa_cons pe_int (pa_cons (pe_glob (v := .int 4) rfl T.c_MOST_TRICKS ⟨_, rfl⟩) pa_nil)))))) (pss_one (ps_raiseF T.x_BadTricks ar_BadTricks rfl hr (takes_of rfl rfl rfl rfl) (pa_cons pe_non pa_nil))) pss_nil)
      (pss_one (ps_for (passes_of rfl) rfl (pi_enumA (by rfl) T.n_enumerate (pa_cons (pv 0) pa_nil)) (pg_tup rfl (pgs_cons (pg_name (i := 1) sc_check_tricks.nd rfl (Or.inl rfl)) (pgs_cons (pg_name (i := 2) sc_check_tricks.nd rfl (Or.inl rfl)) pgs_nil))) (pss_one (ps_if (pt_not (pt_val (pe_callB call_isi (by rfl) T.n_isinstance (by decide +kernel) (pa_cons (pv 2) (pa_cons (pe_glob (v := .ref T.C_Trick) rfl T.g_Trick rfl) pa_nil))))) (pss_one (ps_raiseF T.x_BadTricks ar_BadTricks rfl hr (takes_of rfl rfl rfl rfl) (pa_cons (pv 1) pa_nil))) pss_nil))))), ?_⟩
    rcases h with ⟨a, g, e⟩ | ⟨c, ys, lim, rfl, hc, l1, l2, hl, hi, e, k⟩
    · refine ⟨_, rfl, x, 1, 4, rfl, a, fun H1 S1 => ⟨_, rfl, ?_⟩⟩
      rw [g]
      exact iteT ⟨_, rfl, .inl rfl, fun d hd => e H1 d S1 hd⟩
    · refine ⟨_, rfl, .ref c, 1, 4, rfl, SqA.any hc, fun H1 S1 => ⟨_, rfl, ?_⟩⟩
      rw [show isTup 1 4 (seqOf H (.ref c)) = true from isTup_len (lo := 1) (hi := 4) hc l1 l2]
      refine iteF (enumA_of rfl (hc.same S1) fun J G wk hG => ?_)
      refine for_it wk (fun i σ H2 => ∃ v1 v2 : Option V, Same H1 H2 ∧ i ≤ lim ∧ σ = [some (.ref c), v1, v2]) ⟨none, none, Same.refl H1, Nat.zero_le _, rfl⟩ (fun i σ H2 _ ⟨_, _, S, _, _⟩ => hG H2 S) ?_ ?_
      · rintro i x' σ H2 H3 hin ⟨v1, v2, S, hlim, rfl⟩ ⟨p, x2, y, rfl, np, rfl, e2', hy'⟩
        cases e2'
        have hy' : ys[i]? = some y := hy'
        refine ⟨p, _, rfl, SqT.of upd_same, rfl, _, _, rfl, _, _, rfl, rfl, ?_⟩
        have S3 := (S1.trans S).trans (same_upd (o := .tup [.int (i : Nat), y]) np)
        rcases Nat.lt_or_ge i lim with q | q
        · obtain ⟨p2, dx, fs, rfl, hp⟩ := (hi i y q hy').same S3
          exact ⟨_, rfl, _, _, _, _, _, rfl, .own _, .base (T.ins_Trick _ _ _ _ hp), T.kis_Trick, _, rfl, iteF ⟨_, _, S.trans (same_upd np), by omega, rfl⟩⟩
        · have ei : i = lim := by omega
          subst ei
          obtain ⟨y2, hy2, ay, er⟩ := e hin
          rw [hy'] at hy2
          cases hy2
          obtain ⟨t, ty, ek⟩ := isi_trick T (ay.mono S3)
          have sm : ((i : Int)).natAbs.log2 < 1920 := Nat.lt_of_le_of_lt (Nat.log2_le_self _) (by omega)
          exact ⟨_, rfl, _, _, _, _, _, rfl, .own _, ty, ek, _, rfl, iteT ⟨_, rfl, _, rfl, .inr ⟨_, rfl, sm⟩, fun d hd => er _ d S3 hd⟩⟩
      · rintro σ H2 ⟨v1, v2, S, hlim, rfl⟩
        exact k (by omega) H2 (S1.trans S)
/-! ### what a chain makes -/
def mkAll (qs : List Prt) (n : Int) : Int := qs.foldl (fun n q => made q.1 q.2.1 q.2.2 n) n
def wide (qs : List Prt) : Int := qs.foldl (fun w q => w * blockOf q.1 q.2.1) 1
theorem take_snoc {α : Type} {l : List α} {i : Nat} {z : α} (h : l[i]? = some z) : l.take (i + 1) = l.take i ++ [z] := by
  obtain ⟨hi, e⟩ := List.getElem?_eq_some_iff.mp h
  rw [List.take_succ, h]
  rfl
theorem mkAll_snoc (qs : List Prt) (z : Prt) (n : Int) : mkAll (qs ++ [z]) n = made z.1 z.2.1 z.2.2 (mkAll qs n) := by
  unfold mkAll
  rw [List.foldl_append]
  rfl
theorem wide_snoc (qs : List Prt) (z : Prt) : wide (qs ++ [z]) = wide qs * blockOf z.1 z.2.1 := by
  unfold wide
  rw [List.foldl_append]
  rfl
def spMadeAll (T : Tx P K mg) : Sp := fun vs H Q _ => ∃ (c : Addr) (ys : List V) (qs : List Prt) (n : Int), vs = [.ref c, .int n] ∧ SqA H c ys ∧ Trs T H ys qs ∧ Q (.int (mkAll qs n)) H
theorem ok_made_of_all (T : Tx P K mg) : FnOk P w K mg base CX0 lv_made_of_all T.a_made_of_all T.d_made_of_all ["tricks", "n"] (spMadeAll T) := by
  refine T.F_made_of_all.ok sc_made_of_all (fun vs H Q E h => ?_) (fun cdv A outer s H vs Q E hr h => ?_)
  · obtain ⟨c, ys, qs, n, rfl, _⟩ := h
    rfl
  · obtain ⟨c, ys, qs, n, rfl, hc, ht, k⟩ := h
    refine ⟨_, (pss_cons (ps_for PassesOwn.never rfl (pi_seqA (pv 0)) (pg_name (i := 2) sc_made_of_all.nd rfl (Or.inl rfl)) (pss_one (ps_set (i := 1) sc_made_of_all.nd rfl (Or.inl rfl) (pe_call (ok_made_of T) (hr.mono (by decide)) rfl T.g_made_of T.F_made_of.kp T.b_made_of .nil pass0 (pa_cons (pv 2) (pa_cons (pv 1) pa_nil))))))
      (pss_one (ps_ret (pv 1)))), ?_⟩
    refine seqA_of rfl hc fun J G wk hG => ?_
    refine for_it wk (fun i σ H2 => ∃ v : Option V, H2 = H ∧ σ = [some (.ref c), some (.int (mkAll (qs.take i) n)), v]) ⟨none, rfl, rfl⟩ (fun i σ H2 _ ⟨_, e, _⟩ => e ▸ hG H (Same.refl H)) ?_ ?_
    · rintro i x' σ H2 H3 hin ⟨v, rfl, rfl⟩ ⟨rfl, hy⟩
      obtain ⟨p, z, rfl, hz, hT⟩ := ht.at hy
      refine ⟨_, rfl, _, rfl, p, _, _, _, _, rfl, hT, some (.ref p), rfl, ?_⟩
      rw [take_snoc hz, mkAll_snoc]
      rfl
    · rintro σ H2 ⟨v, rfl, rfl⟩
      rw [ht.len, List.take_length]
      exact ⟨_, rfl, k⟩
theorem Trs.blk {T : Tx P K mg} {H : Hp} {ys : List V} {qs : List Prt} (h : Trs T H ys qs) {i : Nat} {z : Prt} (hz : qs[i]? = some z) : 2 ≤ blockOf z.1 z.2.1 ∧ blockOf z.1 z.2.1 ≤ 256 := by
  have li := (List.getElem?_eq_some_iff.mp hz).1
  obtain ⟨p, z', _, hz', ⟨_, b1, b2, _⟩⟩ := h.at (i := i) (y := ys[i]'(by rw [h.len]; exact li)) (List.getElem?_eq_getElem _)
  rw [hz] at hz'
  cases hz'
  exact block_bd b1 b2
def spProduct (T : Tx P K mg) : Sp := fun vs H Q _ => ∃ (c : Addr) (ys : List V) (qs : List Prt), vs = [.ref c] ∧ SqA H c ys ∧ Trs T H ys qs ∧ Q (.int (wide qs)) H
theorem ok_blocks_product (T : Tx P K mg) : FnOk P w K mg base CX0 lv_blocks_product T.a_blocks_product T.d_blocks_product ["tricks"] (spProduct T) := by
  refine T.F_blocks_product.ok sc_blocks_product (fun vs H Q E h => ?_) (fun cdv A outer s H vs Q E hr h => ?_)
  · obtain ⟨c, ys, qs, rfl, _⟩ := h
    rfl
  · obtain ⟨c, ys, qs, rfl, hc, ht, k⟩ := h
    refine ⟨_, (pss_cons (ps_set (i := 1) sc_blocks_product.nd rfl (Or.inl rfl) pe_int)
      (pss_cons (ps_for PassesOwn.never rfl (pi_seqA (pv 0)) (pg_name (i := 2) sc_blocks_product.nd rfl (Or.inl rfl)) (pss_one (ps_aug (i := 1) sc_blocks_product.nd rfl (Or.inl rfl) (pe_call (ok_trick_block T) (hr.mono (by decide)) rfl T.g_trick_block T.F_trick_block.kp T.b_trick_block .nil pass0 (pa_cons (pv 2) pa_nil)) (ip_op iop_mul))))
      (pss_one (ps_ret (pv 1))))), ?_⟩
    refine seqA_of rfl hc fun J G wk hG => ?_
    refine for_it wk (fun i σ H2 => ∃ v : Option V, H2 = H ∧ σ = [some (.ref c), some (.int (wide (qs.take i))), v]) ⟨none, rfl, rfl⟩ (fun i σ H2 _ ⟨_, e, _⟩ => e ▸ hG H (Same.refl H)) ?_ ?_
    · rintro i x' σ H2 H3 hin ⟨v, rfl, rfl⟩ ⟨rfl, hy⟩
      obtain ⟨p, z, rfl, hz, hT⟩ := ht.at hy
      obtain ⟨B1, B2⟩ := ht.blk hz
      refine ⟨_, rfl, _, rfl, p, _, _, _, rfl, hT, _, _, rfl, rfl, .inr ⟨(show -(2 ^ 64) < blockOf z.1 z.2.1 by omega), (show blockOf z.1 z.2.1 < 2 ^ 64 by omega)⟩, some (.ref p), rfl, ?_⟩
      rw [take_snoc hz, wide_snoc]
      rfl
    · rintro σ H2 ⟨v, rfl, rfl⟩
      rw [ht.len, List.take_length]
      exact ⟨_, rfl, k⟩

/-! ### lists of pairs -/
/-- the values vs are the pairs l -/
def Prs (H : Hp) : List V → List (Int × Int) → Prop
  | [], [] => True
  | v :: vs, z :: l => (∃ q, v = .ref q ∧ H q = some (.tup [.int z.1, .int z.2])) ∧ Prs H vs l
  | _, _ => False
theorem Prs.of {H H' : Hp} (e : ∀ q xs, H q = some (.tup xs) → H' q = some (.tup xs)) : ∀ {vs : List V} {l : List (Int × Int)}, Prs H vs l → Prs H' vs l
  | [], [], _ => trivial
  | _ :: _, _ :: _, ⟨⟨q, h1, h2⟩, h3⟩ => ⟨⟨q, h1, e _ _ h2⟩, h3.of e⟩
  | [], _ :: _, h => h.elim
  | _ :: _, [], h => h.elim
theorem Prs.same {H H' : Hp} {vs : List V} {l : List (Int × Int)} (h : Prs H vs l) (S : Same H H') : Prs H' vs l := h.of fun q _ e => S _ _ e
theorem Prs.put {H : Hp} {a : Addr} {ys : List V} {o : HO} {vs : List V} {l : List (Int × Int)} (h : Prs H vs l) (ha : H a = some (.lst ys)) : Prs (upd H a o) vs l := h.of fun q xs e => by
  rw [upd_ne (ne_of e ha (by intro z; cases z))]
  exact e
theorem Prs.but {H H' : Hp} {r : Addr} {ys : List V} {vs : List V} {l : List (Int × Int)} (h : Prs H vs l) (hr : H r = some (.lst ys)) (B : But r H H') : Prs H' vs l := h.of fun q xs e => B _ _ e (ne_of e hr (by intro z; cases z))
theorem Prs.len {H : Hp} : ∀ {vs : List V} {l : List (Int × Int)}, Prs H vs l → vs.length = l.length
  | [], [], _ => rfl
  | _ :: _, _ :: _, ⟨_, h3⟩ => congrArg Nat.succ h3.len
  | [], _ :: _, h => h.elim
  | _ :: _, [], h => h.elim
theorem Prs.snoc {H : Hp} {q : Addr} {z : Int × Int} (hq : H q = some (.tup [.int z.1, .int z.2])) : ∀ {vs : List V} {l : List (Int × Int)}, Prs H vs l → Prs H (vs ++ [.ref q]) (l ++ [z])
  | [], [], _ => ⟨⟨q, rfl, hq⟩, trivial⟩
  | _ :: _, _ :: _, ⟨h1, h3⟩ => ⟨h1, h3.snoc hq⟩
  | [], _ :: _, h => h.elim
  | _ :: _, [], h => h.elim
def pairD (z : Int × Int) : PyData := .tuple [.int z.1, .int z.2]
theorem dp_pair {H : Hp} {q : Addr} {z : Int × Int} (h : H q = some (.tup [.int z.1, .int z.2])) : Dp K H (.ref q) (pairD z) := .tup (SqT.of h) (.cons (.int _) (.cons (.int _) .nil))
theorem Prs.dp {H : Hp} : ∀ {vs : List V} {l : List (Int × Int)}, Prs H vs l → DpAll K H vs (l.map pairD)
  | [], [], _ => .nil
  | _ :: _, _ :: _, ⟨⟨q, h1, h2⟩, h3⟩ => h1 ▸ .cons (dp_pair h2) h3.dp
  | [], _ :: _, h => h.elim
  | _ :: _, [], h => h.elim
theorem eqv_pair (z y : Int × Int) : PyData.eqv (pairD z) (pairD y) = decide (z = y) := by
  show (PyData.eqv (.int z.1) (.int y.1) && (PyData.eqv (.int z.2) (.int y.2) && true)) = _
  show ((z.1 == y.1) && ((z.2 == y.2) && true)) = _
  rw [Bool.eq_iff_iff]
  simp [Prod.ext_iff]
theorem lay_pair (z : Int × Int) : PyData.canLay0 (pairD z) = true ∧ PyData.depth (pairD z) ≤ 2 := ⟨by simp [pairD, PyData.canLay0, PyData.canLayAll0], by simp [pairD, PyData.depth, PyData.depthAll]⟩
theorem shaped_pairs (l : List (Int × Int)) : SeqAt.shaped (.list (l.map pairD)) = true := (shaped_of (lays_map pairD 2 lay_pair l) (by decide)).1
theorem shaped_pair (z : Int × Int) : SeqAt.shaped (pairD z) = true := by
  show (PyData.canLay0 (pairD z) && decide (PyData.depth (pairD z) ≤ 64)) = true
  have := lay_pair z
  rw [Bool.and_eq_true]
  exact ⟨this.1, decide_eq_true (by omega)⟩

/-! ### the least number for which it fails -/
/-- None, or the number -/
def optV : Option Nat → V
  | none => .non
  | some n => .int (n : Int)
theorem find_at {f : Nat → Bool} {i k : Nat} (h : ∀ j, j < i → f j = false) (hf : f i = true) (hk : i < k) : (List.range k).find? f = some i := by
  rw [List.find?_range_eq_some]
  exact ⟨hf, List.mem_range.mpr hk, fun j hj => by rw [h j hj]; rfl⟩
theorem find_none {f : Nat → Bool} {k : Nat} (h : ∀ j, j < k → f j = false) : (List.range k).find? f = none := by
  rw [List.find?_eq_none]
  exact fun j hj => by rw [h j (List.mem_range.mp hj)]; exact Bool.false_ne_true
theorem find_succ (f : Nat → Bool) (i : Nat) : (List.range (i + 1)).find? f = ((List.range i).find? f).or (if f i = true then some i else none) := by
  rw [List.range_succ, List.find?_append]
  congr 1
  by_cases h : f i = true
  · rw [if_pos h]; simp [h]
  · rw [if_neg h]; simp [h]
theorem opt_non (o : Option Nat) : decide (optV o = .non) = o.isNone := by
  cases o <;> simp [optV]
theorem scal_opt (o u : Option Nat) : scal (optV o) (optV u) = true := by
  cases o <;> cases u <;> rfl

/-! ### a chain, a divisor, not too wide -/
/-- what is wished of any value as a chain, and a value as its divisor -/
def ChW (T : Tx P K mg) (H : Hp) (x d : V) (E : XK) (G : Addr → List V → List Prt → Hp → Prop) : Prop := AnyV (OwnT T) H d ∧
  ((AnyV (OwnT T) H x ∧ isTup 1 4 (seqOf H x) = false ∧ errN T E T.C_BadTricks "index" H .non) ∨
   (∃ (c : Addr) (ys : List V) (lim : Nat), x = .ref c ∧ SqA H c ys ∧ 1 ≤ ys.length ∧ ys.length ≤ 4 ∧ lim < ys.length ∧ (∀ (j : Nat) (z : V), j < lim → ys[j]? = some z → isT T H z) ∧
     ∃ y, ys[lim]? = some y ∧ AnyV (fun _ => False) H y ∧ errN T E T.C_BadTricks "index" H (.int (lim : Nat))) ∨
   ∃ (c : Addr) (ys : List V) (qs : List Prt), x = .ref c ∧ SqA H c ys ∧ 1 ≤ ys.length ∧ ys.length ≤ 4 ∧ Trs T H ys qs ∧
     (intIn d 1 30 = false → ∀ H2, Same H H2 → E (.ref T.C_BadDivisor) none H2) ∧ (intIn d 1 30 = true → 300 < wide qs → errN T E T.C_TooWide "most" H (.int 300)) ∧
     (intIn d 1 30 = true → wide qs ≤ 300 → ∀ H2, Same H H2 → G c ys qs H2))
def spChkChain (T : Tx P K mg) : Sp := fun vs H Q E => ∃ x d : V, vs = [x, d] ∧ ChW T H x d E fun _ _ _ H2 => Q .non H2
theorem ok_check_chain (T : Tx P K mg) : FnOk P w K mg base (L2.CX P w) lv_check_chain T.a_check_chain T.d_check_chain ["tricks", "d"] (spChkChain T) := by
  refine T.F_check_chain.okX sc_check_chain (fun vs H Q E h => ?_) (fun cdv A outer s H vs Q E hr h => ?_)
  · obtain ⟨x, d, rfl, _⟩ := h
    rfl
  · obtain ⟨x, d, rfl, ad, h⟩ := h
    refine ⟨_, (pss_cons (ps_expr (pe_call (ok_check_tricks T) (hr.mono (by decide)) rfl T.g_check_tricks T.F_check_tricks.kp T.b_check_tricks .nil (passes_call (takes_of rfl rfl rfl rfl) fun _ _ _ _ h => h) (pa_cons (pv 0) pa_nil)))
      (pss_cons (ps_expr (pe_call (ok_check_divisor T) (hr.mono (by decide)) rfl T.g_check_divisor T.F_check_divisor.kp T.b_check_divisor .nil (passes_call (takes_of rfl rfl rfl rfl) fun _ _ _ _ h => h) (pa_cons (pv 1) (pa_cons (pe_glob (v := .int 30) rfl T.c_GREATEST_CHAIN_DIVISOR ⟨_, rfl⟩) pa_nil))))
      (pss_one (ps_if (pt_cmpR op_gt (pe_call (ok_blocks_product T) (hr.mono (by decide)) rfl T.g_blocks_product T.F_blocks_product.kp T.b_blocks_product .nil pass0 (pa_cons (pv 0) pa_nil)) (pe_glob (v := .int 300) rfl T.c_GREATEST_PRODUCT ⟨_, rfl⟩) (nomark _)) (pss_one (ps_raiseF T.x_TooWide ar_TooWide rfl hr (takes_of rfl rfl rfl rfl) (pa_cons (pe_glob (v := .int 300) rfl T.c_GREATEST_PRODUCT ⟨_, rfl⟩) pa_nil))) pss_nil)))), ?_⟩
    rcases h with ⟨a, g, e⟩ | ⟨c, ys, lim, rfl, hc, l1, l2, hl, hi, y, hy, ay, e⟩ | ⟨c, ys, qs, rfl, hc, l1, l2, ht, e1, e2, k⟩
    · exact ⟨_, rfl, x, rfl, .inl ⟨a, g, e⟩⟩
    · exact ⟨_, rfl, _, rfl, .inr ⟨c, ys, lim, rfl, hc, l1, l2, by omega, hi, fun _ => ⟨y, hy, ay, e⟩, fun z => by omega⟩⟩
    · refine ⟨_, rfl, _, rfl, .inr ⟨c, ys, ys.length, rfl, hc, l1, l2, Nat.le_refl _, fun j z _ hz => ht.isT hz, fun z => by omega, fun _ H2 S2 => ?_⟩⟩
      refine ⟨_, rfl, d, 30, rfl, by decide, by decide, ad.mono S2, fun g => ?_, fun g => e1 g H2 S2⟩
      refine ⟨_, rfl, c, ys, qs, rfl, hc.same S2, ht.same S2, _, _, rfl, rfl, _, rfl, ?_⟩
      refine ite2 (fun q => ?_) (fun q => ?_)
      · have q1 : 300 < wide qs := by simpa using q
        exact ⟨_, rfl, .inr ⟨_, rfl, by decide⟩, fun d' hd => e2 g q1 H2 d' S2 hd⟩
      · have q1 : ¬ 300 < wide qs := by simpa using q
        exact k g (by omega) H2 S2
/-- what is wished behind it -/
theorem ChW.to {T : Tx P K mg} {H : Hp} {x d : V} {E : XK} {G G' : Addr → List V → List Prt → Hp → Prop} (h : ChW T H x d E G)
    (k : ∀ (c : Addr) (ys : List V) (qs : List Prt) (dd : Int) (H2 : Hp), x = .ref c → d = .int dd → 1 ≤ dd → dd ≤ 30 → wide qs ≤ 300 → SqA H c ys → 1 ≤ ys.length → ys.length ≤ 4 → Trs T H ys qs → Same H H2 → G c ys qs H2 → G' c ys qs H2) : ChW T H x d E G' := by
  obtain ⟨ad, h⟩ := h
  refine ⟨ad, ?_⟩
  rcases h with h | h | ⟨c, ys, qs, rfl, hc, l1, l2, ht, e1, e2, g⟩
  · exact .inl h
  · exact .inr (.inl h)
  · refine .inr (.inr ⟨c, ys, qs, rfl, hc, l1, l2, ht, e1, e2, fun i w H2 S2 => ?_⟩)
    obtain ⟨dd, rfl, d1, d2⟩ := intIn_int' i
    exact k c ys qs dd H2 rfl rfl d1 d2 w hc l1 l2 ht S2 (g i w H2 S2)

/-! ### the law's draws: what is drawn lies in its range; nothing but the row of the draws changes -/
theorem fmod_bd (x : Int) {m : Int} (h : 0 < m) : 0 ≤ x.fmod m ∧ x.fmod m < m := by
  rw [Int.fmod_eq_emod_of_nonneg x (by omega)]
  exact ⟨Int.emod_nonneg x (by omega), Int.emod_lt_of_pos x h⟩
abbrev rowL (a : Addr) (i s c : Int) : List V := [.ref a, .int i, .int s, .int c]
/-- the script at a: locked, or of the top's own -/
def Scr (K : PySem.W.Frag) (H : Hp) (a : Addr) (xs : List V) : Prop := (∃ o, H a = some (.frz o (.lst xs))) ∨ SqL K (fun _ => none) a xs
theorem scr_of {H : Hp} {a : Addr} {xs : List V} (hO : ∀ b, H b = none ∨ ∃ o xs, H b = some (.frz o (.lst xs))) (h : SqL K H a xs) : Scr K H a xs := by
  rcases h with (h | h) | h
  · rcases hO a with z | ⟨o, ys, z⟩
    · rw [z] at h; cases h
    · rw [z] at h; cases h
  · exact .inl h
  · exact .inr (.inr h)
theorem Scr.seq {H : Hp} {a : Addr} {xs : List V} (h : Scr K H a xs) : SqL K H a xs := by
  rcases h with h | (h | ⟨o, h⟩) | h
  · exact .inl (.inr h)
  · cases h
  · cases h
  · exact .inr h
theorem Scr.mono {H H' : Hp} {a : Addr} {xs : List V} (h : Scr K H a xs) (k : ∀ b o u, H b = some (.frz o u) → H' b = some (.frz o u)) : Scr K H' a xs := by
  rcases h with ⟨o, h⟩ | h
  · exact .inl ⟨o, k _ _ _ h⟩
  · exact .inr h
/-- at r the row of the draws over the script at a -/
def RowAt (K : PySem.W.Frag) (H : Hp) (r a : Addr) (ns : List Int) : Prop := ∃ i s c : Int, H r = some (.lst (rowL a i s c)) ∧ 0 ≤ i ∧ 0 ≤ c ∧ Scr K H a (ns.map V.int) ∧ ns.length ≤ 63
theorem RowAt.same {H H' : Hp} {r a : Addr} {ns : List Int} (h : RowAt K H r a ns) (e : Same H H') : RowAt K H' r a ns :=
  let ⟨i, s, c, h1, h2, h3, h4, h5⟩ := h
  ⟨i, s, c, e _ _ h1, h2, h3, h4.mono fun _ _ _ z => e _ _ z, h5⟩
/-- another list is changed -/
theorem RowAt.put {H : Hp} {r a q : Addr} {ns : List Int} {ys : List V} {o : HO} (h : RowAt K H r a ns) (hq : H q = some (.lst ys)) (n : q ≠ r) : RowAt K (upd H q o) r a ns :=
  let ⟨i, s, c, h1, h2, h3, h4, h5⟩ := h
  ⟨i, s, c, by rw [upd_ne (Ne.symm n)]; exact h1, h2, h3, h4.mono fun b o' u z => by rw [upd_ne (ne_of z hq (by intro y; cases y))]; exact z, h5⟩
/-- the row as the law lays it -/
theorem RowAt.start {H : Hp} {r a : Addr} {ns : List Int} {i s c : Int} (hr : H r = none) (hS : Scr K H a (ns.map V.int)) (hl : ns.length ≤ 63) (hi : 0 ≤ i) (hc : 0 ≤ c) : RowAt K (upd H r (.lst (rowL a i s c))) r a ns :=
  ⟨i, s, c, upd_same, hi, hc, hS.mono fun b o u z => by rw [upd_ne (ne_of_none z hr)]; exact z, hl⟩
def spTaken (K : PySem.W.Frag) : Sp := fun vs H Q _ => ∃ (r a : Addr) (ns : List Int) (m : Int), vs = [.ref r, .int m] ∧ 0 < m ∧ m ≤ 10 ^ 41 ∧ RowAt K H r a ns ∧
  ∀ (v : Int) (H' : Hp), 0 ≤ v → v < m → RowAt K H' r a ns → But r H H' → Q (.int v) H'
theorem ok__law_taken (T : Tx P K mg) : FnOk P w K mg base CX0 lv__law_taken T.a__law_taken T.d__law_taken ["_law_row", "_law_many"] (spTaken K) := by
  refine T.F__law_taken.ok sc__law_taken (fun vs H Q E h => ?_) (fun cdv A outer s H vs Q E hr h => ?_)
  · obtain ⟨r, a, ns, m, rfl, _⟩ := h
    rfl
  · obtain ⟨r, a, ns, m, rfl, m0, m1, ⟨i, s, c, hR, i0, c0, hK, hlen⟩, k⟩ := h
    have hKB : ∀ H', But r H H' → Scr K H' a (ns.map V.int) := fun H' b => hK.mono fun c o u z => b c _ z (ne_of z hR (by intro y; cases y))
    have hdv : ∀ x : Int, CDivW x m := fun x => wide_div m0 (b := 140) (by omega) (by decide) (by decide)
    have back : ∀ (v : Int) (i' s' c' : Int) (H' : Hp), 0 ≤ v → v < m → 0 ≤ i' → 0 ≤ c' → H' r = some (.lst (rowL a i' s' c')) → But r H H' → Q (.int v) H' := fun v i' s' c' H' v0 v1 z1 z2 e b =>
      k v H' v0 v1 ⟨i', s', c', e, z1, z2, hKB _ b, hlen⟩ b
    refine ⟨_, (pss_cons (ps_if (pt_cmpR op_gt (pe_ix ix_list (pv 0) pe_int (fun _ _ => rfl)) pe_int (nomark _)) (pss_cons (ps_set (i := 2) sc__law_taken.nd rfl (Or.inl rfl) (pe_op op_modN (pe_callTy call_int1 (by rfl) T.n_int (by decide +kernel) (pa_cons (pe_ix ix_list (pv 0) pe_int (fun _ _ => rfl)) pa_nil)) (pv 1)))
      (pss_cons (ps_asg (pe_op op_fdivW (pe_ix ix_list (pv 0) pe_int (fun _ _ => rfl)) (pv 1)) (pg_sub (pv 0) pe_int set_list))
      (pss_one (ps_ret (pv 2))))) pss_nil)
      (pss_cons (ps_asg (pe_op op_add (pe_ix ix_list (pv 0) pe_int (fun _ _ => rfl)) pe_int) (pg_sub (pv 0) pe_int set_list))
      (pss_cons (ps_if (pt_cmpR op_gt (pe_ix ix_list (pv 0) pe_int (fun _ _ => rfl)) (pe_callB call_len_seq (by rfl) T.n_len (by decide +kernel) (pa_cons (pe_ix ix_list (pv 0) pe_int (fun _ _ => rfl)) pa_nil)) (nomark _)) (pss_cons (ps_asg (pe_op op_modN (pe_callTy call_int1 (by rfl) T.n_int (by decide +kernel) (pa_cons (pe_op op_add (pe_op op_mul (pe_ix ix_list (pv 0) pe_int (fun _ _ => rfl)) pe_int) pe_int) pa_nil)) pe_int) (pg_sub (pv 0) pe_int set_list))
      (pss_one (ps_ret (pe_op op_modN (pe_callTy call_int1 (by rfl) T.n_int (by decide +kernel) (pa_cons (pe_op op_fdivW (pe_ix ix_list (pv 0) pe_int (fun _ _ => rfl)) pe_int) pa_nil)) (pv 1))))) pss_nil)
      (pss_cons (ps_set (i := 3) sc__law_taken.nd rfl (Or.inl rfl) (pe_ix ix_list (pe_ix ix_list (pv 0) pe_int (fun _ _ => rfl)) (pe_op op_sub (pe_ix ix_list (pv 0) pe_int (fun _ _ => rfl)) pe_int) (fun _ _ => rfl)))
      (pss_cons (ps_asg (pe_op op_modN (pe_callTy call_int1 (by rfl) T.n_int (by decide +kernel) (pa_cons (pe_op op_add (pe_op op_add (pe_op op_mul (pe_ix ix_list (pv 0) pe_int (fun _ _ => rfl)) pe_int) (pv 3)) pe_int) pa_nil)) pe_int) (pg_sub (pv 0) pe_int set_list))
      (pss_cons (ps_if (pt_cmpR op_ge (pv 3) (pe_op op_pow pe_int pe_int) (nomark _)) (pss_one (ps_asg (pe_op op_fdivW (pv 3) (pv 1)) (pg_sub (pv 0) pe_int set_list))) pss_nil)
      (pss_one (ps_ret (pe_op op_modN (pe_callTy call_int1 (by rfl) T.n_int (by decide +kernel) (pa_cons (pv 3) pa_nil)) (pv 1)))))))))), ?_⟩
    refine ⟨_, rfl, r, _, _, _, rfl, rfl, SqL.of hR, rfl, _, _, rfl, rfl, _, rfl, ?_⟩
    refine ite2 (fun g => ?_) (fun g => ?_)
    · -- a great cell's digits
      obtain ⟨v0, v1⟩ := fmod_bd c m0
      refine ⟨_, rfl, r, _, _, _, rfl, rfl, SqL.of hR, rfl, .inl ⟨_, rfl, _, rfl, _, _, rfl, rfl, by omega, ?_⟩⟩
      refine ⟨_, rfl, r, _, _, _, rfl, rfl, SqL.of hR, rfl, _, rfl, _, _, rfl, rfl, hdv c, _, rfl, r, _, _, _, rfl, rfl, hR, rfl, ?_⟩
      exact ⟨_, rfl, back _ i s (c / m) _ v0 v1 i0 (Int.ediv_nonneg c0 (by omega)) upd_same But.put⟩
    · refine ⟨_, rfl, r, _, _, _, rfl, rfl, SqL.of hR, rfl, _, _, rfl, rfl, _, rfl, r, _, _, _, rfl, rfl, hR, rfl, ?_⟩
      -- behind the script's end?
      have hR1 : upd H r (.lst (rowL a (i + 1) s c)) r = some (.lst (rowL a (i + 1) s c)) := upd_same
      have hB1 : But r H (upd H r (.lst (rowL a (i + 1) s c))) := But.put
      have hS1 : SqL K (upd H r (.lst (rowL a (i + 1) s c))) a (ns.map V.int) := (hKB _ hB1).seq
      refine ⟨_, rfl, r, _, _, _, rfl, rfl, SqL.of hR1, rfl, _, rfl, r, _, _, _, rfl, rfl, SqL.of hR1, rfl, a, _, rfl, .inl hS1, _, _, rfl, rfl, _, rfl, ?_⟩
      refine ite2 (fun g2 => ?_) (fun g2 => ?_)
      · refine ⟨_, rfl, r, _, _, _, rfl, rfl, SqL.of hR1, rfl, _, _, rfl, rfl, .inr ⟨by decide, by decide⟩, _, _, rfl, rfl, .inl ⟨_, rfl, _, _, rfl, rfl, (show (2147483647 : Int) ≠ 0 by decide), ?_⟩⟩
        refine ⟨_, rfl, r, _, _, _, rfl, rfl, hR1, rfl, ?_⟩
        refine ⟨_, rfl, r, _, _, _, rfl, rfl, SqL.of upd_same, rfl, _, _, rfl, rfl, wide_div (by decide) (b := 3) (by decide) (by decide) (by decide), .inl ⟨_, rfl, _, rfl, _, _, rfl, rfl, by omega, ?_⟩⟩
        obtain ⟨v0, v1⟩ := fmod_bd ((s * 48271 + 11).fmod 2147483647 / 7) m0
        exact back _ (i + 1) _ c _ v0 v1 (by omega) c0 upd_same (hB1.trans But.put)
      · have g3 : i + 1 ≤ (ns.length : Int) := by
          simp only [decide_eq_true_eq, List.length_map] at g2
          omega
        obtain ⟨z, hz⟩ : ∃ z, ns[i.toNat]? = some z := ⟨ns[i.toNat]'(by omega), List.getElem?_eq_getElem (by omega)⟩
        have hz1 : atI (ns.map V.int) (i + 1 - 1) = some (V.int z) := at_of (j := i.toNat) (by omega) (by rw [List.getElem?_map, hz]; rfl)
        refine ⟨_, rfl, r, _, _, _, rfl, rfl, SqL.of hR1, rfl, _, rfl, r, _, _, _, rfl, rfl, SqL.of hR1, rfl, _, _, rfl, rfl, a, _, _, _, rfl, rfl, hS1, hz1, ?_⟩
        refine ⟨_, rfl, r, _, _, _, rfl, rfl, SqL.of hR1, rfl, _, _, rfl, rfl, .inr ⟨by decide, by decide⟩, _, rfl, _, _, rfl, rfl, _, _, rfl, rfl, .inl ⟨_, rfl, _, _, rfl, rfl, (show (2147483647 : Int) ≠ 0 by decide), ?_⟩⟩
        refine ⟨_, rfl, r, _, _, _, rfl, rfl, hR1, rfl, ?_⟩
        have hR2 : upd (upd H r (.lst (rowL a (i + 1) s c))) r (.lst (rowL a (i + 1) ((s * 48271 + z + 11).fmod 2147483647) c)) r = some (.lst (rowL a (i + 1) ((s * 48271 + z + 11).fmod 2147483647) c)) := upd_same
        have hB2 : But r H (upd (upd H r (.lst (rowL a (i + 1) s c))) r (.lst (rowL a (i + 1) ((s * 48271 + z + 11).fmod 2147483647) c))) := hB1.trans But.put
        obtain ⟨v0, v1⟩ := fmod_bd z m0
        refine ⟨_, rfl, _, _, rfl, rfl, ⟨by decide, by decide, by decide⟩, _, _, rfl, rfl, _, rfl, ?_⟩
        refine ite2 (fun g4 => ?_) (fun g4 => ?_)
        · refine ⟨_, rfl, _, rfl, _, _, rfl, rfl, hdv z, _, rfl, r, _, _, _, rfl, rfl, hR2, rfl, ?_⟩
          have z0 : 0 ≤ z := by
            have g5 : (10 : Int) ^ 18 ≤ z := by simpa using g4
            exact Int.le_trans (by decide) g5
          refine ⟨_, rfl, .inl ⟨_, rfl, _, rfl, _, _, rfl, rfl, by omega, ?_⟩⟩
          exact back _ (i + 1) _ (z / m) _ v0 v1 (by omega) (Int.ediv_nonneg z0 (by omega)) upd_same (hB2.trans But.put)
        · refine ⟨_, rfl, .inl ⟨_, rfl, _, rfl, _, _, rfl, rfl, by omega, ?_⟩⟩
          exact back _ (i + 1) _ c _ v0 v1 (by omega) c0 hR2 hB2

/-! ### a menu: an item of a written list at a drawn place -/
theorem RowAt.new {H : Hp} {r a p : Addr} {ns : List Int} {o : HO} (h : RowAt K H r a ns) (hp : H p = none) : RowAt K (upd H p o) r a ns := h.same (same_upd hp)
theorem RowAt.ne {H : Hp} {r a p : Addr} {ns : List Int} (h : RowAt K H r a ns) (hp : H p = none) : p ≠ r :=
  let ⟨_, _, _, h1, _⟩ := h
  (ne_of_none h1 hp).symm
theorem But.new {H H1 : Hp} {r p : Addr} {o : HO} (b : But r H H1) (hp : H1 p = none) : But r H (upd H1 p o) := b.trans (Same.but (same_upd hp))
theorem But.free {H H1 : Hp} {r p : Addr} (b : But r H H1) (n : p ≠ r) (hp : H1 p = none) : H p = none := by
  cases q : H p with
  | none => rfl
  | some o =>
    rw [b p o q n] at hp
    cases hp
/-- an item of the list laid at p, at a place that is drawn -/
theorem menu {H1 : Hp} {r a p : Addr} {ns items : List Int} {m : Int} (Pr : Int → Prop) (hP : ∀ z ∈ items, Pr z) (hl : (items.length : Int) = m) (R1 : RowAt K H1 r a ns) (hp : H1 p = none) {Q : VK}
    (k : ∀ (z : Int) (H2 : Hp), Pr z → RowAt K H2 r a ns → But r H1 H2 → H2 p = some (.lst (items.map V.int)) → Q (.int z) H2) (h0 : 0 < m) (h1 : m ≤ 10 ^ 41) :
    spTaken K ([.ref r, .int m] ++ []) (upd H1 p (.lst (items.map V.int))) (fun y H2 => rIxL K (.ref p) y H2 Q) E0 := by
  refine ⟨r, a, ns, m, rfl, h0, h1, R1.new hp, fun w H2 w0 w1 R2 B2 => ?_⟩
  obtain ⟨z, hz, he⟩ := at_some Pr hP w0 (by omega)
  have npr := R1.ne hp
  exact ⟨p, _, _, _, rfl, rfl, SqL.of (B2 _ _ upd_same npr), he, k z H2 hz R2 ((Same.but (same_upd hp)).trans B2) (B2 _ _ upd_same npr)⟩
theorem at_someV (Pr : V → Prop) {xs : List V} (h : ∀ z ∈ xs, Pr z) {i : Int} (h0 : 0 ≤ i) (h1 : i < xs.length) : ∃ z, Pr z ∧ atI xs i = some z := by
  obtain ⟨z, hz⟩ : ∃ z, xs[i.toNat]? = some z := ⟨xs[i.toNat]'(by omega), List.getElem?_eq_getElem (by omega)⟩
  exact ⟨z, h z (List.mem_of_getElem? hz), at_of (j := i.toNat) (by omega) hz⟩
theorem menuV {H1 : Hp} {r a p : Addr} {ns : List Int} {items : List V} {m : Int} (Pr : V → Prop) (hP : ∀ z ∈ items, Pr z) (hl : (items.length : Int) = m) (R1 : RowAt K H1 r a ns) (hp : H1 p = none) {Q : VK}
    (k : ∀ (z : V) (H2 : Hp), Pr z → RowAt K H2 r a ns → But r H1 H2 → H2 p = some (.lst items) → Q z H2) (h0 : 0 < m) (h1 : m ≤ 10 ^ 41) :
    spTaken K ([.ref r, .int m] ++ []) (upd H1 p (.lst items)) (fun y H2 => rIxL K (.ref p) y H2 Q) E0 := by
  refine ⟨r, a, ns, m, rfl, h0, h1, R1.new hp, fun w H2 w0 w1 R2 B2 => ?_⟩
  obtain ⟨z, hz, he⟩ := at_someV Pr hP w0 (by omega)
  have npr := R1.ne hp
  exact ⟨p, _, _, _, rfl, rfl, SqL.of (B2 _ _ upd_same npr), he, k z H2 hz R2 ((Same.but (same_upd hp)).trans B2) (B2 _ _ upd_same npr)⟩
/-- a plain value: None, a bool, an int, a text -/
def flatA : V → Bool
  | .non => true | .bl _ => true | .int _ => true | .str _ => true | _ => false
theorem any_flat {T : Addr → Prop} {H : Hp} {v : V} (h : flatA v = true) : AnyV T H v := by
  cases v with
  | non => exact .non
  | bl b => exact .bl b
  | int i => exact .int i
  | str x => exact .str x
  | _ => cases h

/-! ### the row is a list -/
theorem RowAt.lst {H : Hp} {r a : Addr} {ns : List Int} (h : RowAt K H r a ns) : ∃ ys, H r = some (.lst ys) := let ⟨_, _, _, h1, _⟩ := h; ⟨_, h1⟩

/-! ### the rests by which a chain is judged -/
theorem wideF (w : Int) : ∀ qs : List Prt, qs.foldl (fun w q => w * blockOf q.1 q.2.1) w = w * wide qs
  | [] => (Int.mul_one w).symm
  | q :: qs => by
    unfold wide
    rw [List.foldl_cons, List.foldl_cons, wideF (w * blockOf q.1 q.2.1) qs, wideF (1 * blockOf q.1 q.2.1) qs, Int.one_mul, Int.mul_assoc]
theorem wide_cons (q : Prt) (qs : List Prt) : wide (q :: qs) = blockOf q.1 q.2.1 * wide qs := by
  show qs.foldl _ (1 * blockOf q.1 q.2.1) = _
  rw [wideF, Int.one_mul]
theorem wide_pos : ∀ {qs : List Prt}, (∀ q ∈ qs, 2 ≤ blockOf q.1 q.2.1) → 1 ≤ wide qs
  | [], _ => Int.le_refl _
  | q :: qs, h => by
    rw [wide_cons]
    have h1 := h q List.mem_cons_self
    have h2 := wide_pos fun z hz => h z (List.mem_cons_of_mem _ hz)
    have := Int.mul_le_mul h1 h2 (by omega) (by omega)
    omega
theorem mkAll_cons (q : Prt) (qs : List Prt) (n : Int) : mkAll (q :: qs) n = mkAll qs (made q.1 q.2.1 q.2.2 n) := rfl
/-- behind a stretch of its width it makes one more -/
theorem mkAll_shift : ∀ {qs : List Prt}, (∀ q ∈ qs, 2 ≤ blockOf q.1 q.2.1) → ∀ n k : Int, mkAll qs (n + wide qs * k) = mkAll qs n + k
  | [], _, n, k => by
    show n + 1 * k = n + k
    rw [Int.one_mul]
  | q :: qs, h, n, k => by
    rw [wide_cons, mkAll_cons, mkAll_cons, Int.mul_assoc]
    have e : made q.1 q.2.1 q.2.2 (n + blockOf q.1 q.2.1 * (wide qs * k)) = made q.1 q.2.1 q.2.2 n + wide qs * k := by
      have h1 := h q List.mem_cons_self
      unfold made
      rw [Int.fmod_eq_emod_of_nonneg _ (by omega), Int.fmod_eq_emod_of_nonneg _ (by omega), Int.add_mul_emod_self_left, Int.add_mul_ediv_left _ _ (by omega)]
      omega
    rw [e]
    exact mkAll_shift (fun z hz => h z (List.mem_cons_of_mem _ hz)) _ k
theorem Trs.blks {T : Tx P K mg} {H : Hp} {ys : List V} {qs : List Prt} (h : Trs T H ys qs) : ∀ q ∈ qs, 2 ≤ blockOf q.1 q.2.1 := fun q hq => by
  obtain ⟨i, hi⟩ := List.mem_iff_getElem?.mp hq
  exact (h.blk hi).1
theorem Prs.at {H : Hp} : ∀ {vs : List V} {l : List (Int × Int)}, Prs H vs l → ∀ {i : Nat} {y : V}, vs[i]? = some y → ∃ q z, y = .ref q ∧ l[i]? = some z ∧ H q = some (.tup [.int z.1, .int z.2])
  | [], [], _, i, y, h => by cases h
  | _ :: _, z :: _, ⟨⟨q, h1, h2⟩, _⟩, 0, y, h => by
    cases h
    exact ⟨q, z, h1, rfl, h2⟩
  | _ :: _, _ :: _, ⟨_, h3⟩, i + 1, y, h => h3.at (i := i) h
  | [], _ :: _, h, _, _, _ => h.elim
  | _ :: _, [], h, _, _, _ => h.elim
/-- the rests of n and of what is made of it -/
def rpL (qs : List Prt) (d : Int) (n : Nat) : List (Int × Int) := (List.range n).map fun (k : Nat) => ((k : Int).fmod d, (mkAll qs (k : Int)).fmod d)
theorem rpL_succ (qs : List Prt) (d : Int) (n : Nat) : rpL qs d (n + 1) = rpL qs d n ++ [((n : Int).fmod d, (mkAll qs (n : Int)).fmod d)] := by
  unfold rpL
  rw [List.range_succ, List.map_append]
  rfl
theorem rpL_len (qs : List Prt) (d : Int) (n : Nat) : (rpL qs d n).length = n := by
  unfold rpL
  rw [List.length_map, List.length_range]
def mL (qs : List Prt) (n : Nat) : List Int := (List.range n).map fun (k : Nat) => mkAll qs (k : Int)
theorem mL_succ (qs : List Prt) (n : Nat) : mL qs (n + 1) = mL qs n ++ [mkAll qs (n : Int)] := by
  unfold mL
  rw [List.range_succ, List.map_append]
  rfl
theorem mL_len (qs : List Prt) (n : Nat) : (mL qs n).length = n := by
  unfold mL
  rw [List.length_map, List.length_range]
def spRestPairs (T : Tx P K mg) : Sp := fun vs H Q _ => ∃ (c : Addr) (ys : List V) (qs : List Prt) (d : Int), vs = [.ref c, .int d] ∧ SqA H c ys ∧ Trs T H ys qs ∧ 1 ≤ d ∧ d ≤ 30 ∧ wide qs ≤ 300 ∧
  ∀ (D : Addr) (us : List V) (H2 : Hp), Same H H2 → H D = none → H2 D = some (.lst us) → Prs H2 us (rpL qs d (wide qs * d).toNat) → Q (.ref D) H2
theorem ok_rest_pairs (T : Tx P K mg) : FnOk P w K mg base CX0 lv_rest_pairs T.a_rest_pairs T.d_rest_pairs ["tricks", "d"] (spRestPairs T) := by
  refine T.F_rest_pairs.ok sc_rest_pairs (fun vs H Q E h => ?_) (fun cdv A outer s H vs Q E hr h => ?_)
  · obtain ⟨c, ys, qs, d, rfl, _⟩ := h
    rfl
  · obtain ⟨c, ys, qs, d, rfl, hc, ht, d1, d2, hw, k⟩ := h
    refine ⟨_, (pss_cons (ps_set (i := 2) sc_rest_pairs.nd rfl (Or.inr rfl) (pe_call (ok_blocks_product T) (hr.mono (by decide)) rfl T.g_blocks_product T.F_blocks_product.kp T.b_blocks_product .nil pass0 (pa_cons (pv 0) pa_nil)))
      (pss_cons (ps_set (i := 3) sc_rest_pairs.nd rfl (Or.inr rfl) (pe_lc (own := [("n", 4)]) (g := gName 4) (tt := tYes) rfl sc_rest_pairs.nd (pi_range1 (by rfl) T.n_range (pa_cons (pv 2) pa_nil)) (blkOk_by (own := [("n", 4)]) (N := ["tricks", "d", "width", "made", "n"]) (sc := defScope s_rest_pairs) (by decide +kernel)) (fun _ _ _ _ _ => pg_name (i := 4) sc_rest_pairs.nd rfl (Or.inl rfl)) (fun _ _ _ _ _ => pts_nil) (fun _ _ _ _ _ => (pe_call (ok_made_of_all T) (hr.mono (by decide)) rfl T.g_made_of_all T.F_made_of_all.kp T.b_made_of_all .nil pass0 (pa_cons (pv 0) (pa_cons (pv 4) pa_nil))))))
      (pss_one (ps_ret (pe_lc (own := [("n", 4)]) (g := gName 4) (tt := tYes) rfl sc_rest_pairs.nd (pi_range1 (by rfl) T.n_range (pa_cons (pe_op op_mul (pv 2) (pv 1)) pa_nil)) (blkOk_by (own := [("n", 4)]) (N := ["tricks", "d", "width", "made", "n"]) (sc := defScope s_rest_pairs) (by decide +kernel)) (fun _ _ _ _ _ => pg_name (i := 4) sc_rest_pairs.nd rfl (Or.inl rfl)) (fun _ _ _ _ _ => pts_nil) (fun _ _ _ _ _ => (pe_tup (pa_cons (pe_op op_modN (pv 4) (pv 1)) (pa_cons (pe_op op_modN (pe_op op_add (pe_ix (ix_lK (K := K) rfl) (pv 3) (pe_op op_modN (pv 4) (pv 2)) (fun _ _ => rfl)) (pe_op op_fdivW (pv 4) (pv 2))) (pv 1)) pa_nil))))))))), ?_⟩
    have w1 := wide_pos ht.blks
    have sh := mkAll_shift ht.blks
    generalize hW : wide qs = W at *
    have nW : W ≠ 0 := by omega
    have nd : d ≠ 0 := by omega
    have hWd : W * d ≤ 300 * 30 := Int.mul_le_mul hw d2 (by omega) (by omega)
    have hWd0 : 0 ≤ W * d := Int.mul_nonneg (by omega) (by omega)
    refine ⟨_, rfl, c, ys, qs, rfl, hc, ht, ?_⟩
    rw [hW]
    refine ⟨_, rfl, W, rfl, by omega, by omega, fun L hL => ?_⟩
    refine lc_range (lo := 0) (n := W.toNat) (fun i H2 => Same H H2 ∧ H2 L = some (.lst ((mL qs i).map V.int))) ⟨same_upd hL, by rw [upd_same]; rfl⟩ ?_ ?_
    · rintro i H2 hi ⟨S2, hL2⟩
      have ei : (0 : Int) + (i : Int) = (i : Int) := Int.zero_add _
      rw [ei]
      refine ⟨rfl, _, rfl, _, rfl, c, ys, qs, _, rfl, hc.same S2, ht.same S2, _, hL2, by rw [List.length_map, mL_len]; exact small5 (by omega), fun e o he => ?_, ?_⟩
      · rw [upd_ne (ne_of_none he hL)]
        exact S2 _ _ he
      · rw [upd_same, mL_succ, List.map_append]
        rfl
    · rintro H2 ⟨S2, hL2⟩
      have mat : ∀ j : Int, 0 ≤ j → j < W → atI ((mL qs W.toNat).map V.int) j = some (V.int (mkAll qs j)) := fun j j0 j1 => at_of (j := j.toNat) (by omega) (by
        rw [List.getElem?_map]
        unfold mL
        rw [List.getElem?_map, List.getElem?_range (by omega)]
        show some (V.int (mkAll qs ((j.toNat : Nat) : Int))) = _
        rw [Int.toNat_of_nonneg j0])
      refine ⟨_, rfl, _, rfl, _, _, rfl, rfl, .inl ⟨by omega, by omega⟩, W * d, rfl, by omega, by omega, fun D hD => ?_⟩
      have hD0 : H D = none := by
        cases q : H D with
        | none => rfl
        | some o => rw [S2 _ _ q] at hD; cases hD
      have nLD : L ≠ D := ne_of_none hL2 hD
      refine lc_range (lo := 0) (n := (W * d).toNat) (fun i H3 => Same H H3 ∧ H3 L = some (.lst ((mL qs W.toNat).map V.int)) ∧ ∃ us, H3 D = some (.lst us) ∧ Prs H3 us (rpL qs d i)) ⟨S2.trans (same_upd hD), same_upd hD _ _ hL2, [], upd_same, trivial⟩ ?_ ?_
      · rintro i H3 hi ⟨S3, hL3, us, hD3, hP⟩
        have ei : (0 : Int) + (i : Int) = (i : Int) := Int.zero_add _
        rw [ei]
        obtain ⟨m0, m1⟩ := fmod_bd (i : Int) (m := W) (by omega)
        refine ⟨rfl, _, rfl, _, rfl, _, _, rfl, rfl, nd, ?_⟩
        refine ⟨_, rfl, _, rfl, _, rfl, _, _, rfl, rfl, nW, L, _, _, _, rfl, rfl, SqL.of hL3, mat _ m0 m1, ?_⟩
        refine ⟨_, rfl, _, rfl, _, _, rfl, rfl, wide_div (show 0 < W by omega) (b := 9) (show W.natAbs < 2 ^ 9 by omega) (by decide) (by decide), _, _, rfl, rfl, _, rfl, _, _, rfl, rfl, nd, by show 2 ≤ sizeLine; decide, fun t ht2 => ?_⟩
        have el : us.length = i := by rw [hP.len, rpL_len]
        have em : mkAll qs ((i : Int).fmod W) + (i : Int) / W = mkAll qs (i : Int) := by
          rw [← sh, Int.fmod_eq_emod_of_nonneg _ (by omega), Int.emod_add_mul_ediv]
        have ntD : t ≠ D := (ne_of_none hD3 ht2).symm
        refine ⟨us, same_upd ht2 _ _ hD3, small5 (by omega), fun e o he => ?_, ?_, us ++ [.ref t], upd_same, ?_⟩
        · have h3 := S3 _ _ he
          rw [upd_ne (ne_of_none he hD0), upd_ne (ne_of_none h3 ht2)]
          exact h3
        · rw [upd_ne nLD, upd_ne (ne_of_none hL3 ht2)]
          exact hL3
        · rw [rpL_succ]
          refine ((hP.same (same_upd ht2)).put (same_upd ht2 _ _ hD3)).snoc ?_
          rw [upd_ne ntD, upd_same]
          simp only
          rw [em]
      · rintro H3 ⟨S3, hL3, us, hD3, hP⟩
        exact k D us H3 S3 hD0 hD3 hP

/-! ### what a chain tells -/
def sameC (z : Int × Int) : Bool := decide (z.1 = z.2)
def multC (z : Int × Int) : Bool := decide (z.1 = 0) == decide (z.2 = 0)
def wordC (l : List (Int × Int)) : Str := if l.all sameC = true then "rest" else if l.all multC = true then "multiples" else "nothing"
def failC (qs : List Prt) (d : Int) (k : Nat) : Bool := !multC ((k : Int).fmod d, (mkAll qs (k : Int)).fmod d)
def spChainT (T : Tx P K mg) : Sp := fun vs H Q E => ∃ x d : V, vs = [x, d] ∧ ChW T H x d E fun _ _ qs H2 => ∀ dd, d = .int dd → ∀ H3, Same H2 H3 → Q (.str (wordC (rpL qs dd (wide qs * dd).toNat))) H3
theorem all_lc {H : Hp} {D L : Addr} {us : List V} {l : List (Int × Int)} {f : Int × Int → Bool} {H2 : Hp} {i : Nat} {z : Int × Int} (hz : l[i]? = some z) (hL : H2 L = some (.lst (((l.take i).map f).map V.bl))) : upd H2 L (.lst (((l.take i).map f).map V.bl ++ [.bl (f z)])) L = some (.lst (((l.take (i + 1)).map f).map V.bl)) := by
  rw [upd_same, take_snoc hz, List.map_append, List.map_append]
  rfl
theorem ok_chain_tells (T : Tx P K mg) : FnOk P w K mg base (L2.CX P w) lv_chain_tells T.a_chain_tells T.d_chain_tells ["tricks", "d"] (spChainT T) := by
  refine T.F_chain_tells.okX sc_chain_tells (fun vs H Q E h => ?_) (fun cdv A outer s H vs Q E hr h => ?_)
  · obtain ⟨x, d, rfl, _⟩ := h
    rfl
  · obtain ⟨x, d, rfl, h⟩ := h
    refine ⟨_, (pss_cons (ps_expr (pe_call (ok_check_chain T) (hr.mono (by decide)) rfl T.g_check_chain T.F_check_chain.kp T.b_check_chain .nil (passes_call (takes_of rfl rfl rfl rfl) fun _ _ _ _ h => h) (pa_cons (pv 0) (pa_cons (pv 1) pa_nil))))
      (pss_cons (ps_set (i := 2) sc_chain_tells.nd rfl (Or.inl rfl) (pe_call (ok_rest_pairs T) (hr.mono (by decide)) rfl T.g_rest_pairs T.F_rest_pairs.kp T.b_rest_pairs .nil pass0 (pa_cons (pv 0) (pa_cons (pv 1) pa_nil))))
      (pss_cons (ps_if (pt_val (pe_callB (cr_all rfl) (by rfl) T.n_all (by decide +kernel) (pa_cons (pe_lc (own := [("rest", 3), ("made", 4)]) (tt := tYes) (g := gTup K 2 (gCons (gName 3) (gCons (gName 4) gNil))) rfl sc_chain_tells.nd (pi_list (pv 2)) (blkOk_by (own := [("rest", 3), ("made", 4)]) (N := ["tricks", "d", "found", "rest", "made"]) (sc := defScope s_chain_tells) (by decide +kernel)) (fun _ _ _ _ _ => pg_tup rfl (pgs_cons (pg_name (i := 3) sc_chain_tells.nd rfl (Or.inl rfl)) (pgs_cons (pg_name (i := 4) sc_chain_tells.nd rfl (Or.inl rfl)) pgs_nil))) (fun _ _ _ _ _ => pts_nil) (fun _ _ _ _ _ => (pe_cmpR op_eq (pv 3) (pv 4) (nomark _)))) pa_nil))) (pss_one (ps_ret pe_str)) pss_nil)
      (pss_cons (ps_if (pt_val (pe_callB (cr_all rfl) (by rfl) T.n_all (by decide +kernel) (pa_cons (pe_lc (own := [("rest", 3), ("made", 4)]) (tt := tYes) (g := gTup K 2 (gCons (gName 3) (gCons (gName 4) gNil))) rfl sc_chain_tells.nd (pi_list (pv 2)) (blkOk_by (own := [("rest", 3), ("made", 4)]) (N := ["tricks", "d", "found", "rest", "made"]) (sc := defScope s_chain_tells) (by decide +kernel)) (fun _ _ _ _ _ => pg_tup rfl (pgs_cons (pg_name (i := 3) sc_chain_tells.nd rfl (Or.inl rfl)) (pgs_cons (pg_name (i := 4) sc_chain_tells.nd rfl (Or.inl rfl)) pgs_nil))) (fun _ _ _ _ _ => pts_nil) (fun _ _ _ _ _ => (pe_cmpR op_eq (pe_cmpR op_eq (pv 3) pe_int (nomark _)) (pe_cmpR op_eq (pv 4) pe_int (nomark _)) (nomark _)))) pa_nil))) (pss_one (ps_ret pe_str)) pss_nil)
      (pss_one (ps_ret pe_str)))))), ?_⟩
    refine ⟨_, rfl, _, rfl, x, d, rfl, h.to fun c ys qs dd H1 ex ed d1 d2 hw hc l1 l2 ht S1 g => ?_⟩
    subst ex ed
    refine ⟨_, rfl, _, rfl, c, ys, qs, dd, rfl, hc.same S1, ht.same S1, d1, d2, hw, fun D us H2 S2 hD0 hD hP => ?_⟩
    have g2 := g dd rfl
    generalize hl : rpL qs dd (wide qs * dd).toNat = l at *
    have hul := hP.len
    have hll : l.length ≤ 9000 := by
      rw [← hl, rpL_len]
      have w1 := wide_pos ht.blks
      have : wide qs * dd ≤ 300 * 30 := Int.mul_le_mul hw d2 (by omega) (by omega)
      omega
    refine ⟨_, rfl, D, rfl, ⟨_, SqL.of hD⟩, fun L hL => ?_⟩
    refine lc_it walk_list (fun i H3 => Same H2 H3 ∧ H3 L = some (.lst (((l.take i).map sameC).map V.bl))) ⟨same_upd hL, by rw [upd_same]; rfl⟩ (fun i H3 _ ⟨S3, _⟩ => SqL.of (S3 _ _ hD)) ?_ ?_
    · rintro i y H3 H4 hi ⟨S3, hL3⟩ ⟨rfl, hy⟩
      obtain ⟨q, z, rfl, hz, hq⟩ := (hP.same S3).at hy
      refine ⟨q, _, rfl, SqT.of hq, rfl, _, _, rfl, _, _, rfl, rfl, rfl, _, rfl, _, rfl, rfl, _, hL3, ?_, fun e o he => ?_, ?_⟩
      · rw [List.length_map, List.length_map, List.length_take]
        exact small5 (by omega)
      · rw [upd_ne (ne_of_none he hL)]
        exact S3 _ _ he
      · rw [dec_i]
        exact all_lc (f := sameC) (H := H4) (D := D) (us := us) hz hL3
    · rintro H3 ⟨S3, hL3⟩
      rw [hul, List.take_length] at hL3
      refine ⟨L, _, rfl, SqL.of hL3, _, rfl, ?_⟩
      rw [show (l.map sameC).all id = l.all sameC from by rw [List.all_map]; rfl]
      refine ite2 (fun g1 => ?_) (fun g1 => ?_)
      · have := g2 H3 (S2.trans S3)
        unfold wordC at this
        rw [if_pos g1] at this
        exact this
      · have hD3 := S3 _ _ hD
        refine ⟨_, rfl, D, rfl, ⟨_, SqL.of hD3⟩, fun M hM => ?_⟩
        refine lc_it walk_list (fun i H4 => Same H3 H4 ∧ H4 M = some (.lst (((l.take i).map multC).map V.bl))) ⟨same_upd hM, by rw [upd_same]; rfl⟩ (fun i H4 _ ⟨S4, _⟩ => SqL.of (S4 _ _ hD3)) ?_ ?_
        · rintro i y H4 H5 hi ⟨S4, hM4⟩ ⟨rfl, hy⟩
          obtain ⟨q, z, rfl, hz, hq⟩ := (hP.same (S3.trans S4)).at hy
          refine ⟨q, _, rfl, SqT.of hq, rfl, _, _, rfl, _, _, rfl, rfl, rfl, _, rfl, rfl, _, rfl, rfl, rfl, _, hM4, ?_, fun e o he => ?_, ?_⟩
          · rw [List.length_map, List.length_map, List.length_take]
            exact small5 (by omega)
          · rw [upd_ne (ne_of_none he hM)]
            exact S4 _ _ he
          · rw [dec_i, dec_i, dec_bl]
            exact all_lc (f := multC) (H := H5) (D := D) (us := us) hz hM4
        · rintro H4 ⟨S4, hM4⟩
          rw [hul, List.take_length] at hM4
          refine ⟨M, _, rfl, SqL.of hM4, _, rfl, ?_⟩
          rw [show (l.map multC).all id = l.all multC from by rw [List.all_map]; rfl]
          have := g2 H4 (S2.trans (S3.trans S4))
          unfold wordC at this
          rw [if_neg g1] at this
          refine ite2 (fun g3 => ?_) (fun g3 => ?_)
          · rw [if_pos g3] at this
            exact this
          · rw [if_neg g3] at this
            exact this

/-! ### drawn chains -/
/-- the values are lists of these parts -/
def Pls (N : Addr → Prop) (H : Hp) : List V → List Prt → Prop
  | [], [] => True
  | v :: vs, z :: l => (∃ p, v = .ref p ∧ N p ∧ H p = some (.lst [.int z.1, .int z.2.1, .int z.2.2]) ∧ (2 ≤ z.1 ∧ z.1 ≤ 16 ∧ 1 ≤ z.2.1 ∧ z.2.1 ≤ 2 ∧ -100 ≤ z.2.2 ∧ z.2.2 ≤ 100)) ∧ Pls N H vs l
  | _, _ => False
theorem Pls.of {N N' : Addr → Prop} {H H' : Hp} (e : ∀ p o, N p → H p = some o → N' p ∧ H' p = some o) : ∀ {vs : List V} {l : List Prt}, Pls N H vs l → Pls N' H' vs l
  | [], [], _ => trivial
  | _ :: _, _ :: _, ⟨⟨q, h1, hn, h2, b⟩, h3⟩ => ⟨⟨q, h1, (e _ _ hn h2).1, (e _ _ hn h2).2, b⟩, h3.of e⟩
  | [], _ :: _, h => h.elim
  | _ :: _, [], h => h.elim
theorem Pls.same {N : Addr → Prop} {H H' : Hp} {vs : List V} {l : List Prt} (h : Pls N H vs l) (S : Same H H') : Pls N H' vs l := h.of fun p o n e => ⟨n, S _ _ e⟩
theorem Pls.but {N : Addr → Prop} {H H' : Hp} {r : Addr} {vs : List V} {l : List Prt} (h : Pls N H vs l) (hN : ∀ p, N p → p ≠ r) (B : But r H H') : Pls N H' vs l := h.of fun p o n e => ⟨n, B _ _ e (hN p n)⟩
theorem Pls.len {N : Addr → Prop} {H : Hp} : ∀ {vs : List V} {l : List Prt}, Pls N H vs l → vs.length = l.length
  | [], [], _ => rfl
  | _ :: _, _ :: _, ⟨_, h3⟩ => congrArg Nat.succ h3.len
  | [], _ :: _, h => h.elim
  | _ :: _, [], h => h.elim
theorem Pls.at {N : Addr → Prop} {H : Hp} : ∀ {vs : List V} {l : List Prt}, Pls N H vs l → ∀ {i : Nat} {y : V}, vs[i]? = some y → ∃ p z, y = .ref p ∧ l[i]? = some z ∧ N p ∧ H p = some (.lst [.int z.1, .int z.2.1, .int z.2.2]) ∧ (2 ≤ z.1 ∧ z.1 ≤ 16 ∧ 1 ≤ z.2.1 ∧ z.2.1 ≤ 2 ∧ -100 ≤ z.2.2 ∧ z.2.2 ≤ 100)
  | [], [], _, i, y, h => by cases h
  | _ :: _, z :: _, ⟨⟨q, h1, h2⟩, _⟩, 0, y, h => by
    cases h
    exact ⟨q, z, h1, rfl, h2⟩
  | _ :: _, _ :: _, ⟨_, h3⟩, i + 1, y, h => h3.at (i := i) h
  | [], _ :: _, h, _, _, _ => h.elim
  | _ :: _, [], h, _, _, _ => h.elim
theorem Pls.snoc {N : Addr → Prop} {H : Hp} {q : Addr} {z : Prt} (hn : N q) (hq : H q = some (.lst [.int z.1, .int z.2.1, .int z.2.2])) (b : 2 ≤ z.1 ∧ z.1 ≤ 16 ∧ 1 ≤ z.2.1 ∧ z.2.1 ≤ 2 ∧ -100 ≤ z.2.2 ∧ z.2.2 ≤ 100) : ∀ {vs : List V} {l : List Prt}, Pls N H vs l → Pls N H (vs ++ [.ref q]) (l ++ [z])
  | [], [], _ => ⟨⟨q, rfl, hn, hq, b⟩, trivial⟩
  | _ :: _, _ :: _, ⟨h1, h3⟩ => ⟨h1, h3.snoc hn hq b⟩
  | [], _ :: _, h => h.elim
  | _ :: _, [], h => h.elim
theorem But.putF {r p : Addr} {H H1 : Hp} {o : HO} (b : But r H H1) (hp : H p = none) : But r H (upd H1 p o) := fun c o' e n => by
  rw [upd_ne (ne_of_none e hp)]
  exact b c o' e n

/-! ### their tricks -/
def spLawTricks (T : Tx P K mg) : Sp := fun vs H Q _ => ∃ (N : Addr → Prop) (F : Addr) (ys : List V) (qs : List Prt), vs = [.ref F] ∧ H F = some (.lst ys) ∧ Pls N H ys qs ∧ ys.length ≤ 100 ∧
  ∀ (D : Addr) (us : List V) (H' : Hp), Same H H' → H D = none → H' D = some (.lst us) → Trs T H' us qs → Q (.ref D) H'
theorem ok__law_tricks (T : Tx P K mg) : FnOk P w K mg base CX0 lv__law_tricks T.a__law_tricks T.d__law_tricks ["_law_told"] (spLawTricks T) := by
  refine T.F__law_tricks.ok sc__law_tricks (fun vs H Q E h => ?_) (fun cdv A outer s H vs Q E hr h => ?_)
  · obtain ⟨N, F, ys, qs, rfl, _⟩ := h
    rfl
  · obtain ⟨N, F, ys, qs, rfl, hF, hP, ln, k⟩ := h
    refine ⟨_, (pss_one (ps_ret (pe_lc (own := [("_law_base", 1), ("_law_take", 2), ("_law_times", 3)]) (tt := tYes) (g := gUnl K 3 (gCons (gName 1) (gCons (gName 2) (gCons (gName 3) gNil)))) rfl sc__law_tricks.nd (pi_list (pv 0)) (blkOk_by (own := [("_law_base", 1), ("_law_take", 2), ("_law_times", 3)]) (N := ["_law_told", "_law_base", "_law_take", "_law_times"]) (sc := defScope s__law_tricks) (by decide +kernel)) (fun _ _ _ _ _ => pg_unl rfl (pgs_cons (pg_name (i := 1) sc__law_tricks.nd rfl (Or.inl rfl)) (pgs_cons (pg_name (i := 2) sc__law_tricks.nd rfl (Or.inl rfl)) (pgs_cons (pg_name (i := 3) sc__law_tricks.nd rfl (Or.inl rfl)) pgs_nil)))) (fun _ _ _ _ _ => pts_nil) (fun _ _ _ _ _ => (pe_make T.mk_Trick (ok_Trick___init__ T) (hr.mono (by decide)) rfl T.g_Trick T.b_Trick___init__ .nil pass0 (pa_cons (pv 1) (pa_cons (pv 2) (pa_cons (pv 3) pa_nil)))))))), ?_⟩
    refine ⟨_, rfl, F, rfl, ⟨_, SqL.of hF⟩, fun D hD => ?_⟩
    refine lc_it walk_list (fun i H2 => Same H H2 ∧ ∃ us, H2 D = some (.lst us) ∧ Trs T H2 us (qs.take i)) ⟨same_upd hD, [], upd_same, trivial⟩ (fun i H2 _ ⟨S2, _⟩ => SqL.of (S2 _ _ hF)) ?_ ?_
    · rintro i y H2 H3 hi ⟨S2, us, hD2, hT⟩ ⟨rfl, hy⟩
      obtain ⟨p, z, rfl, hz, _, hp, b1, b2, t1, t2, m1, m2⟩ := (hP.same S2).at hy
      refine ⟨p, _, rfl, SqL.of hp, rfl, _, _, rfl, _, _, rfl, _, _, rfl, rfl, rfl, _, rfl, _, rfl, _, rfl, fun q dx nq nd nn => mk_trick nq nd b1 b2 t1 t2 m1 m2 fun H4 hQ S4 => ?_⟩
      have hD4 := S4 _ _ hD2
      have el : us.length = i := by
        rw [hT.len, List.length_take]
        have := hP.len
        omega
      refine ⟨us, hD4, small1000 (by omega), fun e o he => ?_, us ++ [.ref q], upd_same, ?_⟩
      · rw [upd_ne (ne_of_none he hD)]
        exact S4 _ _ (S2 _ _ he)
      · have kT : ∀ p b t m, TrickAt T H4 p b t m → TrickAt T (upd H4 D (.lst (us ++ [.ref q]))) p b t m := fun p b t m h => by
          obtain ⟨⟨dx', e⟩, rest⟩ := h
          refine ⟨⟨dx', ?_⟩, rest⟩
          rw [upd_ne (fun z => by rw [z, hD4] at e; cases e)]
          exact e
        rw [take_snoc hz]
        exact ((hT.same S4).of kT).snoc (kT _ _ _ _ hQ)
    · rintro H2 ⟨S2, us, hD2, hT⟩
      rw [hP.len, List.take_length] at hT
      exact k D us H2 S2 hD hD2 hT

/-! ### the number behind a trick -/
def behind (b t m n : Int) : Int := (n - n.fmod (blockOf b t)) / blockOf b t + m * n.fmod (blockOf b t)
def spBehind (K : PySem.W.Frag) : Sp := fun vs H Q _ => ∃ (q : Addr) (b t m n : Int), vs = [.ref q, .int n] ∧ SqL K H q [.int b, .int t, .int m] ∧ 2 ≤ b ∧ b ≤ 16 ∧ -100 ≤ m ∧ m ≤ 100 ∧ Q (.int (behind b t m n)) H
theorem ok__law_behind (T : Tx P K mg) : FnOk P w K mg base CX0 lv__law_behind T.a__law_behind T.d__law_behind ["_law_told", "_law_n"] (spBehind K) := by
  refine T.F__law_behind.ok sc__law_behind (fun vs H Q E h => ?_) (fun cdv A outer s H vs Q E hr h => ?_)
  · obtain ⟨q, b, t, m, n, rfl, _⟩ := h
    rfl
  · obtain ⟨q, b, t, m, n, rfl, hq, b1, b2, m1, m2, k⟩ := h
    obtain ⟨B1, B2⟩ := block_bd (t := t) b1 b2
    refine ⟨_, (pss_cons (ps_asg (pv 0) (pg_unl rfl (pgs_cons (pg_name (i := 2) sc__law_behind.nd rfl (Or.inl rfl)) (pgs_cons (pg_name (i := 3) sc__law_behind.nd rfl (Or.inl rfl)) (pgs_cons (pg_name (i := 4) sc__law_behind.nd rfl (Or.inl rfl)) pgs_nil)))))
      (Evl.pss_cut (ps_set (i := 5) sc__law_behind.nd rfl (Or.inl rfl) (pe_ifExp (pt_cmpR op_eq (pv 3) pe_int (nomark _)) (pv 2) (pe_op op_mul (pv 2) (pv 2))))
      (pss_cons (ps_set (i := 6) sc__law_behind.nd rfl (Or.inl rfl) (pe_op op_modN (pv 1) (pv 5)))
      (pss_one (ps_ret (pe_op op_add (pe_op op_fdivW (pe_op op_sub (pv 1) (pv 6)) (pv 5)) (pe_op op_mul (pv 4) (pv 6)))))))), ?_⟩
    refine ⟨_, rfl, q, _, rfl, hq, rfl, _, _, rfl, _, _, rfl, _, _, rfl, rfl, ?_⟩
    -- the block
    refine ⟨fun σ H1 => ∃ x : Option V, H1 = H ∧ σ = [some (.ref q), some (.int n), some (.int b), some (.int t), some (.int m), some (.int (blockOf b t)), x], ?_, ?_⟩
    · refine ⟨_, rfl, rfl, _, rfl, ?_⟩
      refine ite2 (fun c => ?_) (fun c => ?_)
      · have c1 : t = 1 := by simpa using c
        exact ⟨_, rfl, none, rfl, by unfold blockOf; rw [if_pos c1]; rfl⟩
      · have c1 : ¬ t = 1 := by simpa using c
        exact ⟨_, rfl, _, rfl, _, _, rfl, rfl, .inl ⟨by omega, by omega⟩, none, rfl, by unfold blockOf; rw [if_neg c1]; rfl⟩
    rintro σ H1 ⟨x, rfl, rfl⟩
    refine ⟨_, rfl, _, rfl, _, _, rfl, rfl, (show blockOf b t ≠ 0 by omega), ?_⟩
    exact ⟨_, rfl, _, rfl, _, _, rfl, rfl, _, rfl, _, _, rfl, rfl, wide_div (by omega) (b := 9) (by omega) (by decide) (by decide), _, rfl, _, rfl, _, _, rfl, rfl, .inl ⟨by omega, by omega⟩, _, _, rfl, rfl, k⟩

/-! ### a drawn number -/
def spNumber (K : PySem.W.Frag) : Sp := fun vs H Q _ => ∃ (r a : Addr) (ns : List Int), vs = [.ref r] ∧ RowAt K H r a ns ∧ ∀ (v : Int) (H' : Hp), -(10 ^ 40) ≤ v → v ≤ 10 ^ 40 → RowAt K H' r a ns → But r H H' → Q (.int v) H'
theorem ok__law_number (T : Tx P K mg) : FnOk P w K mg base CX0 lv__law_number T.a__law_number T.d__law_number ["_law_row"] (spNumber K) := by
  refine T.F__law_number.ok sc__law_number (fun vs H Q E h => ?_) (fun cdv A outer s H vs Q E hr h => ?_)
  · obtain ⟨r, a, ns, rfl, _⟩ := h
    rfl
  · obtain ⟨r, a, ns, rfl, R0, k⟩ := h
    refine ⟨_, (Evl.pss_cut (ps_set (i := 1) sc__law_number.nd rfl (Or.inl rfl) (pe_ix ix_list (pe_lst (pa_cons pe_int (pa_cons pe_int (pa_cons (pe_op op_pow pe_int pe_int) (pa_cons (pe_op op_pow pe_int pe_int) pa_nil))))) (pe_call (ok__law_taken T) (hr.mono (by decide)) rfl T.g__law_taken T.F__law_taken.kp T.b__law_taken .nil pass0 (pa_cons (pv 0) (pa_cons pe_int pa_nil))) (fun _ _ => rfl)))
      (Evl.pss_cut (ps_set (i := 2) sc__law_number.nd rfl (Or.inl rfl) (pe_ifExp (pt_cmpR op_gt (pe_call (ok__law_taken T) (hr.mono (by decide)) rfl T.g__law_taken T.F__law_taken.kp T.b__law_taken .nil pass0 (pa_cons (pv 0) (pa_cons pe_int pa_nil))) pe_int (nomark _)) (pe_call (ok__law_taken T) (hr.mono (by decide)) rfl T.g__law_taken T.F__law_taken.kp T.b__law_taken .nil pass0 (pa_cons (pv 0) (pa_cons (pe_op op_add (pv 1) pe_int) pa_nil))) (pv 1)))
      (pss_one (ps_ret (pe_ifExp (pt_cmpR op_gt (pe_call (ok__law_taken T) (hr.mono (by decide)) rfl T.g__law_taken T.F__law_taken.kp T.b__law_taken .nil pass0 (pa_cons (pv 0) (pa_cons pe_int pa_nil))) pe_int (nomark _)) (pv 2) (pe_un un_neg (pv 2))))))), ?_⟩
    refine ⟨fun σ H1 => ∃ z : Int, 1 ≤ z ∧ z ≤ 10 ^ 40 ∧ RowAt K H1 r a ns ∧ But r H H1 ∧ σ = [some (.ref r), some (.int z), none], ?_, ?_⟩
    · refine ⟨_, _, rfl, rfl, ⟨by decide, by decide, by decide⟩, _, _, rfl, rfl, ⟨by decide, by decide, by decide⟩, by show 4 ≤ sizeLine; decide, fun p hp => ?_⟩
      refine ⟨_, rfl, menu (items := [9, 200, 10 ^ (6 : Int).toNat, 10 ^ (40 : Int).toNat]) (fun z => 1 ≤ z ∧ z ≤ 10 ^ 40) ?_ rfl R0 hp (fun z H2 hz R2 B2 _ => ?_) (by show (0 : Int) < 4; decide) (by show (4 : Int) ≤ 10 ^ 41; decide)⟩
      · intro z hz
        rcases List.mem_cons.mp hz with rfl | hz
        · decide
        rcases List.mem_cons.mp hz with rfl | hz
        · decide
        rcases List.mem_cons.mp hz with rfl | hz
        · decide
        rcases List.mem_cons.mp hz with rfl | hz
        · decide
        · cases hz
      · exact ⟨z, hz.1, hz.2, R2, B2, rfl⟩
    rintro σ H1 ⟨z, z1, z2, R1, B1, rfl⟩
    refine ⟨fun σ H2 => ∃ n : Int, 0 ≤ n ∧ n ≤ 10 ^ 40 ∧ RowAt K H2 r a ns ∧ But r H H2 ∧ σ = [some (.ref r), some (.int z), some (.int n)], ?_, ?_⟩
    · refine ⟨_, rfl, r, a, ns, _, rfl, by decide, by decide, R1, fun v H2 v0 v1 R2 B2 => ?_⟩
      refine ⟨_, _, rfl, rfl, _, rfl, ?_⟩
      refine ite2 (fun g => ?_) (fun g => ?_)
      · refine ⟨_, rfl, _, rfl, _, _, rfl, rfl, r, a, ns, _, rfl, by omega, by omega, R2, fun n H3 n0 n1 R3 B3 => ?_⟩
        exact ⟨n, n0, by omega, R3, B1.trans (B2.trans B3), rfl⟩
      · exact ⟨_, rfl, z, by omega, z2, R2, B1.trans B2, rfl⟩
    clear R1 B1
    rintro σ H1 ⟨n, n0, n1, R1, B1, rfl⟩
    refine ⟨_, rfl, r, a, ns, _, rfl, by decide, by decide, R1, fun v H2 v0 v1 R2 B2 => ?_⟩
    refine ⟨_, _, rfl, rfl, _, rfl, ?_⟩
    refine ite2 (fun g => ?_) (fun g => ?_)
    · exact ⟨_, rfl, k n H2 (by omega) n1 R2 (B1.trans B2)⟩
    · exact ⟨_, rfl, _, rfl, k (-n) H2 (by omega) (by omega) R2 (B1.trans B2)⟩

/-! ### the two ways to say what is behind a trick -/
theorem behind_made {b t m n : Int} (h : 2 ≤ blockOf b t) : behind b t m n = made b t m n := by
  unfold behind made
  congr 1
  rw [Int.fmod_eq_emod_of_nonneg n (by omega)]
  have e := Int.mul_ediv_add_emod n (blockOf b t)
  have e2 : n - n % blockOf b t = blockOf b t * (n / blockOf b t) := by omega
  rw [e2, Int.mul_ediv_cancel_left _ (by omega)]

/-- what is a Trick, or the error -/
def isTrick (T : Tx P K mg) (H : Hp) (x : V) : Prop := ∃ p b t m, x = .ref p ∧ TrickAt T H p b t m
def spChkTrick (T : Tx P K mg) : Sp := fun vs H Q E => ∃ x : V, vs = [x] ∧ ((∃ p dx fs, x = .ref p ∧ H p = some (.ins T.C_Trick dx fs) ∧ Q .non H) ∨ (AnyV (fun _ => False) H x ∧ E (.ref T.C_BadTrick) none H))
theorem ok_check_trick (T : Tx P K mg) : FnOk P w K mg base (L2.CX P w) lv_check_trick T.a_check_trick T.d_check_trick ["trick"] (spChkTrick T) := by
  refine T.F_check_trick.okX sc_check_trick (fun vs H Q E h => ?_) (fun cdv A outer s H vs Q E hr h => ?_)
  · obtain ⟨x, rfl, _⟩ := h
    rfl
  · obtain ⟨x, rfl, h⟩ := h
    refine ⟨_, (pss_one (ps_if (pt_not (pt_val (pe_callB call_isi (by rfl) T.n_isinstance (by decide +kernel) (pa_cons (pv 0) (pa_cons (pe_glob (v := .ref T.C_Trick) rfl T.g_Trick rfl) pa_nil))))) (pss_one (ps_raise rfl (takes_of rfl rfl rfl rfl) (pmk_own PySem.F.excBase_ValueError T.x_BadTrick T.g_BadTrick T.k_BadTrick (raises_own T.s_BadTrick T.t_BadTrick) rfl))) pss_nil)), ?_⟩
    rcases h with ⟨p, dx, fs, rfl, e, k⟩ | ⟨a, k⟩
    · exact ⟨_, rfl, _, _, _, _, _, rfl, .own _, .base (T.ins_Trick _ _ _ _ e), T.kis_Trick, _, rfl, iteF k⟩
    · obtain ⟨t, ty, e⟩ := isi_trick T a
      exact ⟨_, rfl, _, _, _, _, _, rfl, .own _, ty, e, _, rfl, iteT k⟩

/-! ### where it fails -/
def failAt (b t m d : Int) (n : Int) : Bool := decide (n.fmod d = 0) != decide ((made b t m n).fmod d = 0)
def unlikeAt (b t m d : Int) (n : Int) : Bool := !decide (n.fmod d = (made b t m n).fmod d)
def spFails (T : Tx P K mg) (f : Int → Int → Int → Int → Int → Bool) : Sp := fun vs H Q _ => ∃ (p : Addr) (b t m d : Int), vs = [.ref p, .int d] ∧ TrickAt T H p b t m ∧ 1 ≤ d ∧ d ≤ 100 ∧
  Q (optV ((List.range (blockOf b t * d).toNat).find? fun i => f b t m d (i : Int))) H

/-! ### all numbers, by those of one stretch -/
theorem made_shift {b t m d n q : Int} (h : 2 ≤ blockOf b t) : made b t m (n + blockOf b t * (d * q)) = made b t m n + d * q := by
  unfold made
  rw [Int.fmod_eq_emod_of_nonneg _ (by omega), Int.fmod_eq_emod_of_nonneg _ (by omega), Int.add_mul_emod_self_left, Int.add_mul_ediv_left _ _ (by omega)]
  omega
/-- what is so for all rests of the stretch is so for all numbers -/
theorem of_stretch {b t m d : Int} (f : Int → Int → Int → Int → Int → Bool) (hf : ∀ x y, x.fmod d = y.fmod d → (made b t m x).fmod d = (made b t m y).fmod d → f b t m d x = f b t m d y) (h : 2 ≤ blockOf b t) (hd : 1 ≤ d)
    (h0 : (List.range (blockOf b t * d).toNat).find? (fun (i : Nat) => f b t m d (i : Int)) = none) (n : Int) : f b t m d n = false := by
  have hp : 0 < blockOf b t * d := Int.mul_pos (by omega) (by omega)
  have e0 := Int.emod_nonneg n (b := blockOf b t * d) (by omega)
  have e1 := Int.emod_lt_of_pos n hp
  have e2 := Int.mul_ediv_add_emod n (blockOf b t * d)
  have e3 : n = n % (blockOf b t * d) + blockOf b t * (d * (n / (blockOf b t * d))) := by rw [← Int.mul_assoc]; omega
  generalize n / (blockOf b t * d) = q at e3
  generalize n % (blockOf b t * d) = i at e0 e1 e3
  have e4 : i.toNat < (blockOf b t * d).toNat := by omega
  have e5 : f b t m d i = false := by
    have := List.find?_eq_none.mp h0 i.toNat (List.mem_range.mpr e4)
    rw [Int.toNat_of_nonneg e0] at this
    simpa using this
  rw [← e5]
  refine hf n i ?_ ?_
  · rw [e3, Int.fmod_eq_emod_of_nonneg _ (by omega), Int.fmod_eq_emod_of_nonneg _ (by omega), ← Int.mul_assoc, Int.mul_comm (blockOf b t) d, Int.mul_assoc, Int.add_mul_emod_self_left]
  · rw [e3, made_shift h, Int.fmod_eq_emod_of_nonneg _ (by omega), Int.fmod_eq_emod_of_nonneg _ (by omega), Int.add_mul_emod_self_left]
theorem fail_of {b t m d : Int} : ∀ x y, x.fmod d = y.fmod d → (made b t m x).fmod d = (made b t m y).fmod d → failAt b t m d x = failAt b t m d y := fun x y e1 e2 => by
  unfold failAt
  rw [e1, e2]
theorem unlike_of {b t m d : Int} : ∀ x y, x.fmod d = y.fmod d → (made b t m x).fmod d = (made b t m y).fmod d → unlikeAt b t m d x = unlikeAt b t m d y := fun x y e1 e2 => by
  unfold unlikeAt
  rw [e1, e2]

/-! ### rests, by dividing -/
theorem fmod_iff {d x y : Int} (hd : 1 ≤ d) : x.fmod d = y.fmod d ↔ d ∣ x - y := by
  rw [Int.fmod_eq_emod_of_nonneg _ (by omega), Int.fmod_eq_emod_of_nonneg _ (by omega), Int.emod_eq_emod_iff_emod_sub_eq_zero, Int.dvd_iff_emod_eq_zero]
theorem fmod0_iff {d x : Int} (hd : 1 ≤ d) : x.fmod d = 0 ↔ d ∣ x := by
  rw [Int.fmod_eq_emod_of_nonneg _ (by omega), Int.dvd_iff_emod_eq_zero]
theorem made_split {b t m n : Int} (h : 2 ≤ blockOf b t) : ∃ q r : Int, 0 ≤ r ∧ r < blockOf b t ∧ n = blockOf b t * q + r ∧ made b t m n = q + m * r := by
  refine ⟨n / blockOf b t, n.fmod (blockOf b t), ?_, ?_, ?_, rfl⟩
  · exact (fmod_bd n (by omega)).1
  · exact (fmod_bd n (by omega)).2
  · rw [Int.fmod_eq_emod_of_nonneg _ (by omega)]
    exact (Int.mul_ediv_add_emod n (blockOf b t)).symm
theorem made_of_split {b t m q r : Int} (h0 : 0 ≤ r) (h1 : r < blockOf b t) : made b t m (blockOf b t * q + r) = q + m * r := by
  unfold made
  rw [Int.fmod_eq_emod_of_nonneg _ (by omega), Int.mul_add_emod_self_left, Int.emod_eq_of_lt h0 h1, Int.add_comm (blockOf b t * q) r, Int.add_mul_ediv_left _ _ (by omega), Int.ediv_eq_zero_of_lt h0 h1]
  omega
def goodB (b t m d : Int) : Bool := decide (d ∣ m * blockOf b t - 1)
def sameB (b t m d : Int) : Bool := decide (d ∣ blockOf b t - 1) && decide (d ∣ m - 1)
theorem dvd_of_sub {d x y : Int} (h : d ∣ x - y) (k : d ∣ y) : d ∣ x := by
  have := Int.dvd_add h k
  rwa [Int.sub_add_cancel] at this
theorem fail_good {b t m d : Int} (h : 2 ≤ blockOf b t) (hd : 1 ≤ d) : (∀ n, failAt b t m d n = false) ↔ d ∣ m * blockOf b t - 1 := by
  constructor
  · intro k
    have k1 := k (blockOf b t * (-m) + 1)
    unfold failAt at k1
    rw [made_of_split (by omega) (by omega)] at k1
    have e1 : decide ((-m + m * 1).fmod d = 0) = true := decide_eq_true ((fmod0_iff hd).mpr ⟨0, by omega⟩)
    rw [e1] at k1
    have e2 : (blockOf b t * -m + 1).fmod d = 0 := by
      by_cases z : (blockOf b t * -m + 1).fmod d = 0
      · exact z
      · rw [decide_eq_false z] at k1
        cases k1
    obtain ⟨c, hc⟩ := (fmod0_iff hd).mp e2
    refine ⟨-c, ?_⟩
    grind
  · intro k n
    obtain ⟨q, r, r0, r1, en, em⟩ := made_split (m := m) (n := n) h
    obtain ⟨c, hc⟩ := k
    have e : d ∣ n ↔ d ∣ made b t m n := by
      constructor
      · rintro ⟨u, hu⟩
        -- made = m * B * made - (m * B - 1) * made
        refine ⟨m * u + m * (c * r) - c * (q + m * r), ?_⟩
        rw [em]
        grind
      · rintro ⟨u, hu⟩
        refine ⟨blockOf b t * u - c * r, ?_⟩
        rw [em] at hu
        grind
    unfold failAt
    by_cases z : d ∣ n
    · rw [decide_eq_true ((fmod0_iff hd).mpr z), decide_eq_true ((fmod0_iff hd).mpr (e.mp z))]
      rfl
    · rw [decide_eq_false (fun w => z ((fmod0_iff hd).mp w)), decide_eq_false (fun w => z (e.mpr ((fmod0_iff hd).mp w)))]
      rfl
theorem unlike_same {b t m d : Int} (h : 2 ≤ blockOf b t) (hd : 1 ≤ d) : (∀ n, unlikeAt b t m d n = false) ↔ (d ∣ blockOf b t - 1 ∧ d ∣ m - 1) := by
  have un : ∀ n, unlikeAt b t m d n = false ↔ d ∣ n - made b t m n := fun n => by
    unfold unlikeAt
    rw [Bool.not_eq_false', decide_eq_true_iff, fmod_iff hd]
  constructor
  · intro k
    have k1 := (un _).mp (k (blockOf b t * 1 + 0))
    have k2 := (un _).mp (k (blockOf b t * 0 + 1))
    rw [made_of_split (by omega) (by omega)] at k1 k2
    obtain ⟨c1, h1⟩ := k1
    obtain ⟨c2, h2⟩ := k2
    exact ⟨⟨c1, by grind⟩, ⟨-c2, by grind⟩⟩
  · rintro ⟨⟨c1, h1⟩, ⟨c2, h2⟩⟩ n
    rw [un]
    obtain ⟨q, r, r0, r1, en, em⟩ := made_split (m := m) (n := n) h
    exact ⟨c1 * q - c2 * r, by grind⟩
theorem find_all {b t m d : Int} (f : Int → Int → Int → Int → Int → Bool) (hf : ∀ x y, x.fmod d = y.fmod d → (made b t m x).fmod d = (made b t m y).fmod d → f b t m d x = f b t m d y) (h : 2 ≤ blockOf b t) (hd : 1 ≤ d) :
    (List.range (blockOf b t * d).toNat).find? (fun (i : Nat) => f b t m d (i : Int)) = none ↔ ∀ n, f b t m d n = false := by
  constructor
  · exact fun k => of_stretch f hf h hd k
  · exact fun k => find_none fun j _ => k j
theorem fail_none {b t m d : Int} (h : 2 ≤ blockOf b t) (hd : 1 ≤ d) : ((List.range (blockOf b t * d).toNat).find? fun (i : Nat) => failAt b t m d (i : Int)).isNone = goodB b t m d := by
  unfold goodB
  rw [Bool.eq_iff_iff, Option.isNone_iff_eq_none, decide_eq_true_iff, find_all failAt fail_of h hd, fail_good h hd]
theorem unlike_none {b t m d : Int} (h : 2 ≤ blockOf b t) (hd : 1 ≤ d) : ((List.range (blockOf b t * d).toNat).find? fun (i : Nat) => unlikeAt b t m d (i : Int)).isNone = sameB b t m d := by
  unfold sameB
  rw [Bool.eq_iff_iff, Option.isNone_iff_eq_none, Bool.and_eq_true, decide_eq_true_iff, decide_eq_true_iff, find_all unlikeAt unlike_of h hd, unlike_same h hd]
/-- the two ways to say them -/
theorem good_is {b t m d : Int} (hd : 1 ≤ d) : decide ((m * blockOf b t).fmod d = (1 : Int).fmod d) = goodB b t m d := by
  unfold goodB
  rw [Bool.eq_iff_iff, decide_eq_true_iff, decide_eq_true_iff, fmod_iff hd]
theorem good_is0 {b t m d : Int} (hd : 1 ≤ d) : decide ((m * blockOf b t - 1).fmod d = 0) = goodB b t m d := by
  unfold goodB
  rw [Bool.eq_iff_iff, decide_eq_true_iff, decide_eq_true_iff, fmod0_iff hd]
theorem same_is {b t m d : Int} (hd : 1 ≤ d) : (goodB b t m d && decide ((blockOf b t).fmod d = (1 : Int).fmod d)) = sameB b t m d := by
  unfold goodB sameB
  rw [Bool.eq_iff_iff, Bool.and_eq_true, Bool.and_eq_true, decide_eq_true_iff, decide_eq_true_iff, decide_eq_true_iff, decide_eq_true_iff, fmod_iff hd]
  constructor
  · rintro ⟨⟨c1, h1⟩, ⟨c2, h2⟩⟩
    exact ⟨⟨c2, h2⟩, ⟨c1 - m * c2, by grind⟩⟩
  · rintro ⟨⟨c1, h1⟩, ⟨c2, h2⟩⟩
    exact ⟨⟨c2 + m * c1, by grind⟩, ⟨c1, h1⟩⟩
theorem factor_ok {b t m d n : Int} (h : 2 ≤ blockOf b t) (hd : 1 ≤ d) (g : goodB b t m d = true) : (made b t m n).fmod d = (m.fmod d * n).fmod d := by
  obtain ⟨c, hc⟩ := of_decide_eq_true g
  obtain ⟨q, r, r0, r1, en, em⟩ := made_split (m := m) (n := n) h
  obtain ⟨u, hu⟩ := (fmod_iff (d := d) (x := m) (y := m.fmod d) hd).mp (by rw [Int.fmod_fmod])
  rw [fmod_iff hd]
  exact ⟨u * n - c * q, by grind⟩

def spTellsM : Sp := fun vs H Q _ => ∃ B m d : Int, vs = [.int B, .int m, .int d] ∧ -100 ≤ m ∧ m ≤ 100 ∧ 1 ≤ d ∧ Q (.bl (decide (d ∣ m * B - 1))) H
theorem ok_tells_multiples (T : Tx P K mg) : FnOk P w K mg base CX0 lv_tells_multiples T.a_tells_multiples T.d_tells_multiples ["block", "times", "d"] spTellsM := by
  refine T.F_tells_multiples.ok sc_tells_multiples (fun vs H Q E h => ?_) (fun cdv A outer s H vs Q E hr h => ?_)
  · obtain ⟨B, m, d, rfl, _⟩ := h
    rfl
  · obtain ⟨B, m, d, rfl, m1, m2, d1, k⟩ := h
    refine ⟨_, (pss_one (ps_ret (pe_cmpR op_eq (pe_op op_modN (pe_op op_sub (pe_op op_mul (pv 1) (pv 0)) pe_int) (pv 2)) pe_int (nomark _)))), ?_⟩
    refine ⟨_, rfl, _, rfl, _, _, rfl, rfl, .inl ⟨by omega, by omega⟩, _, _, rfl, rfl, _, rfl, _, _, rfl, rfl, (show d ≠ 0 by omega), rfl, ?_⟩
    have e2 : decide (V.int ((m * B - 1).fmod d) = V.int 0) = decide (d ∣ m * B - 1) := by
      rw [dec_i, Bool.eq_iff_iff, decide_eq_true_iff, decide_eq_true_iff, fmod0_iff d1]
    rw [← e2] at k
    exact k

/-! ### by what the rest is multiplied -/
def facV (b t m d : Int) : V := if goodB b t m d = true then .int (m.fmod d) else .non
def spFactor (T : Tx P K mg) : Sp := fun vs H Q _ => ∃ (p : Addr) (b t m d : Int), vs = [.ref p, .int d] ∧ TrickAt T H p b t m ∧ 1 ≤ d ∧ d ≤ 100 ∧ Q (facV b t m d) H
theorem ok_factor (T : Tx P K mg) : FnOk P w K mg base CX0 lv_factor T.a_factor T.d_factor ["trick", "d"] (spFactor T) := by
  refine T.F_factor.ok sc_factor (fun vs H Q E h => ?_) (fun cdv A outer s H vs Q E hr h => ?_)
  · obtain ⟨p, b, t, m, d, rfl, _⟩ := h
    rfl
  · obtain ⟨p, b, t, m, d, rfl, a, d1, d2, k⟩ := h
    obtain ⟨⟨dx, e⟩, b1, b2, t1, t2, m1, m2⟩ := id a
    refine ⟨_, (pss_cons (ps_expr (pe_call (ok_check_trick T) (hr.mono (by decide)) rfl T.g_check_trick T.F_check_trick.kp T.b_check_trick .nil passL (pa_cons (pv 0) pa_nil)))
      (pss_cons (ps_expr (pe_call (ok_check_divisor T) (hr.mono (by decide)) rfl T.g_check_divisor T.F_check_divisor.kp T.bd_check_divisor T.rd_check_divisor passL (pa_cons (pv 1) pa_nil)))
      (pss_cons (ps_if (pt_not (pt_val (pe_call (ok_tells_multiples T) (hr.mono (by decide)) rfl T.g_tells_multiples T.F_tells_multiples.kp T.b_tells_multiples .nil pass0 (pa_cons (pe_call (ok_trick_block T) (hr.mono (by decide)) rfl T.g_trick_block T.F_trick_block.kp T.b_trick_block .nil pass0 (pa_cons (pv 0) pa_nil)) (pa_cons (pe_prop (pv 0) T.cl_Trick T.p_Trick_times (ok_Trick_times T) (hr.mono (by decide)) T.b_Trick_times .nil pass0 rfl) (pa_cons (pv 1) pa_nil)))))) (pss_one (ps_ret pe_non)) pss_nil)
      (pss_one (ps_ret (pe_op op_modN (pe_prop (pv 0) T.cl_Trick T.p_Trick_times (ok_Trick_times T) (hr.mono (by decide)) T.b_Trick_times .nil pass0 rfl) (pv 1))))))), ?_⟩
    refine ⟨_, rfl, _, rfl, .inl ⟨p, dx, _, rfl, e, ?_⟩⟩
    refine ⟨_, rfl, _, 100, rfl, by decide, by decide, .int d, fun _ => ?_, fun z => Bool.noConfusion ((intIn_of d1 d2).symm.trans z)⟩
    refine ⟨_, rfl, p, b, t, m, rfl, a, _, rfl, p, dx, _, rfl, e, p, b, t, m, rfl, a, _, rfl, _, m, d, rfl, m1, m2, d1, _, rfl, ?_⟩
    unfold facV at k
    cases g : goodB b t m d with
    | true =>
      rw [if_pos g] at k
      rw [show decide (d ∣ m * blockOf b t - 1) = true from g]
      exact iteF ⟨_, rfl, p, dx, _, rfl, e, p, b, t, m, rfl, a, _, rfl, _, _, rfl, rfl, (show d ≠ 0 by omega), k⟩
    | false =>
      rw [if_neg (by rw [g]; exact Bool.false_ne_true)] at k
      rw [show decide (d ∣ m * blockOf b t - 1) = false from g]
      exact iteT k

/-! ### what a chain tells, by the least numbers that fail -/
def unlikeC (qs : List Prt) (d : Int) (k : Nat) : Bool := !sameC ((k : Int).fmod d, (mkAll qs (k : Int)).fmod d)
theorem all_find {qs : List Prt} {d : Int} {N : Nat} (g : Int × Int → Bool) : (rpL qs d N).all g = ((List.range N).find? fun (k : Nat) => !g ((k : Int).fmod d, (mkAll qs (k : Int)).fmod d)).isNone := by
  rw [Bool.eq_iff_iff, Option.isNone_iff_eq_none, List.find?_eq_none, List.all_eq_true]
  unfold rpL
  constructor
  · intro h j hj
    have := h _ (List.mem_map.mpr ⟨j, hj, rfl⟩)
    rw [this]
    exact Bool.false_ne_true
  · intro h z hz
    obtain ⟨j, hj, rfl⟩ := List.mem_map.mp hz
    have := h j hj
    simpa using this
theorem wordC_find {qs : List Prt} {d : Int} {N : Nat} : wordC (rpL qs d N) = if (List.range N).find? (unlikeC qs d) = none then ("rest" : Str) else if (List.range N).find? (failC qs d) = none then ("multiples" : Str) else ("nothing" : Str) := by
  unfold wordC
  rw [all_find, all_find]
  simp only [Option.isNone_iff_eq_none]
  rfl
/-- beyond a stretch all comes again -/
theorem chain_far {qs : List Prt} {d : Int} (hb : ∀ q ∈ qs, 2 ≤ blockOf q.1 q.2.1) (d1 : 1 ≤ d) {g : Int × Int → Bool} (h : (List.range (wide qs * d).toNat).find? (fun (k : Nat) => !g ((k : Int).fmod d, (mkAll qs (k : Int)).fmod d)) = none) (n : Int) : g (n.fmod d, (mkAll qs n).fmod d) = true := by
  have w1 := wide_pos hb
  have sh := mkAll_shift hb
  generalize wide qs = W at *
  have hp : 0 < W * d := Int.mul_pos (by omega) (by omega)
  have e0 := Int.emod_nonneg n (b := W * d) (by omega)
  have e1 := Int.emod_lt_of_pos n hp
  have e2 := Int.mul_ediv_add_emod n (W * d)
  have e3 : n = n % (W * d) + W * (d * (n / (W * d))) := by rw [← Int.mul_assoc]; omega
  generalize n / (W * d) = q at e3
  generalize n % (W * d) = i at e0 e1 e3
  have h1 := List.find?_eq_none.mp h i.toNat (List.mem_range.mpr (by omega))
  rw [Int.toNat_of_nonneg e0] at h1
  have h2 : g (i.fmod d, (mkAll qs i).fmod d) = true := by simpa using h1
  rw [e3, sh]
  have f1 : (i + W * (d * q)).fmod d = i.fmod d := by
    rw [Int.fmod_eq_emod_of_nonneg _ (by omega), Int.fmod_eq_emod_of_nonneg _ (by omega), ← Int.mul_assoc, Int.mul_comm W d, Int.mul_assoc, Int.add_mul_emod_self_left]
  have f2 : (mkAll qs i + d * q).fmod d = (mkAll qs i).fmod d := by
    rw [Int.fmod_eq_emod_of_nonneg _ (by omega), Int.fmod_eq_emod_of_nonneg _ (by omega), Int.add_mul_emod_self_left]
  rw [f1, f2]
  exact h2
theorem Pls.blks {N : Addr → Prop} {H : Hp} {ys : List V} {qs : List Prt} (h : Pls N H ys qs) : ∀ q ∈ qs, 2 ≤ blockOf q.1 q.2.1 := fun z hz => by
  obtain ⟨j, hj⟩ := List.mem_iff_getElem?.mp hz
  have lj := (List.getElem?_eq_some_iff.mp hj).1
  obtain ⟨p, z', _, hz', _, _, g1, g2, _⟩ := h.at (i := j) (y := ys[j]'(by rw [h.len]; exact lj)) (List.getElem?_eq_getElem _)
  rw [hj] at hz'
  cases hz'
  exact (block_bd g1 g2).1

/-! ### chains of tricks that tell multiples -/
def gdAll (d : Int) (qs : List Prt) : Prop := ∀ q ∈ qs, d ∣ q.2.2 * blockOf q.1 q.2.1 - 1
/-- the product of the factors -/
def facP (d : Int) (qs : List Prt) : Int := qs.foldl (fun P q => (P * q.2.2.fmod d).fmod d) 1
theorem facP_snoc (d : Int) (qs : List Prt) (z : Prt) : facP d (qs ++ [z]) = (facP d qs * z.2.2.fmod d).fmod d := by
  unfold facP
  rw [List.foldl_append]
  rfl
theorem dvd_fmod {d x : Int} (hd : 1 ≤ d) : d ∣ x - x.fmod d := by
  rw [Int.fmod_eq_emod_of_nonneg _ (by omega)]
  exact Int.dvd_self_sub_emod
/-- what is made by a good trick, times the block -/
theorem made_mul {d : Int} {q : Prt} (hb : 2 ≤ blockOf q.1 q.2.1) (g : d ∣ q.2.2 * blockOf q.1 q.2.1 - 1) (n : Int) : d ∣ made q.1 q.2.1 q.2.2 n - q.2.2 * n := by
  obtain ⟨c, hc⟩ := g
  obtain ⟨u, r, r0, r1, en, em⟩ := made_split (b := q.1) (t := q.2.1) (m := q.2.2) (n := n) hb
  refine ⟨-c * u, ?_⟩
  rw [em]
  grind
theorem facP_spec {d : Int} (hd : 1 ≤ d) : ∀ (m : Nat) {qs : List Prt}, qs.length = m → (∀ q ∈ qs, 2 ≤ blockOf q.1 q.2.1) → gdAll d qs → (∀ n, d ∣ mkAll qs n - facP d qs * n) ∧ d ∣ facP d qs * wide qs - 1
  | 0, qs, h, _, _ => by
    rw [List.length_eq_zero_iff.mp h]
    refine ⟨fun n => ⟨0, ?_⟩, ⟨0, by show (1 : Int) * 1 - 1 = d * 0; omega⟩⟩
    show n - 1 * n = d * 0
    omega
  | m + 1, qs, h, hb, g => by
    obtain ⟨ps, z, rfl⟩ : ∃ ps z, qs = ps ++ [z] := ⟨qs.dropLast, qs.getLast (by intro e; rw [e] at h; cases h), (List.dropLast_concat_getLast _).symm⟩
    have hb' : ∀ q ∈ ps, 2 ≤ blockOf q.1 q.2.1 := fun q hq => hb q (List.mem_append_left _ hq)
    have hz := hb z (List.mem_append_right _ List.mem_cons_self)
    have gz := g z (List.mem_append_right _ List.mem_cons_self)
    obtain ⟨i1, i2⟩ := facP_spec hd m (qs := ps) (by simpa using h) hb' fun q hq => g q (List.mem_append_left _ hq)
    obtain ⟨c1, h1⟩ := dvd_fmod (d := d) (x := facP d ps * z.2.2.fmod d) hd
    obtain ⟨c2, h2⟩ := dvd_fmod (d := d) (x := z.2.2) hd
    obtain ⟨c3, h3⟩ := i2
    refine ⟨fun n => ?_, ?_⟩
    · rw [mkAll_snoc, facP_snoc]
      obtain ⟨c4, h4⟩ := made_mul hz gz (mkAll ps n)
      obtain ⟨c5, h5⟩ := i1 n
      exact ⟨c4 + z.2.2 * c5 + facP d ps * c2 * n + c1 * n, by grind⟩
    · rw [wide_snoc, facP_snoc]
      obtain ⟨c4, h4⟩ := gz
      generalize (facP d ps * z.2.2.fmod d).fmod d = u at *
      generalize z.2.2.fmod d = v at *
      generalize blockOf z.1 z.2.1 = B at *
      generalize wide ps = W at *
      generalize facP d ps = P at *
      generalize z.2.2 = y at *
      -- u = P v - d c1, v = y - d c2, P W = 1 + d c3, y B = 1 + d c4
      exact ⟨c3 * (y * B) + c4 - P * W * B * c2 - c1 * (W * B), by grind⟩
theorem facP_tells {d : Int} {qs : List Prt} (hd : 1 ≤ d) (hb : ∀ q ∈ qs, 2 ≤ blockOf q.1 q.2.1) (g : gdAll d qs) (ne : qs ≠ []) : wordC (rpL qs d (wide qs * d).toNat) = if facP d qs = (1 : Int).fmod d then ("rest" : Str) else ("multiples" : Str) := by
  obtain ⟨h1, h2⟩ := facP_spec hd qs.length rfl hb g
  have hP : facP d qs = (facP d qs).fmod d := by
    obtain ⟨ps, z, e⟩ : ∃ ps z, qs = ps ++ [z] := ⟨qs.dropLast, qs.getLast ne, (List.dropLast_concat_getLast _).symm⟩
    rw [e, facP_snoc, Int.fmod_fmod]
  have w2 : 2 ≤ wide qs := by
    obtain ⟨z, ps, e⟩ : ∃ z ps, qs = z :: ps := match qs, ne with
      | z :: ps, _ => ⟨z, ps, rfl⟩
    rw [e, wide_cons]
    have := wide_pos (qs := ps) fun q hq => hb q (by rw [e]; exact List.mem_cons_of_mem _ hq)
    have hz := hb z (by rw [e]; exact List.mem_cons_self)
    have := Int.mul_le_mul hz this (by omega) (by omega)
    omega
  have hWd : 2 * 1 ≤ wide qs * d := Int.mul_le_mul w2 hd (by omega) (by omega)
  unfold wordC
  have same : (rpL qs d (wide qs * d).toNat).all sameC = true ↔ facP d qs = (1 : Int).fmod d := by
    rw [List.all_eq_true]
    unfold rpL
    constructor
    · intro h
      have := h _ (List.mem_map.mpr ⟨1, List.mem_range.mpr (by omega), rfl⟩)
      have e : ((1 : Nat) : Int).fmod d = (mkAll qs ((1 : Nat) : Int)).fmod d := of_decide_eq_true this
      rw [hP, fmod_iff hd]
      have e2 := (fmod_iff hd).mp e
      obtain ⟨c1, h3⟩ := e2
      obtain ⟨c2, h4⟩ := h1 1
      exact ⟨-c1 - c2, by
        have h5 : ((1 : Nat) : Int) = 1 := rfl
        rw [h5] at h3
        grind⟩
    · intro e z hz
      obtain ⟨j, _, rfl⟩ := List.mem_map.mp hz
      refine decide_eq_true ?_
      show (j : Int).fmod d = (mkAll qs (j : Int)).fmod d
      rw [fmod_iff hd]
      rw [hP] at e
      obtain ⟨c1, h3⟩ := (fmod_iff hd).mp e
      obtain ⟨c2, h4⟩ := h1 (j : Int)
      exact ⟨-c2 - c1 * (j : Int), by grind⟩
  by_cases e : facP d qs = (1 : Int).fmod d
  · rw [if_pos (same.mpr e), if_pos e]
  · rw [if_neg (fun z => e (same.mp z)), if_neg e, if_pos]
    rw [List.all_eq_true]
    unfold rpL
    intro z hz
    obtain ⟨j, _, rfl⟩ := List.mem_map.mp hz
    unfold multC
    have : (j : Int).fmod d = 0 ↔ (mkAll qs (j : Int)).fmod d = 0 := by
      rw [fmod0_iff hd, fmod0_iff hd]
      obtain ⟨c2, h4⟩ := h1 (j : Int)
      obtain ⟨c3, h5⟩ := h2
      constructor
      · rintro ⟨u, hu⟩
        exact ⟨c2 + facP d qs * u, by grind⟩
      · rintro ⟨u, hu⟩
        exact ⟨wide qs * u - wide qs * c2 - c3 * (j : Int), by grind⟩
    simp only [beq_iff_eq, decide_eq_decide]
    exact this
def prtD (z : Prt) : PyData := .list [.int z.1, .int z.2.1, .int z.2.2]
theorem Pls.dp {N : Addr → Prop} {H : Hp} : ∀ {vs : List V} {l : List Prt}, Pls N H vs l → DpAll K H vs (l.map prtD)
  | [], [], _ => .nil
  | _ :: _, _ :: _, ⟨⟨q, h1, _, h2, _⟩, h3⟩ => h1 ▸ .cons (.lst (SqL.of h2) (.cons (.int _) (.cons (.int _) (.cons (.int _) .nil)))) h3.dp
  | [], _ :: _, h => h.elim
  | _ :: _, [], h => h.elim
theorem lay_prt (z : Prt) : PyData.canLay0 (prtD z) = true ∧ PyData.depth (prtD z) ≤ 2 := ⟨by simp [prtD, PyData.canLay0, PyData.canLayAll0], by simp [prtD, PyData.depth, PyData.depthAll]⟩
theorem shaped_prts (l : List Prt) : SeqAt.shaped (.list (l.map prtD)) = true := (shaped_of (lays_map prtD 2 lay_prt l) (by decide)).1
theorem eqv_prts0 (l : List Prt) : PyData.eqv (.list (l.map prtD)) (.list (([] : List Int).map PyData.int)) = (match l with | [] => true | _ => false) := by
  cases l <;> rfl
def sp_law (K : PySem.W.Frag) : Sp := fun vs H Q _ => ∃ (a : Addr) (ns : List Int), vs = [.ref a] ∧ Scr K H a (ns.map V.int) ∧ ns.length ≤ 63 ∧ ∀ H', Q (.bl true) H'
theorem ok_law (T : Tx P K mg) : FnOk P w K mg base CX0 lv_law T.a_law T.d_law ["_law_script"] (sp_law K) := by
  refine T.F_law.ok sc_law (fun vs H Q E h => ?_) (fun cdv A outer s H vs Q E hr h => ?_)
  · obtain ⟨a, ns, rfl, _⟩ := h
    rfl
  · obtain ⟨a, ns, rfl, hS, hlen, k⟩ := h
    refine ⟨_, (Evl.pss_cut (ps_set (i := 1) sc_law.nd rfl (Or.inl rfl) (pe_lst (pa_cons (pv 0) (pa_cons pe_int (pa_cons pe_int (pa_cons pe_int pa_nil))))))
      (Evl.pss_cut (ps_asg (pe_tup (pa_cons (pe_op op_add pe_int (pe_call (ok__law_taken T) (hr.mono (by decide)) rfl T.g__law_taken T.F__law_taken.kp T.b__law_taken .nil pass0 (pa_cons (pv 1) (pa_cons pe_int pa_nil)))) (pa_cons (pe_lst pa_nil) (pa_cons pe_int pa_nil)))) (pg_tup rfl (pgs_cons (pg_name (i := 2) sc_law.nd rfl (Or.inr rfl)) (pgs_cons (pg_name (i := 3) sc_law.nd rfl (Or.inl rfl)) (pgs_cons (pg_name (i := 4) sc_law.nd rfl (Or.inl rfl)) pgs_nil)))))
      (Evl.pss_cut (ps_for PassesOwn.never rfl (pi_range1 (by rfl) T.n_range (pa_cons (pe_op op_add pe_int (pe_call (ok__law_taken T) (hr.mono (by decide)) rfl T.g__law_taken T.F__law_taken.kp T.b__law_taken .nil pass0 (pa_cons (pv 1) (pa_cons pe_int pa_nil)))) pa_nil)) (pg_name (i := 5) sc_law.nd rfl (Or.inl rfl)) (Evl.pss_cut (ps_set (i := 6) sc_law.nd rfl (Or.inr rfl) (pe_op op_add pe_int (pe_call (ok__law_taken T) (hr.mono (by decide)) rfl T.g__law_taken T.F__law_taken.kp T.b__law_taken .nil pass0 (pa_cons (pv 1) (pa_cons pe_int pa_nil)))))
      (Evl.pss_cut (ps_setLc (i := 7) (own := [("_law_times", 13)]) (g := gName 13) rfl sc_law.nd rfl rfl (sw_true rfl rfl rfl (by decide +kernel)) (pi_range1 (by rfl) T.n_range (pa_cons (pv 2) pa_nil)) (blkOk_by (own := [("_law_times", 13)]) (N := ["_law_script", "_law_line", "_law_d", "_law_told", "_law_product", "_law_k", "_law_base", "_law_good", "_law_due", "_law_turn", "_law_n", "_law_later", "_law_one", "_law_times"]) (sc := defScope s_law) (by decide +kernel)) (fun _ _ _ _ _ => pg_name (i := 13) sc_law.nd rfl (Or.inl rfl)) (fun _ _ _ _ _ => pts_one (pt_cmpR op_eq (pe_op op_modN (pe_op op_mul (pv 13) (pv 6)) (pv 2)) (pe_op op_modN pe_int (pv 2)) (nomark _))) (fun _ _ _ _ _ => (pv 13)))
      (pss_one (ps_if (PW.pt (pw_and (pt_cmpR (op_neD hr.units) (pv 7) (pe_lst pa_nil) (nomark _)) (pw_and1 (pt_cmpR op_lt (pe_callB call_len_seq (by rfl) T.n_len (by decide +kernel) (pa_cons (pv 3) pa_nil)) pe_int (nomark _))))) (pss_cons (ps_expr (pe_bm PySem.F.plainAttrs_list PySem.F.slot_list_append PySem.F.type_list_append mt_append (pv 3) (pa_cons (pe_lst (pa_cons (pv 6) (pa_cons pe_int (pa_cons (pe_op op_sub (pe_ix ix_list (pv 7) pe_int (fun _ _ => rfl)) (pe_op op_mul (pv 2) (pe_call (ok__law_taken T) (hr.mono (by decide)) rfl T.g__law_taken T.F__law_taken.kp T.b__law_taken .nil pass0 (pa_cons (pv 1) (pa_cons pe_int pa_nil))))) pa_nil)))) pa_nil)))
      (pss_one (ps_set (i := 4) sc_law.nd rfl (Or.inl rfl) (pe_op op_modN (pe_op op_mul (pv 4) (pe_call (ok_factor T) (hr.mono (by decide)) rfl T.g_factor T.F_factor.kp T.b_factor .nil pass0 (pa_cons (pe_make T.mk_Trick (ok_Trick___init__ T) (hr.mono (by decide)) rfl T.g_Trick T.b_Trick___init__ .nil pass0 (pa_cons (pv 6) (pa_cons pe_int (pa_cons (pe_ix ix_list (pe_ix ix_list (pv 3) (pe_un un_neg pe_int) (fun _ _ => rfl)) pe_int (fun _ _ => rfl)) pa_nil)))) (pa_cons (pv 2) pa_nil)))) (pv 2))))) pss_nil)))))
      (Evl.pss_cut (ps_if (pt_cmpR (op_eqD hr.units) (pv 3) (pe_lst pa_nil) (nomark _)) (pss_one (ps_ret pe_bl)) pss_nil)
      (Evl.pss_cut (ps_set (i := 8) sc_law.nd rfl (Or.inl rfl) (pe_ifExp (pt_cmpR op_eq (pv 4) (pe_op op_modN pe_int (pv 2)) (nomark _)) pe_str pe_str))
      (Evl.pss_cut (ps_if (pt_cmpR op_ne (pe_call (ok_chain_tells T) (hr.mono (by decide)) rfl T.g_chain_tells T.F_chain_tells.kp T.b_chain_tells .nil passL (pa_cons (pe_call (ok__law_tricks T) (hr.mono (by decide)) rfl T.g__law_tricks T.F__law_tricks.kp T.b__law_tricks .nil pass0 (pa_cons (pv 3) pa_nil)) (pa_cons (pv 2) pa_nil))) (pv 8) (nomark _)) (pss_one (ps_ret pe_bl)) pss_nil)
      (pss_cons (ps_for PassesOwn.never rfl (pi_range1 (by rfl) T.n_range (pa_cons pe_int pa_nil)) (pg_name (i := 9) sc_law.nd rfl (Or.inl rfl)) (pss_cons (ps_set (i := 10) sc_law.nd rfl (Or.inl rfl) (pe_call (ok__law_number T) (hr.mono (by decide)) rfl T.g__law_number T.F__law_number.kp T.b__law_number .nil pass0 (pa_cons (pv 1) pa_nil)))
      (Evl.pss_cut (ps_set (i := 11) sc_law.nd rfl (Or.inl rfl) (pv 10))
      (Evl.pss_cut (ps_for PassesOwn.never rfl (pi_list (pv 3)) (pg_name (i := 12) sc_law.nd rfl (Or.inl rfl)) (pss_one (ps_set (i := 11) sc_law.nd rfl (Or.inl rfl) (pe_call (ok__law_behind T) (hr.mono (by decide)) rfl T.g__law_behind T.F__law_behind.kp T.b__law_behind .nil pass0 (pa_cons (pv 12) (pa_cons (pv 11) pa_nil))))))
      (pss_one (ps_if (pt_cmpR op_ne (pe_op op_modN (pv 11) (pv 2)) (pe_op op_modN (pe_op op_mul (pv 4) (pv 10)) (pv 2)) (nomark _)) (pss_one (ps_ret pe_bl)) pss_nil))))))
      (pss_one (ps_ret pe_bl))))))))), ?_⟩
    refine ⟨fun σ H1 => ∃ r, RowAt K H1 r a ns ∧ σ = [some (.ref a), some (.ref r), none, none, none, none, none, none, none, none, none, none, none, none], ?_, ?_⟩
    · exact ⟨_, rfl, by show 4 ≤ sizeLine; decide, fun r hr0 => ⟨r, RowAt.start hr0 hS hlen (by decide) (by decide), rfl⟩⟩
    clear hS
    rintro σ H1 ⟨r, R1, rfl⟩
    -- the divisor
    refine ⟨fun σ H2 => ∃ (d : Int) (F : Addr), 1 ≤ d ∧ d ≤ 30 ∧ F ≠ r ∧ H2 F = some (.lst []) ∧ RowAt K H2 r a ns ∧ σ = [some (.ref a), some (.ref r), some (.int d), some (.ref F), some (.int 1), none, none, none, none, none, none, none, none, none], ?_, ?_⟩
    · refine ⟨_, rfl, r, a, ns, _, rfl, by decide, by decide, R1, fun v H2 v0 v1 R2 B2 => ?_⟩
      refine ⟨_, _, rfl, rfl, by show 0 ≤ sizeLine; decide, fun F hF => ?_⟩
      have R3 := R2.new (o := .lst []) hF
      refine ⟨by show 3 ≤ sizeLine; decide, fun t ht => ⟨t, _, rfl, SqT.of upd_same, rfl, _, _, rfl, _, _, rfl, _, _, rfl, rfl, 1 + v, F, by omega, by omega, R2.ne hF, same_upd ht _ _ upd_same, R3.new ht, rfl⟩⟩
    clear R1
    rintro σ H2 ⟨d, F, d1, d2, nFr, hF, R2, rfl⟩
    have nd : d ≠ 0 := by omega
    -- good tricks
    refine ⟨fun σ H3 => ∃ (ys : List V) (qs : List Prt) (x5 x6 x7 x13 : Option V), ys.length ≤ 3 ∧ H3 F = some (.lst ys) ∧ Pls (fun p => p ≠ r ∧ p ≠ F) H3 ys qs ∧ gdAll d qs ∧ wide qs ≤ 5 ^ ys.length ∧ RowAt K H3 r a ns ∧ σ = [some (.ref a), some (.ref r), some (.int d), some (.ref F), some (.int (facP d qs)), x5, x6, x7, none, none, none, none, none, x13], ?_, ?_⟩
    · refine ⟨_, rfl, r, a, ns, _, rfl, by decide, by decide, R2, fun v H3 v0 v1 R3 B3 => ?_⟩
      refine ⟨_, _, rfl, rfl, 1 + v, rfl, by omega, by omega, ?_⟩
      refine for_range (lo := 0) (n := (1 + v).toNat) (fun i σ H3 => ∃ (ys : List V) (qs : List Prt) (x5 x6 x7 x13 : Option V), ys.length ≤ 3 ∧ H3 F = some (.lst ys) ∧ Pls (fun p => p ≠ r ∧ p ≠ F) H3 ys qs ∧ gdAll d qs ∧ wide qs ≤ 5 ^ ys.length ∧ RowAt K H3 r a ns ∧ σ = [some (.ref a), some (.ref r), some (.int d), some (.ref F), some (.int (facP d qs)), x5, x6, x7, none, none, none, none, none, x13])
        ⟨[], [], none, none, none, none, by decide, B3 _ _ hF nFr, trivial, fun _ h => (nomatch h), by decide, R3, rfl⟩ ?_ (fun σ H4 h => h)
      clear hF R2 R3 B3
      rintro i σ H4 hi ⟨ys, qs, x5, x6, x7, x13, ly, hF, hP, hg, hw, R4, rfl⟩
      refine ⟨fun σ H5 => ∃ b : Int, 2 ≤ b ∧ b ≤ 5 ∧ H5 F = some (.lst ys) ∧ Pls (fun p => p ≠ r ∧ p ≠ F) H5 ys qs ∧ RowAt K H5 r a ns ∧ σ = [some (.ref a), some (.ref r), some (.int d), some (.ref F), some (.int (facP d qs)), some (.int (0 + (i : Int))), some (.int b), x7, none, none, none, none, none, x13], ?_, ?_⟩
      · refine ⟨_, rfl, r, a, ns, _, rfl, by decide, by decide, R4, fun u H5 u0 u1 R5 B5 => ⟨_, _, rfl, rfl, 2 + u, by omega, by omega, B5 _ _ hF nFr, hP.but (fun _ n => n.1) B5, R5, rfl⟩⟩
      clear hF hP R4
      rintro σ H5 ⟨b, b1, b2, hF, hP, R5, rfl⟩
      generalize some (V.int (0 + (i : Int))) = x5
      -- good multipliers
      refine ⟨fun σ H6 => ∃ (G : Addr) (gs : List Int) (x13 : Option V), G ≠ r ∧ G ≠ F ∧ gs.length ≤ 30 ∧ H6 G = some (.lst (gs.map V.int)) ∧ (∀ z ∈ gs, 0 ≤ z ∧ z < d ∧ (z * b).fmod d = (1 : Int).fmod d) ∧ H6 F = some (.lst ys) ∧ Pls (fun p => p ≠ r ∧ p ≠ F) H6 ys qs ∧ RowAt K H6 r a ns ∧ σ = [some (.ref a), some (.ref r), some (.int d), some (.ref F), some (.int (facP d qs)), x5, some (.int b), some (.ref G), none, none, none, none, none, x13], ?_, ?_⟩
      · refine ⟨_, rfl, d, rfl, by omega, by omega, fun G hG => ?_⟩
        refine lc_range (lo := 0) (n := d.toNat) (fun i H6 => Same H5 H6 ∧ ∃ gs : List Int, gs.length ≤ i ∧ (∀ z ∈ gs, 0 ≤ z ∧ z < d ∧ (z * b).fmod d = (1 : Int).fmod d) ∧ H6 G = some (.lst (gs.map V.int))) ⟨same_upd hG, [], Nat.le_refl _, (fun _ z => nomatch z), upd_same⟩ ?_ ?_
        · rintro j H6 hj ⟨S6, gs, lg, wg, hG6⟩
          have ej : (0 : Int) + (j : Int) = (j : Int) := Int.zero_add _
          rw [ej]
          refine ⟨rfl, _, rfl, _, rfl, _, _, rfl, rfl, .inr ⟨by omega, by omega⟩, _, rfl, _, _, rfl, rfl, nd, _, rfl, _, _, rfl, rfl, nd, rfl, _, rfl, ?_⟩
          rw [dec_i]
          refine ite2 (fun g => ?_) (fun g => ?_)
          · have g1 : ((j : Int) * b).fmod d = (1 : Int).fmod d := of_decide_eq_true g
            refine ⟨_, rfl, _, hG6, by rw [List.length_map]; exact small1000 (by omega), fun c o e => ?_, gs ++ [(j : Int)], by simp; omega, fun z hz => ?_, by rw [upd_same, List.map_append]; rfl⟩
            · rw [upd_ne (ne_of_none e hG)]
              exact S6 _ _ e
            · rcases List.mem_append.mp hz with hz | hz
              · exact wg z hz
              · rw [List.mem_singleton.mp hz]
                exact ⟨by omega, by omega, g1⟩
          · exact ⟨S6, gs, by omega, wg, hG6⟩
        · rintro H6 ⟨S6, gs, lg, wg, hG6⟩
          exact ⟨G, gs, _, R5.ne hG, (ne_of_none hF hG).symm, by omega, hG6, wg, S6 _ _ hF, hP.same S6, R5.same S6, rfl⟩
      clear hF hP R5 x13
      rintro σ H6 ⟨G, gs, x13, nGr, nGF, lg, hG, wg, hF, hP, R6, rfl⟩
      refine ⟨_, rfl, by show 0 ≤ sizeLine; decide, fun z hz => ?_⟩
      have Sz := same_upd (o := .lst []) hz
      refine ⟨_, _, dp_ints (SqL.of (Sz _ _ hG)), dp_ints (ns := []) (SqL.of upd_same), shaped_lints _, shaped_lints _, _, rfl, ?_⟩
      rw [eqv_ints]
      replace hG := Sz _ _ hG
      replace hF := Sz _ _ hF
      replace hP := hP.same Sz
      replace R6 := R6.same Sz
      clear Sz hz
      generalize upd H6 z (.lst []) = H7 at *
      by_cases eg : gs = []
      · rw [decide_eq_true eg]
        exact iteF (iteF ⟨ys, qs, _, _, _, _, ly, hF, hP, hg, hw, R6, rfl⟩)
      · rw [decide_eq_false eg]
        refine iteT ⟨_, rfl, F, _, rfl, .inl (SqL.of hF), _, _, rfl, rfl, _, rfl, ?_⟩
        refine ite2 (fun g3 => ?_) (fun g3 => ?_)
        · have l3 : ys.length < 3 := by
            have : (ys.length : Int) < 3 := of_decide_eq_true g3
            omega
          obtain ⟨g0, hg0⟩ : ∃ g0, gs[0]? = some g0 := by
            cases gs with
            | nil => exact absurd rfl eg
            | cons x xs => exact ⟨x, rfl⟩
          obtain ⟨z0, z1, z2⟩ := wg g0 (List.mem_of_getElem? hg0)
          refine ⟨_, rfl, .inl ⟨rfl, _, SqL.of hF⟩, _, rfl, _, rfl, G, _, _, _, rfl, rfl, SqL.of hG, at_of (j := 0) rfl (by rw [List.getElem?_map, hg0]; rfl), ?_⟩
          refine ⟨_, rfl, _, rfl, r, a, ns, _, rfl, by decide, by decide, R6, fun u H8 u0 u1 R8 B8 => ?_⟩
          replace hF := B8 _ _ hF nFr
          replace hP := hP.but (fun _ n => n.1) B8
          obtain ⟨mu, hmu⟩ : ∃ mu, mu = g0 - d * u := ⟨_, rfl⟩
          have mub : -30 ≤ mu ∧ mu ≤ 30 := by
            obtain rfl | rfl : u = 0 ∨ u = 1 := by omega
            · omega
            · omega
          have mug : d ∣ mu * blockOf b 1 - 1 := by
            obtain ⟨c, hc⟩ := (fmod_iff d1).mp z2
            rw [show blockOf b 1 = b from rfl, hmu]
            exact ⟨c - u * b, by grind⟩
          refine ⟨_, _, rfl, rfl, .inl ⟨by omega, by omega⟩, _, _, rfl, rfl, by show 3 ≤ sizeLine; decide, fun q hq => ?_⟩
          subst hmu
          have Sq := same_upd (o := .lst [.int b, .int 1, .int (g0 - d * u)]) hq
          have nqr := R8.ne hq
          have nqF : q ≠ F := (ne_of_none hF hq).symm
          refine ⟨F, _, _, rfl, rfl, Sq _ _ hF, small1000 (by omega), ?_⟩
          have BF : But F H8 (upd (upd H8 q (.lst [.int b, .int 1, .int (g0 - d * u)])) F (.lst (ys ++ [.ref q]))) := (Same.but Sq).trans But.put
          have R9 := (R8.same Sq).put (o := .lst (ys ++ [.ref q])) (Sq _ _ hF) nFr
          have hF9 : upd (upd H8 q (.lst [.int b, .int 1, .int (g0 - d * u)])) F (.lst (ys ++ [.ref q])) F = some (.lst (ys ++ [.ref q])) := upd_same
          have hq9 : upd (upd H8 q (.lst [.int b, .int 1, .int (g0 - d * u)])) F (.lst (ys ++ [.ref q])) q = some (.lst [.int b, .int 1, .int (g0 - d * u)]) := by rw [upd_ne nqF, upd_same]
          have hP9 := (hP.of (N' := fun p => p ≠ r ∧ p ≠ F) (H' := upd (upd H8 q (.lst [.int b, .int 1, .int (g0 - d * u)])) F (.lst (ys ++ [.ref q]))) fun p o n e => ⟨n, BF _ _ e n.2⟩).snoc (z := (b, 1, (g0 - d * u))) ⟨nqr, nqF⟩ hq9 ⟨b1, (show b ≤ 16 by omega), (show (1 : Int) ≤ 1 by decide), (show (1 : Int) ≤ 2 by decide), (show -100 ≤ g0 - d * u by omega), (show g0 - d * u ≤ 100 by omega)⟩
          generalize upd (upd H8 q (.lst [.int b, .int 1, .int (g0 - d * u)])) F (.lst (ys ++ [.ref q])) = H9 at *
          refine ⟨_, rfl, _, rfl, _, rfl, _, rfl, F, _, _, _, rfl, rfl, SqL.of hF9, atI_last _ _, q, _, _, _, rfl, rfl, SqL.of hq9, at_of (j := 2) rfl rfl, ?_⟩
          refine fun p dx np nx nn => mk_trick np nx b1 (by omega) (by decide) (by decide) (by omega) (by omega) fun H10 hT S10 => ?_
          refine ⟨_, rfl, p, b, 1, (g0 - d * u), d, rfl, hT, d1, by omega, ?_⟩
          rw [show facV b 1 (g0 - d * u) d = .int ((g0 - d * u).fmod d) from if_pos (decide_eq_true mug)]
          have mf := fmod_bd (g0 - d * u) (m := d) (by omega)
          refine ⟨_, _, rfl, rfl, .inr ⟨by omega, by omega⟩, _, rfl, _, _, rfl, rfl, nd, ?_⟩
          refine ⟨ys ++ [.ref q], qs ++ [(b, 1, (g0 - d * u))], _, _, _, _, by simp; omega, S10 _ _ hF9, hP9.same S10, fun z hz => ?_, ?_, R9.same S10, by rw [facP_snoc]; rfl⟩
          · rcases List.mem_append.mp hz with hz | hz
            · exact hg z hz
            · rw [List.mem_singleton.mp hz]
              exact mug
          · rw [wide_snoc, show (ys ++ [V.ref q]).length = ys.length + 1 by simp, Int.pow_succ]
            exact Int.mul_le_mul hw (show blockOf b 1 ≤ 5 from b2) (show 0 ≤ blockOf b 1 by show 0 ≤ b; omega) (Int.le_of_lt (Int.pow_pos (by decide)))
        · exact ⟨ys, qs, _, _, _, _, ly, hF, hP, hg, hw, R6, rfl⟩
    clear R2 hF
    rintro σ H3 ⟨ys, qs, x5, x6, x7, x13, ly, hF, hP, hg, hw, R3, rfl⟩
    have hbs := hP.blks
    have w1 := wide_pos hbs
    -- none at all
    refine ⟨fun σ H4 => ys ≠ [] ∧ Same H3 H4 ∧ σ = [some (.ref a), some (.ref r), some (.int d), some (.ref F), some (.int (facP d qs)), x5, x6, x7, none, none, none, none, none, x13], ?_, ?_⟩
    · refine ⟨_, rfl, by show 0 ≤ sizeLine; decide, fun z hz => ?_⟩
      have Sz := same_upd (o := .lst []) hz
      refine ⟨_, _, .lst (SqL.of (Sz _ _ hF)) (hP.same Sz).dp, dp_ints (ns := []) (SqL.of upd_same), shaped_prts _, shaped_lints _, _, rfl, ?_⟩
      rw [eqv_prts0]
      cases qs with
      | nil => exact iteT (k _)
      | cons z zs => exact iteF ⟨fun e => (by rw [e] at hP; exact hP), Sz, rfl⟩
    rintro σ H4 ⟨ne, S4, rfl⟩
    replace hF := S4 _ _ hF
    replace hP := hP.same S4
    replace R3 := R3.same S4
    clear S4
    have nq : qs ≠ [] := fun e => ne (List.length_eq_zero_iff.mp (by rw [hP.len, e]; rfl))
    have hw3 : wide qs ≤ 300 := by
      have : (5 : Int) ^ ys.length ≤ 125 := by
        obtain h | h | h | h : ys.length = 0 ∨ ys.length = 1 ∨ ys.length = 2 ∨ ys.length = 3 := by omega
        all_goals rw [h]; decide
      omega
    obtain ⟨fp, fw⟩ := facP_spec d1 qs.length rfl hbs hg
    have ft := facP_tells d1 hbs hg nq
    have fb : 0 ≤ facP d qs ∧ facP d qs < d ∨ facP d qs = 1 := by
      obtain ⟨ps, z, e⟩ : ∃ ps z, qs = ps ++ [z] := ⟨qs.dropLast, qs.getLast nq, (List.dropLast_concat_getLast _).symm⟩
      rw [e, facP_snoc]
      exact .inl (fmod_bd _ (by omega))
    -- what is due
    refine ⟨fun σ H5 => H5 = H4 ∧ σ = [some (.ref a), some (.ref r), some (.int d), some (.ref F), some (.int (facP d qs)), x5, x6, x7, some (.str (wordC (rpL qs d (wide qs * d).toNat))), none, none, none, none, x13], ?_, ?_⟩
    · rw [ft]
      refine ⟨_, rfl, _, rfl, _, _, rfl, rfl, nd, rfl, _, rfl, ?_⟩
      rw [dec_i]
      refine ite2 (fun g => ?_) (fun g => ?_)
      · rw [if_pos (of_decide_eq_true g)]
        exact ⟨rfl, rfl⟩
      · rw [if_neg (fun e => g (decide_eq_true e))]
        exact ⟨rfl, rfl⟩
    rintro σ H5 ⟨rfl, rfl⟩
    have id' : intIn (.int d) 1 30 = true := intIn_of d1 d2
    have nf : ∀ {b : Bool} {G : Prop}, b = true → b = false → G := fun p q => Bool.noConfusion (p.symm.trans q)
    refine ⟨fun σ H6 => Same H5 H6 ∧ σ = [some (.ref a), some (.ref r), some (.int d), some (.ref F), some (.int (facP d qs)), x5, x6, x7, some (.str (wordC (rpL qs d (wide qs * d).toNat))), none, none, none, none, x13], ?_, ?_⟩
    · refine ⟨_, rfl, _, F, ys, qs, rfl, hF, hP, by omega, fun D us H6 S6 hD0 hD hT => ?_⟩
      have ul : 1 ≤ us.length ∧ us.length ≤ 4 := by
        have := List.length_pos_iff.mpr nq
        rw [hT.len]
        have := hP.len
        omega
      refine ⟨_, rfl, _, .int d, rfl, .int d, .inr (.inr ⟨D, us, qs, rfl, .inl hD, ul.1, ul.2, hT, fun z => nf id' z, fun _ z => absurd z (by omega), fun _ _ H7 S7 dd ed H8 S8 => ?_⟩)⟩
      cases ed
      refine ⟨_, rfl, rfl, _, rfl, ?_⟩
      rw [decide_eq_true rfl]
      exact iteF ⟨S6.trans (S7.trans S8), rfl⟩
    rintro σ H6 ⟨S6, rfl⟩
    replace hF := S6 _ _ hF
    replace hP := hP.same S6
    replace R3 := R3.same S6
    clear S6
    generalize some (V.str (wordC (rpL qs d (wide qs * d).toNat))) = x8
    refine ⟨9, rfl, by decide, by decide, ?_⟩
    refine for_range (lo := 0) (n := 9) (fun i σ H7 => ∃ x9 x10 x11 x12 : Option V, RowAt K H7 r a ns ∧ H7 F = some (.lst ys) ∧ Pls (fun p => p ≠ r ∧ p ≠ F) H7 ys qs ∧ σ = [some (.ref a), some (.ref r), some (.int d), some (.ref F), some (.int (facP d qs)), x5, x6, x7, x8, x9, x10, x11, x12, x13]) ⟨none, none, none, none, R3, hF, hP, rfl⟩ ?_ ?_
    · clear R3 hF hP
      rintro i σ H7 hi ⟨x9, x10, x11, x12, R7, hF, hP, rfl⟩
      refine ⟨_, rfl, r, a, ns, rfl, R7, fun n H8 n0 n1 R8 B8 => ?_⟩
      replace hF := B8 _ _ hF nFr
      replace hP := hP.but (fun _ n => n.1) B8
      clear R7 B8
      refine ⟨fun σ H9 => H9 = H8 ∧ σ = [some (.ref a), some (.ref r), some (.int d), some (.ref F), some (.int (facP d qs)), x5, x6, x7, x8, some (.int (0 + (i : Int))), some (.int n), some (.int n), x12, x13], ⟨_, rfl, rfl, rfl⟩, ?_⟩
      rintro σ H9 ⟨rfl, rfl⟩
      generalize some (V.int (0 + (i : Int))) = x9
      refine ⟨fun σ H10 => ∃ x12 : Option V, H10 = H9 ∧ σ = [some (.ref a), some (.ref r), some (.int d), some (.ref F), some (.int (facP d qs)), x5, x6, x7, x8, x9, some (.int n), some (.int (mkAll qs n)), x12, x13], ?_, ?_⟩
      · refine ⟨_, rfl, F, rfl, ⟨_, SqL.of hF⟩, ?_⟩
        refine for_it walk_list (fun j σ H10 => ∃ x12 : Option V, H10 = H9 ∧ σ = [some (.ref a), some (.ref r), some (.int d), some (.ref F), some (.int (facP d qs)), x5, x6, x7, x8, x9, some (.int n), some (.int (mkAll (qs.take j) n)), x12, x13]) ⟨x12, rfl, rfl⟩ (fun j σ H10 _ ⟨_, e, _⟩ => e ▸ SqL.of hF) ?_ ?_
        · rintro j y σ H10 H11 hj ⟨x12, rfl, rfl⟩ ⟨rfl, hy⟩
          obtain ⟨p, z, rfl, hz, _, hp, b1, b2, t1, t2, m1, m2⟩ := hP.at hy
          refine ⟨_, rfl, _, rfl, p, z.1, z.2.1, z.2.2, _, rfl, SqL.of hp, b1, b2, m1, m2, some (.ref p), rfl, ?_⟩
          rw [behind_made (block_bd b1 b2).1, take_snoc hz, mkAll_snoc]
          rfl
        · rintro σ H10 ⟨x12, rfl, rfl⟩
          rw [hP.len, List.take_length]
          exact ⟨x12, rfl, rfl⟩
      clear x12
      rintro σ H10 ⟨x12, rfl, rfl⟩
      refine ⟨_, rfl, _, rfl, _, _, rfl, rfl, nd, _, rfl, _, rfl, _, _, rfl, rfl, .inl ⟨by omega, by omega⟩, _, rfl, _, _, rfl, rfl, nd, rfl, _, rfl, ?_⟩
      rw [dec_i, decide_eq_true ((fmod_iff d1).mpr (fp n))]
      exact iteF ⟨_, _, _, _, R8, hF, hP, rfl⟩
    · rintro σ H7 _
      exact k _

end
/-! ### the end -/
theorem all_mk {l : PySem.W.OpenLaw} {w : World} {K : PySem.W.Frag} {h : Heap} {mg : Str → Option Value} {fa : Addr} (X : K.In h) (G : h.Ns mainGlobals mg) (hfa : mg "law" = some (.ref fa))
    {C_TrickError : Addr}
    {C_BadBase : Addr}
    {C_BadTake : Addr}
    {C_BadTimes : Addr}
    {C_BadTrick : Addr}
    {C_BadDivisor : Addr}
    {C_BadTricks : Addr}
    {C_TooWide : Addr}
    {tk_LEAST_BASE : Tok}
    {tk_GREATEST_BASE : Tok}
    {tk_GREATEST_TAKE : Tok}
    {tk_GREATEST_DIVISOR : Tok}
    {tk_GREATEST_TIMES : Tok}
    {tk_MOST_TRICKS : Tok}
    {tk_GREATEST_CHAIN_DIVISOR : Tok}
    {tk_GREATEST_PRODUCT : Tok}
    {a_is_integer : Addr} {od_is_integer an_is_integer : Option Addr} {sl_is_integer : Array (Option Value)} {oc_is_integer kV_is_integer dc_is_integer pm_is_integer cd_is_integer ct_is_integer : Value}
    {a_is_list_or_tuple : Addr} {od_is_list_or_tuple an_is_list_or_tuple : Option Addr} {sl_is_list_or_tuple : Array (Option Value)} {oc_is_list_or_tuple kV_is_list_or_tuple dc_is_list_or_tuple pm_is_list_or_tuple cd_is_list_or_tuple ct_is_list_or_tuple : Value}
    {a_check_base : Addr} {od_check_base an_check_base : Option Addr} {sl_check_base : Array (Option Value)} {oc_check_base kV_check_base dc_check_base pm_check_base cd_check_base ct_check_base : Value}
    {a_check_take : Addr} {od_check_take an_check_take : Option Addr} {sl_check_take : Array (Option Value)} {oc_check_take kV_check_take dc_check_take pm_check_take cd_check_take ct_check_take : Value}
    {a_check_divisor dT_check_divisor : Addr} {od_check_divisor an_check_divisor dod_check_divisor : Option Addr} {sl_check_divisor dsl_check_divisor : Array (Option Value)} {oc_check_divisor kV_check_divisor dc_check_divisor pm_check_divisor cd_check_divisor ct_check_divisor doc_check_divisor : Value} {dvs_check_divisor : Array Value} {dn_check_divisor : Nat} {dt0_check_divisor : Tok}
    {a_block_of : Addr} {od_block_of an_block_of : Option Addr} {sl_block_of : Array (Option Value)} {oc_block_of kV_block_of dc_block_of pm_block_of cd_block_of ct_block_of : Value}
    {a_check_trick : Addr} {od_check_trick an_check_trick : Option Addr} {sl_check_trick : Array (Option Value)} {oc_check_trick kV_check_trick dc_check_trick pm_check_trick cd_check_trick ct_check_trick : Value}
    {a_trick_block : Addr} {od_trick_block an_trick_block : Option Addr} {sl_trick_block : Array (Option Value)} {oc_trick_block kV_trick_block dc_trick_block pm_trick_block cd_trick_block ct_trick_block : Value}
    {a_made_of : Addr} {od_made_of an_made_of : Option Addr} {sl_made_of : Array (Option Value)} {oc_made_of kV_made_of dc_made_of pm_made_of cd_made_of ct_made_of : Value}
    {a_made_with : Addr} {od_made_with an_made_with : Option Addr} {sl_made_with : Array (Option Value)} {oc_made_with kV_made_with dc_made_with pm_made_with cd_made_with ct_made_with : Value}
    {a_chain_tells : Addr} {od_chain_tells an_chain_tells : Option Addr} {sl_chain_tells : Array (Option Value)} {oc_chain_tells kV_chain_tells dc_chain_tells pm_chain_tells cd_chain_tells ct_chain_tells : Value}
    {a_check_tricks : Addr} {od_check_tricks an_check_tricks : Option Addr} {sl_check_tricks : Array (Option Value)} {oc_check_tricks kV_check_tricks dc_check_tricks pm_check_tricks cd_check_tricks ct_check_tricks : Value}
    {a_check_chain : Addr} {od_check_chain an_check_chain : Option Addr} {sl_check_chain : Array (Option Value)} {oc_check_chain kV_check_chain dc_check_chain pm_check_chain cd_check_chain ct_check_chain : Value}
    {a_made_of_all : Addr} {od_made_of_all an_made_of_all : Option Addr} {sl_made_of_all : Array (Option Value)} {oc_made_of_all kV_made_of_all dc_made_of_all pm_made_of_all cd_made_of_all ct_made_of_all : Value}
    {a_blocks_product : Addr} {od_blocks_product an_blocks_product : Option Addr} {sl_blocks_product : Array (Option Value)} {oc_blocks_product kV_blocks_product dc_blocks_product pm_blocks_product cd_blocks_product ct_blocks_product : Value}
    {a_rest_pairs : Addr} {od_rest_pairs an_rest_pairs : Option Addr} {sl_rest_pairs : Array (Option Value)} {oc_rest_pairs kV_rest_pairs dc_rest_pairs pm_rest_pairs cd_rest_pairs ct_rest_pairs : Value}
    {a_factor : Addr} {od_factor an_factor : Option Addr} {sl_factor : Array (Option Value)} {oc_factor kV_factor dc_factor pm_factor cd_factor ct_factor : Value}
    {a_tells_multiples : Addr} {od_tells_multiples an_tells_multiples : Option Addr} {sl_tells_multiples : Array (Option Value)} {oc_tells_multiples kV_tells_multiples dc_tells_multiples pm_tells_multiples cd_tells_multiples ct_tells_multiples : Value}
    {a__law_taken : Addr} {od__law_taken an__law_taken : Option Addr} {sl__law_taken : Array (Option Value)} {oc__law_taken kV__law_taken dc__law_taken pm__law_taken cd__law_taken ct__law_taken : Value}
    {a__law_behind : Addr} {od__law_behind an__law_behind : Option Addr} {sl__law_behind : Array (Option Value)} {oc__law_behind kV__law_behind dc__law_behind pm__law_behind cd__law_behind ct__law_behind : Value}
    {a__law_number : Addr} {od__law_number an__law_number : Option Addr} {sl__law_number : Array (Option Value)} {oc__law_number kV__law_number dc__law_number pm__law_number cd__law_number ct__law_number : Value}
    {a__law_tricks : Addr} {od__law_tricks an__law_tricks : Option Addr} {sl__law_tricks : Array (Option Value)} {oc__law_tricks kV__law_tricks dc__law_tricks pm__law_tricks cd__law_tricks ct__law_tricks : Value}
    {a_law : Addr} {od_law an_law : Option Addr} {sl_law : Array (Option Value)} {oc_law kV_law dc_law pm_law cd_law ct_law : Value}
    {C_Trick : Addr}
    {a_Trick___init__ : Addr} {od_Trick___init__ an_Trick___init__ : Option Addr} {sl_Trick___init__ : Array (Option Value)} {oc_Trick___init__ kV_Trick___init__ dc_Trick___init__ pm_Trick___init__ cd_Trick___init__ ct_Trick___init__ : Value}
    {pr_Trick_base : Addr} {rs_Trick_base : List Value}
    {a_Trick_base : Addr} {od_Trick_base an_Trick_base : Option Addr} {sl_Trick_base : Array (Option Value)} {oc_Trick_base kV_Trick_base dc_Trick_base pm_Trick_base cd_Trick_base ct_Trick_base : Value}
    {pr_Trick_take : Addr} {rs_Trick_take : List Value}
    {a_Trick_take : Addr} {od_Trick_take an_Trick_take : Option Addr} {sl_Trick_take : Array (Option Value)} {oc_Trick_take kV_Trick_take dc_Trick_take pm_Trick_take cd_Trick_take ct_Trick_take : Value}
    {pr_Trick_times : Addr} {rs_Trick_times : List Value}
    {a_Trick_times : Addr} {od_Trick_times an_Trick_times : Option Addr} {sl_Trick_times : Array (Option Value)} {oc_Trick_times kV_Trick_times dc_Trick_times pm_Trick_times cd_Trick_times ct_Trick_times : Value}
    {a_Trick___eq__ : Addr} {od_Trick___eq__ an_Trick___eq__ : Option Addr} {sl_Trick___eq__ : Array (Option Value)} {oc_Trick___eq__ kV_Trick___eq__ dc_Trick___eq__ pm_Trick___eq__ cd_Trick___eq__ ct_Trick___eq__ : Value}
    {a_BadTricks___init__ cda_BadTricks___init__ cc_BadTricks___init__ N_BadTricks___init__ : Addr} {od_BadTricks___init__ an_BadTricks___init__ cdd_BadTricks___init__ cld_BadTricks___init__ dd_BadTricks___init__ : Option Addr} {sl_BadTricks___init__ ccs_BadTricks___init__ csl_BadTricks___init__ : Array (Option Value)} {oc_BadTricks___init__ dc_BadTricks___init__ pm_BadTricks___init__ ct_BadTricks___init__ ccl_BadTricks___init__ cl_BadTricks___init__ : Value} {vs_BadTricks___init__ : Array Value} {file_BadTricks___init__ nm_BadTricks___init__ qn_BadTricks___init__ : Str} {tf_BadTricks___init__ : Tok} {bs_BadTricks___init__ bm_BadTricks___init__ sub_BadTricks___init__ : List Value} {sn_BadTricks___init__ : List Str} {ab_BadTricks___init__ : Bool} {col_BadTricks___init__ : Option Bool} {k0_BadTricks___init__ k1_BadTricks___init__ k2_BadTricks___init__ k3_BadTricks___init__ k5_BadTricks___init__ : Option Value}
    {a_TooWide___init__ cda_TooWide___init__ cc_TooWide___init__ N_TooWide___init__ : Addr} {od_TooWide___init__ an_TooWide___init__ cdd_TooWide___init__ cld_TooWide___init__ dd_TooWide___init__ : Option Addr} {sl_TooWide___init__ ccs_TooWide___init__ csl_TooWide___init__ : Array (Option Value)} {oc_TooWide___init__ dc_TooWide___init__ pm_TooWide___init__ ct_TooWide___init__ ccl_TooWide___init__ cl_TooWide___init__ : Value} {vs_TooWide___init__ : Array Value} {file_TooWide___init__ nm_TooWide___init__ qn_TooWide___init__ : Str} {tf_TooWide___init__ : Tok} {bs_TooWide___init__ bm_TooWide___init__ sub_TooWide___init__ : List Value} {sn_TooWide___init__ : List Str} {ab_TooWide___init__ : Bool} {col_TooWide___init__ : Option Bool} {k0_TooWide___init__ k1_TooWide___init__ k2_TooWide___init__ k3_TooWide___init__ k5_TooWide___init__ : Option Value}
    (gx_TrickError : PySem.W.nsIn K mainGlobals "TrickError" = some (some (.ref C_TrickError)))
    (x_TrickError : PySem.W.excIn K C_TrickError [.type "ValueError", .type "Exception", .type "BaseException", .type "object"] "ValueError.__new__" = true)
    (k_TrickError : PySem.W.keepIn K (.ref C_TrickError) = true)
    (s_TrickError : PySem.W.subIn K (.ref C_TrickError) (.type "BaseException") = some true)
    (t_TrickError : PySem.W.typeIn K (.ref C_TrickError) = some (.type "type"))
    (gx_BadBase : PySem.W.nsIn K mainGlobals "BadBase" = some (some (.ref C_BadBase)))
    (x_BadBase : PySem.W.excIn K C_BadBase [.type "ValueError", .type "Exception", .type "BaseException", .type "object"] "ValueError.__new__" = true)
    (k_BadBase : PySem.W.keepIn K (.ref C_BadBase) = true)
    (s_BadBase : PySem.W.subIn K (.ref C_BadBase) (.type "BaseException") = some true)
    (t_BadBase : PySem.W.typeIn K (.ref C_BadBase) = some (.type "type"))
    (gx_BadTake : PySem.W.nsIn K mainGlobals "BadTake" = some (some (.ref C_BadTake)))
    (x_BadTake : PySem.W.excIn K C_BadTake [.type "ValueError", .type "Exception", .type "BaseException", .type "object"] "ValueError.__new__" = true)
    (k_BadTake : PySem.W.keepIn K (.ref C_BadTake) = true)
    (s_BadTake : PySem.W.subIn K (.ref C_BadTake) (.type "BaseException") = some true)
    (t_BadTake : PySem.W.typeIn K (.ref C_BadTake) = some (.type "type"))
    (gx_BadTimes : PySem.W.nsIn K mainGlobals "BadTimes" = some (some (.ref C_BadTimes)))
    (x_BadTimes : PySem.W.excIn K C_BadTimes [.type "ValueError", .type "Exception", .type "BaseException", .type "object"] "ValueError.__new__" = true)
    (k_BadTimes : PySem.W.keepIn K (.ref C_BadTimes) = true)
    (s_BadTimes : PySem.W.subIn K (.ref C_BadTimes) (.type "BaseException") = some true)
    (t_BadTimes : PySem.W.typeIn K (.ref C_BadTimes) = some (.type "type"))
    (gx_BadTrick : PySem.W.nsIn K mainGlobals "BadTrick" = some (some (.ref C_BadTrick)))
    (x_BadTrick : PySem.W.excIn K C_BadTrick [.type "ValueError", .type "Exception", .type "BaseException", .type "object"] "ValueError.__new__" = true)
    (k_BadTrick : PySem.W.keepIn K (.ref C_BadTrick) = true)
    (s_BadTrick : PySem.W.subIn K (.ref C_BadTrick) (.type "BaseException") = some true)
    (t_BadTrick : PySem.W.typeIn K (.ref C_BadTrick) = some (.type "type"))
    (gx_BadDivisor : PySem.W.nsIn K mainGlobals "BadDivisor" = some (some (.ref C_BadDivisor)))
    (x_BadDivisor : PySem.W.excIn K C_BadDivisor [.type "ValueError", .type "Exception", .type "BaseException", .type "object"] "ValueError.__new__" = true)
    (k_BadDivisor : PySem.W.keepIn K (.ref C_BadDivisor) = true)
    (s_BadDivisor : PySem.W.subIn K (.ref C_BadDivisor) (.type "BaseException") = some true)
    (t_BadDivisor : PySem.W.typeIn K (.ref C_BadDivisor) = some (.type "type"))
    (gx_BadTricks : PySem.W.nsIn K mainGlobals "BadTricks" = some (some (.ref C_BadTricks)))
    (k_BadTricks : PySem.W.keepIn K (.ref C_BadTricks) = true)
    (s_BadTricks : PySem.W.subIn K (.ref C_BadTricks) (.type "BaseException") = some true)
    (t_BadTricks : PySem.W.typeIn K (.ref C_BadTricks) = some (.type "type"))
    (gx_TooWide : PySem.W.nsIn K mainGlobals "TooWide" = some (some (.ref C_TooWide)))
    (k_TooWide : PySem.W.keepIn K (.ref C_TooWide) = true)
    (s_TooWide : PySem.W.subIn K (.ref C_TooWide) (.type "BaseException") = some true)
    (t_TooWide : PySem.W.typeIn K (.ref C_TooWide) = some (.type "type"))
    (cx_LEAST_BASE : PySem.W.nsIn K mainGlobals "LEAST_BASE" = some (some (.int 2 tk_LEAST_BASE)))
    (cx_GREATEST_BASE : PySem.W.nsIn K mainGlobals "GREATEST_BASE" = some (some (.int 16 tk_GREATEST_BASE)))
    (cx_GREATEST_TAKE : PySem.W.nsIn K mainGlobals "GREATEST_TAKE" = some (some (.int 2 tk_GREATEST_TAKE)))
    (cx_GREATEST_DIVISOR : PySem.W.nsIn K mainGlobals "GREATEST_DIVISOR" = some (some (.int 100 tk_GREATEST_DIVISOR)))
    (cx_GREATEST_TIMES : PySem.W.nsIn K mainGlobals "GREATEST_TIMES" = some (some (.int 100 tk_GREATEST_TIMES)))
    (cx_MOST_TRICKS : PySem.W.nsIn K mainGlobals "MOST_TRICKS" = some (some (.int 4 tk_MOST_TRICKS)))
    (cx_GREATEST_CHAIN_DIVISOR : PySem.W.nsIn K mainGlobals "GREATEST_CHAIN_DIVISOR" = some (some (.int 30 tk_GREATEST_CHAIN_DIVISOR)))
    (cx_GREATEST_PRODUCT : PySem.W.nsIn K mainGlobals "GREATEST_PRODUCT" = some (some (.int 300 tk_GREATEST_PRODUCT)))
    (gf_is_integer : PySem.W.nsIn K mainGlobals "is_integer" = some (some (.ref a_is_integer)))
    (l_is_integer : K.lookup a_is_integer = some ⟨oc_is_integer, od_is_integer, .func (PySem.W.fnOf "is_integer" "is_integer" (defArgs s_is_integer) (defBody s_is_integer) (defScope s_is_integer) .none kV_is_integer dc_is_integer pm_is_integer an_is_integer cd_is_integer ct_is_integer), sl_is_integer⟩)
    (c_is_integer : PySem.W.codeIn K cd_is_integer "is_integer" = true)
    (kp_is_integer : PySem.W.keepIn K (.ref a_is_integer) = true)
    (gf_is_list_or_tuple : PySem.W.nsIn K mainGlobals "is_list_or_tuple" = some (some (.ref a_is_list_or_tuple)))
    (l_is_list_or_tuple : K.lookup a_is_list_or_tuple = some ⟨oc_is_list_or_tuple, od_is_list_or_tuple, .func (PySem.W.fnOf "is_list_or_tuple" "is_list_or_tuple" (defArgs s_is_list_or_tuple) (defBody s_is_list_or_tuple) (defScope s_is_list_or_tuple) .none kV_is_list_or_tuple dc_is_list_or_tuple pm_is_list_or_tuple an_is_list_or_tuple cd_is_list_or_tuple ct_is_list_or_tuple), sl_is_list_or_tuple⟩)
    (c_is_list_or_tuple : PySem.W.codeIn K cd_is_list_or_tuple "is_list_or_tuple" = true)
    (kp_is_list_or_tuple : PySem.W.keepIn K (.ref a_is_list_or_tuple) = true)
    (gf_check_base : PySem.W.nsIn K mainGlobals "check_base" = some (some (.ref a_check_base)))
    (l_check_base : K.lookup a_check_base = some ⟨oc_check_base, od_check_base, .func (PySem.W.fnOf "check_base" "check_base" (defArgs s_check_base) (defBody s_check_base) (defScope s_check_base) .none kV_check_base dc_check_base pm_check_base an_check_base cd_check_base ct_check_base), sl_check_base⟩)
    (c_check_base : PySem.W.codeIn K cd_check_base "check_base" = true)
    (kp_check_base : PySem.W.keepIn K (.ref a_check_base) = true)
    (gf_check_take : PySem.W.nsIn K mainGlobals "check_take" = some (some (.ref a_check_take)))
    (l_check_take : K.lookup a_check_take = some ⟨oc_check_take, od_check_take, .func (PySem.W.fnOf "check_take" "check_take" (defArgs s_check_take) (defBody s_check_take) (defScope s_check_take) .none kV_check_take dc_check_take pm_check_take an_check_take cd_check_take ct_check_take), sl_check_take⟩)
    (c_check_take : PySem.W.codeIn K cd_check_take "check_take" = true)
    (kp_check_take : PySem.W.keepIn K (.ref a_check_take) = true)
    (gf_check_divisor : PySem.W.nsIn K mainGlobals "check_divisor" = some (some (.ref a_check_divisor)))
    (l_check_divisor : K.lookup a_check_divisor = some ⟨oc_check_divisor, od_check_divisor, .func (PySem.W.fnOf "check_divisor" "check_divisor" (defArgs s_check_divisor) (defBody s_check_divisor) (defScope s_check_divisor) (.ref dT_check_divisor) kV_check_divisor dc_check_divisor pm_check_divisor an_check_divisor cd_check_divisor ct_check_divisor), sl_check_divisor⟩)
    (c_check_divisor : PySem.W.codeIn K cd_check_divisor "check_divisor" = true)
    (kp_check_divisor : PySem.W.keepIn K (.ref a_check_divisor) = true)
    (ldT_check_divisor : K.lookup dT_check_divisor = some ⟨doc_check_divisor, dod_check_divisor, .seq dvs_check_divisor dn_check_divisor, dsl_check_divisor⟩)
    (rdv_check_divisor : dvs_check_divisor = #[.int 100 dt0_check_divisor])
    (gf_block_of : PySem.W.nsIn K mainGlobals "block_of" = some (some (.ref a_block_of)))
    (l_block_of : K.lookup a_block_of = some ⟨oc_block_of, od_block_of, .func (PySem.W.fnOf "block_of" "block_of" (defArgs s_block_of) (defBody s_block_of) (defScope s_block_of) .none kV_block_of dc_block_of pm_block_of an_block_of cd_block_of ct_block_of), sl_block_of⟩)
    (c_block_of : PySem.W.codeIn K cd_block_of "block_of" = true)
    (kp_block_of : PySem.W.keepIn K (.ref a_block_of) = true)
    (gf_check_trick : PySem.W.nsIn K mainGlobals "check_trick" = some (some (.ref a_check_trick)))
    (l_check_trick : K.lookup a_check_trick = some ⟨oc_check_trick, od_check_trick, .func (PySem.W.fnOf "check_trick" "check_trick" (defArgs s_check_trick) (defBody s_check_trick) (defScope s_check_trick) .none kV_check_trick dc_check_trick pm_check_trick an_check_trick cd_check_trick ct_check_trick), sl_check_trick⟩)
    (c_check_trick : PySem.W.codeIn K cd_check_trick "check_trick" = true)
    (kp_check_trick : PySem.W.keepIn K (.ref a_check_trick) = true)
    (gf_trick_block : PySem.W.nsIn K mainGlobals "trick_block" = some (some (.ref a_trick_block)))
    (l_trick_block : K.lookup a_trick_block = some ⟨oc_trick_block, od_trick_block, .func (PySem.W.fnOf "trick_block" "trick_block" (defArgs s_trick_block) (defBody s_trick_block) (defScope s_trick_block) .none kV_trick_block dc_trick_block pm_trick_block an_trick_block cd_trick_block ct_trick_block), sl_trick_block⟩)
    (c_trick_block : PySem.W.codeIn K cd_trick_block "trick_block" = true)
    (kp_trick_block : PySem.W.keepIn K (.ref a_trick_block) = true)
    (gf_made_of : PySem.W.nsIn K mainGlobals "made_of" = some (some (.ref a_made_of)))
    (l_made_of : K.lookup a_made_of = some ⟨oc_made_of, od_made_of, .func (PySem.W.fnOf "made_of" "made_of" (defArgs s_made_of) (defBody s_made_of) (defScope s_made_of) .none kV_made_of dc_made_of pm_made_of an_made_of cd_made_of ct_made_of), sl_made_of⟩)
    (c_made_of : PySem.W.codeIn K cd_made_of "made_of" = true)
    (kp_made_of : PySem.W.keepIn K (.ref a_made_of) = true)
    (gf_made_with : PySem.W.nsIn K mainGlobals "made_with" = some (some (.ref a_made_with)))
    (l_made_with : K.lookup a_made_with = some ⟨oc_made_with, od_made_with, .func (PySem.W.fnOf "made_with" "made_with" (defArgs s_made_with) (defBody s_made_with) (defScope s_made_with) .none kV_made_with dc_made_with pm_made_with an_made_with cd_made_with ct_made_with), sl_made_with⟩)
    (c_made_with : PySem.W.codeIn K cd_made_with "made_with" = true)
    (kp_made_with : PySem.W.keepIn K (.ref a_made_with) = true)
    (gf_chain_tells : PySem.W.nsIn K mainGlobals "chain_tells" = some (some (.ref a_chain_tells)))
    (l_chain_tells : K.lookup a_chain_tells = some ⟨oc_chain_tells, od_chain_tells, .func (PySem.W.fnOf "chain_tells" "chain_tells" (defArgs s_chain_tells) (defBody s_chain_tells) (defScope s_chain_tells) .none kV_chain_tells dc_chain_tells pm_chain_tells an_chain_tells cd_chain_tells ct_chain_tells), sl_chain_tells⟩)
    (c_chain_tells : PySem.W.codeIn K cd_chain_tells "chain_tells" = true)
    (kp_chain_tells : PySem.W.keepIn K (.ref a_chain_tells) = true)
    (gf_check_tricks : PySem.W.nsIn K mainGlobals "check_tricks" = some (some (.ref a_check_tricks)))
    (l_check_tricks : K.lookup a_check_tricks = some ⟨oc_check_tricks, od_check_tricks, .func (PySem.W.fnOf "check_tricks" "check_tricks" (defArgs s_check_tricks) (defBody s_check_tricks) (defScope s_check_tricks) .none kV_check_tricks dc_check_tricks pm_check_tricks an_check_tricks cd_check_tricks ct_check_tricks), sl_check_tricks⟩)
    (c_check_tricks : PySem.W.codeIn K cd_check_tricks "check_tricks" = true)
    (kp_check_tricks : PySem.W.keepIn K (.ref a_check_tricks) = true)
    (gf_check_chain : PySem.W.nsIn K mainGlobals "check_chain" = some (some (.ref a_check_chain)))
    (l_check_chain : K.lookup a_check_chain = some ⟨oc_check_chain, od_check_chain, .func (PySem.W.fnOf "check_chain" "check_chain" (defArgs s_check_chain) (defBody s_check_chain) (defScope s_check_chain) .none kV_check_chain dc_check_chain pm_check_chain an_check_chain cd_check_chain ct_check_chain), sl_check_chain⟩)
    (c_check_chain : PySem.W.codeIn K cd_check_chain "check_chain" = true)
    (kp_check_chain : PySem.W.keepIn K (.ref a_check_chain) = true)
    (gf_made_of_all : PySem.W.nsIn K mainGlobals "made_of_all" = some (some (.ref a_made_of_all)))
    (l_made_of_all : K.lookup a_made_of_all = some ⟨oc_made_of_all, od_made_of_all, .func (PySem.W.fnOf "made_of_all" "made_of_all" (defArgs s_made_of_all) (defBody s_made_of_all) (defScope s_made_of_all) .none kV_made_of_all dc_made_of_all pm_made_of_all an_made_of_all cd_made_of_all ct_made_of_all), sl_made_of_all⟩)
    (c_made_of_all : PySem.W.codeIn K cd_made_of_all "made_of_all" = true)
    (kp_made_of_all : PySem.W.keepIn K (.ref a_made_of_all) = true)
    (gf_blocks_product : PySem.W.nsIn K mainGlobals "blocks_product" = some (some (.ref a_blocks_product)))
    (l_blocks_product : K.lookup a_blocks_product = some ⟨oc_blocks_product, od_blocks_product, .func (PySem.W.fnOf "blocks_product" "blocks_product" (defArgs s_blocks_product) (defBody s_blocks_product) (defScope s_blocks_product) .none kV_blocks_product dc_blocks_product pm_blocks_product an_blocks_product cd_blocks_product ct_blocks_product), sl_blocks_product⟩)
    (c_blocks_product : PySem.W.codeIn K cd_blocks_product "blocks_product" = true)
    (kp_blocks_product : PySem.W.keepIn K (.ref a_blocks_product) = true)
    (gf_rest_pairs : PySem.W.nsIn K mainGlobals "rest_pairs" = some (some (.ref a_rest_pairs)))
    (l_rest_pairs : K.lookup a_rest_pairs = some ⟨oc_rest_pairs, od_rest_pairs, .func (PySem.W.fnOf "rest_pairs" "rest_pairs" (defArgs s_rest_pairs) (defBody s_rest_pairs) (defScope s_rest_pairs) .none kV_rest_pairs dc_rest_pairs pm_rest_pairs an_rest_pairs cd_rest_pairs ct_rest_pairs), sl_rest_pairs⟩)
    (c_rest_pairs : PySem.W.codeIn K cd_rest_pairs "rest_pairs" = true)
    (kp_rest_pairs : PySem.W.keepIn K (.ref a_rest_pairs) = true)
    (gf_factor : PySem.W.nsIn K mainGlobals "factor" = some (some (.ref a_factor)))
    (l_factor : K.lookup a_factor = some ⟨oc_factor, od_factor, .func (PySem.W.fnOf "factor" "factor" (defArgs s_factor) (defBody s_factor) (defScope s_factor) .none kV_factor dc_factor pm_factor an_factor cd_factor ct_factor), sl_factor⟩)
    (c_factor : PySem.W.codeIn K cd_factor "factor" = true)
    (kp_factor : PySem.W.keepIn K (.ref a_factor) = true)
    (gf_tells_multiples : PySem.W.nsIn K mainGlobals "tells_multiples" = some (some (.ref a_tells_multiples)))
    (l_tells_multiples : K.lookup a_tells_multiples = some ⟨oc_tells_multiples, od_tells_multiples, .func (PySem.W.fnOf "tells_multiples" "tells_multiples" (defArgs s_tells_multiples) (defBody s_tells_multiples) (defScope s_tells_multiples) .none kV_tells_multiples dc_tells_multiples pm_tells_multiples an_tells_multiples cd_tells_multiples ct_tells_multiples), sl_tells_multiples⟩)
    (c_tells_multiples : PySem.W.codeIn K cd_tells_multiples "tells_multiples" = true)
    (kp_tells_multiples : PySem.W.keepIn K (.ref a_tells_multiples) = true)
    (gf__law_taken : PySem.W.nsIn K mainGlobals "_law_taken" = some (some (.ref a__law_taken)))
    (l__law_taken : K.lookup a__law_taken = some ⟨oc__law_taken, od__law_taken, .func (PySem.W.fnOf "_law_taken" "_law_taken" (defArgs s__law_taken) (defBody s__law_taken) (defScope s__law_taken) .none kV__law_taken dc__law_taken pm__law_taken an__law_taken cd__law_taken ct__law_taken), sl__law_taken⟩)
    (c__law_taken : PySem.W.codeIn K cd__law_taken "_law_taken" = true)
    (kp__law_taken : PySem.W.keepIn K (.ref a__law_taken) = true)
    (gf__law_behind : PySem.W.nsIn K mainGlobals "_law_behind" = some (some (.ref a__law_behind)))
    (l__law_behind : K.lookup a__law_behind = some ⟨oc__law_behind, od__law_behind, .func (PySem.W.fnOf "_law_behind" "_law_behind" (defArgs s__law_behind) (defBody s__law_behind) (defScope s__law_behind) .none kV__law_behind dc__law_behind pm__law_behind an__law_behind cd__law_behind ct__law_behind), sl__law_behind⟩)
    (c__law_behind : PySem.W.codeIn K cd__law_behind "_law_behind" = true)
    (kp__law_behind : PySem.W.keepIn K (.ref a__law_behind) = true)
    (gf__law_number : PySem.W.nsIn K mainGlobals "_law_number" = some (some (.ref a__law_number)))
    (l__law_number : K.lookup a__law_number = some ⟨oc__law_number, od__law_number, .func (PySem.W.fnOf "_law_number" "_law_number" (defArgs s__law_number) (defBody s__law_number) (defScope s__law_number) .none kV__law_number dc__law_number pm__law_number an__law_number cd__law_number ct__law_number), sl__law_number⟩)
    (c__law_number : PySem.W.codeIn K cd__law_number "_law_number" = true)
    (kp__law_number : PySem.W.keepIn K (.ref a__law_number) = true)
    (gf__law_tricks : PySem.W.nsIn K mainGlobals "_law_tricks" = some (some (.ref a__law_tricks)))
    (l__law_tricks : K.lookup a__law_tricks = some ⟨oc__law_tricks, od__law_tricks, .func (PySem.W.fnOf "_law_tricks" "_law_tricks" (defArgs s__law_tricks) (defBody s__law_tricks) (defScope s__law_tricks) .none kV__law_tricks dc__law_tricks pm__law_tricks an__law_tricks cd__law_tricks ct__law_tricks), sl__law_tricks⟩)
    (c__law_tricks : PySem.W.codeIn K cd__law_tricks "_law_tricks" = true)
    (kp__law_tricks : PySem.W.keepIn K (.ref a__law_tricks) = true)
    (gf_law : PySem.W.nsIn K mainGlobals "law" = some (some (.ref a_law)))
    (l_law : K.lookup a_law = some ⟨oc_law, od_law, .func (PySem.W.fnOf "law" "law" (defArgs s_law) (defBody s_law) (defScope s_law) .none kV_law dc_law pm_law an_law cd_law ct_law), sl_law⟩)
    (c_law : PySem.W.codeIn K cd_law "law" = true)
    (kp_law : PySem.W.keepIn K (.ref a_law) = true)
    (gx_Trick : PySem.W.nsIn K mainGlobals "Trick" = some (some (.ref C_Trick)))
    (pg_Trick : PySem.W.plainGet K C_Trick Str.empty = true)
    (hd_Trick : PySem.W.hasDictIn K C_Trick = true)
    (po_Trick : PySem.W.plainOver K C_Trick = true)
    (sa_Trick : PySem.W.findIn K (.ref C_Trick) "__setattr__" = some (some (.builtin "object.__setattr__")))
    (mk_Trick : PySem.W.makesIn K C_Trick = true)
    (kc_Trick : PySem.W.keepIn K (.ref C_Trick) = true)
    (cc_Trick : PySem.W.findIn K (.ref C_Trick) "__class__" = some (some (.builtin "object.__class__")))
    (mo_Trick : PySem.W.mroIn K C_Trick (.type "object") = some true)
    (sp_cls : PySem.W.specialIn K (.builtin "object.__class__") "__get__" = some (some (.builtin "getset_descriptor.__get__")))
    (tk_cls : PySem.W.takesIn K (.builtin "object.__class__") = some true)
    (ki_Trick_int : PySem.W.kitOne K (.ref C_Trick) (.type "int") = some false)
    (ki_Trick_bool : PySem.W.kitOne K (.ref C_Trick) (.type "bool") = some false)
    (ki_Trick_tuple : PySem.W.kitOne K (.ref C_Trick) (.type "tuple") = some false)
    (ki_Trick_list : PySem.W.kitOne K (.ref C_Trick) (.type "list") = some false)
    (nf_Trick_tuple : PySem.W.subIn K (.type "tuple") (.ref C_Trick) = some false)
    (kis_Trick : PySem.W.kitOne K (.ref C_Trick) (.ref C_Trick) = some true)
    (kin_Trick_int : PySem.W.kitOne K (.type "int") (.ref C_Trick) = some false)
    (kin_Trick_bool : PySem.W.kitOne K (.type "bool") (.ref C_Trick) = some false)
    (kin_Trick_tuple : PySem.W.kitOne K (.type "tuple") (.ref C_Trick) = some false)
    (kin_Trick_list : PySem.W.kitOne K (.type "list") (.ref C_Trick) = some false)
    (kin_Trick_NoneType : PySem.W.kitOne K (.type "NoneType") (.ref C_Trick) = some false)
    (kin_Trick_str : PySem.W.kitOne K (.type "str") (.ref C_Trick) = some false)
    (kin_Trick_dict : PySem.W.kitOne K (.type "dict") (.ref C_Trick) = some false)
    (na_Trick_base : PySem.W.findIn K (.ref C_Trick) "_base" = some none)
    (na_Trick_take : PySem.W.findIn K (.ref C_Trick) "_take" = some none)
    (na_Trick_times : PySem.W.findIn K (.ref C_Trick) "_times" = some none)
    (gf_Trick___init__ : PySem.W.findIn K (.ref C_Trick) "__init__" = some (some (.ref a_Trick___init__)))
    (l_Trick___init__ : K.lookup a_Trick___init__ = some ⟨oc_Trick___init__, od_Trick___init__, .func (PySem.W.fnOf "__init__" "Trick.__init__" (defArgs s_Trick___init__) (defBody s_Trick___init__) (defScope s_Trick___init__) .none kV_Trick___init__ dc_Trick___init__ pm_Trick___init__ an_Trick___init__ cd_Trick___init__ ct_Trick___init__), sl_Trick___init__⟩)
    (c_Trick___init__ : PySem.W.codeIn K cd_Trick___init__ "Trick.__init__" = true)
    (kp_Trick___init__ : PySem.W.keepIn K (.ref a_Trick___init__) = true)
    (isf_Trick___init__ : PySem.W.isFn K (.ref a_Trick___init__) = true)
    (pa_Trick_base : PySem.W.findIn K (.ref C_Trick) "base" = some (some (.ref pr_Trick_base)))
    (pg_Trick_base : PySem.W.specialIn K (.ref pr_Trick_base) "__get__" = some (some (.builtin "property.__get__")))
    (pt_Trick_base : PySem.W.takesIn K (.ref pr_Trick_base) = some true)
    (prr_Trick_base : PySem.W.recIn K pr_Trick_base "property" = some (.ref a_Trick_base :: rs_Trick_base))
    (l_Trick_base : K.lookup a_Trick_base = some ⟨oc_Trick_base, od_Trick_base, .func (PySem.W.fnOf "base" "Trick.base" (defArgs s_Trick_base) (defBody s_Trick_base) (defScope s_Trick_base) .none kV_Trick_base dc_Trick_base pm_Trick_base an_Trick_base cd_Trick_base ct_Trick_base), sl_Trick_base⟩)
    (c_Trick_base : PySem.W.codeIn K cd_Trick_base "Trick.base" = true)
    (kp_Trick_base : PySem.W.keepIn K (.ref a_Trick_base) = true)
    (pa_Trick_take : PySem.W.findIn K (.ref C_Trick) "take" = some (some (.ref pr_Trick_take)))
    (pg_Trick_take : PySem.W.specialIn K (.ref pr_Trick_take) "__get__" = some (some (.builtin "property.__get__")))
    (pt_Trick_take : PySem.W.takesIn K (.ref pr_Trick_take) = some true)
    (prr_Trick_take : PySem.W.recIn K pr_Trick_take "property" = some (.ref a_Trick_take :: rs_Trick_take))
    (l_Trick_take : K.lookup a_Trick_take = some ⟨oc_Trick_take, od_Trick_take, .func (PySem.W.fnOf "take" "Trick.take" (defArgs s_Trick_take) (defBody s_Trick_take) (defScope s_Trick_take) .none kV_Trick_take dc_Trick_take pm_Trick_take an_Trick_take cd_Trick_take ct_Trick_take), sl_Trick_take⟩)
    (c_Trick_take : PySem.W.codeIn K cd_Trick_take "Trick.take" = true)
    (kp_Trick_take : PySem.W.keepIn K (.ref a_Trick_take) = true)
    (pa_Trick_times : PySem.W.findIn K (.ref C_Trick) "times" = some (some (.ref pr_Trick_times)))
    (pg_Trick_times : PySem.W.specialIn K (.ref pr_Trick_times) "__get__" = some (some (.builtin "property.__get__")))
    (pt_Trick_times : PySem.W.takesIn K (.ref pr_Trick_times) = some true)
    (prr_Trick_times : PySem.W.recIn K pr_Trick_times "property" = some (.ref a_Trick_times :: rs_Trick_times))
    (l_Trick_times : K.lookup a_Trick_times = some ⟨oc_Trick_times, od_Trick_times, .func (PySem.W.fnOf "times" "Trick.times" (defArgs s_Trick_times) (defBody s_Trick_times) (defScope s_Trick_times) .none kV_Trick_times dc_Trick_times pm_Trick_times an_Trick_times cd_Trick_times ct_Trick_times), sl_Trick_times⟩)
    (c_Trick_times : PySem.W.codeIn K cd_Trick_times "Trick.times" = true)
    (kp_Trick_times : PySem.W.keepIn K (.ref a_Trick_times) = true)
    (gf_Trick___eq__ : PySem.W.findIn K (.ref C_Trick) "__eq__" = some (some (.ref a_Trick___eq__)))
    (l_Trick___eq__ : K.lookup a_Trick___eq__ = some ⟨oc_Trick___eq__, od_Trick___eq__, .func (PySem.W.fnOf "__eq__" "Trick.__eq__" (defArgs s_Trick___eq__) (defBody s_Trick___eq__) (defScope s_Trick___eq__) .none kV_Trick___eq__ dc_Trick___eq__ pm_Trick___eq__ an_Trick___eq__ cd_Trick___eq__ ct_Trick___eq__), sl_Trick___eq__⟩)
    (c_Trick___eq__ : PySem.W.codeIn K cd_Trick___eq__ "Trick.__eq__" = true)
    (kp_Trick___eq__ : PySem.W.keepIn K (.ref a_Trick___eq__) = true)
    (isf_Trick___eq__ : PySem.W.isFn K (.ref a_Trick___eq__) = true)
    (z_int : PySem.W.nsIn K mainGlobals "int" = some none)
    (z_bool : PySem.W.nsIn K mainGlobals "bool" = some none)
    (z_len : PySem.W.nsIn K mainGlobals "len" = some none)
    (z_range : PySem.W.nsIn K mainGlobals "range" = some none)
    (z_isinstance : PySem.W.nsIn K mainGlobals "isinstance" = some none)
    (z_tuple : PySem.W.nsIn K mainGlobals "tuple" = some none)
    (z_list : PySem.W.nsIn K mainGlobals "list" = some none)
    (z_enumerate : PySem.W.nsIn K mainGlobals "enumerate" = some none)
    (z_all : PySem.W.nsIn K mainGlobals "all" = some none)
    (z_super : PySem.W.nsIn K mainGlobals "super" = some none)
    (z_ValueError : PySem.W.nsIn K mainGlobals "ValueError" = some none)
    (xl_BadTricks___init__ : K.lookup C_BadTricks = some (PySem.excClassObj nm_BadTricks___init__ qn_BadTricks___init__ C_BadTricks N_BadTricks___init__ bs_BadTricks___init__ bm_BadTricks___init__ true sn_BadTricks___init__ sub_BadTricks___init__ ab_BadTricks___init__ col_BadTricks___init__ dd_BadTricks___init__ k0_BadTricks___init__ k1_BadTricks___init__ k2_BadTricks___init__ k3_BadTricks___init__ k5_BadTricks___init__ "ValueError.__new__"))
    (xrb_BadTricks___init__ : PySem.HandSPX.refsVE bm_BadTricks___init__ = true)
    (xsa_BadTricks___init__ : PySem.W.findIn K (.ref C_BadTricks) "__setattr__" = some (some (.builtin "object.__setattr__")))
    (xga_BadTricks___init__ : PySem.W.findIn K (.ref C_BadTricks) "__getattribute__" = some (some (.builtin "BaseException.__getattribute__")))
    (xgg_BadTricks___init__ : PySem.W.findIn K (.ref C_BadTricks) "__getattr__" = some none)
    (xnf_BadTricks___init__ : PySem.W.findIn K (.ref C_BadTricks) "index" = some none)
    (xic_BadTricks___init__ : PySem.W.findIn K (.ref C_BadTricks) "__init__" = some (some (.ref a_BadTricks___init__)))
    (xtc_BadTricks___init__ : PySem.W.typeIn K (.ref a_BadTricks___init__) = some (.type "function"))
    (xhd_BadTricks___init__ : PySem.W.hasDictIn K C_BadTricks = true)
    (xup_BadTricks___init__ : PySem.W.ks_superIn K C_BadTricks C_BadTricks "__init__" = some (some (.builtin "ValueError.__init__")))
    (xan_BadTricks___init__ : PySem.W.nsIn K PySem.cStatics "thirdparty.any" = some none)
    (xve_BadTricks___init__ : PySem.W.subIn K (.ref C_BadTricks) (.type "ValueError") = some true)
    (xow_BadTricks___init__ : PySem.W.mroIn K C_BadTricks (.ref C_BadTricks) = some true)
    (rmn_BadTricks___init__ : (l.prog.main.scope.names.lookup ("super" : Str)).isSome = false)
    (xfn_BadTricks___init__ : K.lookup a_BadTricks___init__ = some ⟨oc_BadTricks___init__, od_BadTricks___init__, .func (PySem.W.ksFn "__init__" "BadTricks.__init__" (defArgs s_BadTricks___init__) (defBody s_BadTricks___init__) (defScope s_BadTricks___init__) .none .none dc_BadTricks___init__ pm_BadTricks___init__ an_BadTricks___init__ (.ref cda_BadTricks___init__) ct_BadTricks___init__ cc_BadTricks___init__), sl_BadTricks___init__⟩)
    (xco_BadTricks___init__ : PySem.W.codeIn K (.ref cda_BadTricks___init__) "BadTricks.__init__" = true)
    (xcd_BadTricks___init__ : K.lookup cda_BadTricks___init__ = some ⟨ccl_BadTricks___init__, cdd_BadTricks___init__, .fields vs_BadTricks___init__, ccs_BadTricks___init__⟩)
    (rvs_BadTricks___init__ : vs_BadTricks___init__[2]? = some (.str file_BadTricks___init__ tf_BadTricks___init__))
    (rfi_BadTricks___init__ : ((l.prog.main.file : Str) == file_BadTricks___init__) = true)
    (xcc_BadTricks___init__ : K.lookup cc_BadTricks___init__ = some ⟨cl_BadTricks___init__, cld_BadTricks___init__, .cell (some (.ref C_BadTricks)), csl_BadTricks___init__⟩)
    (xl_TooWide___init__ : K.lookup C_TooWide = some (PySem.excClassObj nm_TooWide___init__ qn_TooWide___init__ C_TooWide N_TooWide___init__ bs_TooWide___init__ bm_TooWide___init__ true sn_TooWide___init__ sub_TooWide___init__ ab_TooWide___init__ col_TooWide___init__ dd_TooWide___init__ k0_TooWide___init__ k1_TooWide___init__ k2_TooWide___init__ k3_TooWide___init__ k5_TooWide___init__ "ValueError.__new__"))
    (xrb_TooWide___init__ : PySem.HandSPX.refsVE bm_TooWide___init__ = true)
    (xsa_TooWide___init__ : PySem.W.findIn K (.ref C_TooWide) "__setattr__" = some (some (.builtin "object.__setattr__")))
    (xga_TooWide___init__ : PySem.W.findIn K (.ref C_TooWide) "__getattribute__" = some (some (.builtin "BaseException.__getattribute__")))
    (xgg_TooWide___init__ : PySem.W.findIn K (.ref C_TooWide) "__getattr__" = some none)
    (xnf_TooWide___init__ : PySem.W.findIn K (.ref C_TooWide) "most" = some none)
    (xic_TooWide___init__ : PySem.W.findIn K (.ref C_TooWide) "__init__" = some (some (.ref a_TooWide___init__)))
    (xtc_TooWide___init__ : PySem.W.typeIn K (.ref a_TooWide___init__) = some (.type "function"))
    (xhd_TooWide___init__ : PySem.W.hasDictIn K C_TooWide = true)
    (xup_TooWide___init__ : PySem.W.ks_superIn K C_TooWide C_TooWide "__init__" = some (some (.builtin "ValueError.__init__")))
    (xan_TooWide___init__ : PySem.W.nsIn K PySem.cStatics "thirdparty.any" = some none)
    (xve_TooWide___init__ : PySem.W.subIn K (.ref C_TooWide) (.type "ValueError") = some true)
    (xow_TooWide___init__ : PySem.W.mroIn K C_TooWide (.ref C_TooWide) = some true)
    (rmn_TooWide___init__ : (l.prog.main.scope.names.lookup ("super" : Str)).isSome = false)
    (xfn_TooWide___init__ : K.lookup a_TooWide___init__ = some ⟨oc_TooWide___init__, od_TooWide___init__, .func (PySem.W.ksFn "__init__" "TooWide.__init__" (defArgs s_TooWide___init__) (defBody s_TooWide___init__) (defScope s_TooWide___init__) .none .none dc_TooWide___init__ pm_TooWide___init__ an_TooWide___init__ (.ref cda_TooWide___init__) ct_TooWide___init__ cc_TooWide___init__), sl_TooWide___init__⟩)
    (xco_TooWide___init__ : PySem.W.codeIn K (.ref cda_TooWide___init__) "TooWide.__init__" = true)
    (xcd_TooWide___init__ : K.lookup cda_TooWide___init__ = some ⟨ccl_TooWide___init__, cdd_TooWide___init__, .fields vs_TooWide___init__, ccs_TooWide___init__⟩)
    (rvs_TooWide___init__ : vs_TooWide___init__[2]? = some (.str file_TooWide___init__ tf_TooWide___init__))
    (rfi_TooWide___init__ : ((l.prog.main.file : Str) == file_TooWide___init__) = true)
    (xcc_TooWide___init__ : K.lookup cc_TooWide___init__ = some ⟨cl_TooWide___init__, cld_TooWide___init__, .cell (some (.ref C_TooWide)), csl_TooWide___init__⟩)
    : ∃ fd : FuncData, (∀ (s : Shared) (v : Value), BindsTo s fd ⟨[v], []⟩ [("_law_script", v)]) ∧ ∀ base : Heap, K.In base → base.Ns mainGlobals mg → FnOk l.prog w K mg base CX0 lv_law fa fd ["_law_script"] (sp_law K) := by
  have e := hfa.symm.trans (PySem.W.mg_of X G gf_law)
  have e2 : a_law = fa := by cases e; rfl
  subst e2
  have F_check_divisor : FunD K "check_divisor" "check_divisor" (defArgs s_check_divisor) (defBody s_check_divisor) (defScope s_check_divisor) [.int 100] [] a_check_divisor _ := ⟨⟨_, _, _, _, _, _, _, _, _, _, rfl, l_check_divisor, c_check_divisor, .inr ⟨List.cons_ne_nil _ _, _, _, [.int 100 dt0_check_divisor], _, rfl, ldT_check_divisor, by rw [rdv_check_divisor], (.cons ⟨_, rfl⟩ .nil)⟩, .inl rfl⟩, kp_check_divisor⟩
  obtain ⟨dn0_check_divisor, ro_check_divisor, bo_check_divisor⟩ := F_check_divisor.binds1 (ps := ["d", "greatest"]) 2 1 (List.cons_ne_nil _ _) rfl fun _ _ _ _ _ _ _ us its h1 h2 => match us, its, h1, h2 with | [_, _], [_], _, _ => ⟨_, rfl, rfl⟩
  cases ro_check_divisor
  obtain ⟨ds_check_divisor, rd_check_divisor, bd_check_divisor⟩ := F_check_divisor.binds1 (ps := ["d", "greatest"]) 1 0 (List.cons_ne_nil _ _) rfl fun _ _ _ _ _ _ _ us its h1 h2 => match us, its, h1, h2 with | [_], [_], _, _ => ⟨_, rfl, rfl⟩
  refine ⟨PySem.W.fnOf "law" "law" (defArgs s_law) (defBody s_law) (defScope s_law) .none kV_law dc_law pm_law an_law cd_law ct_law, fun s v => .of_eq rfl, fun base _ _ => ?_⟩
  exact ok_law (T :=
    { C_TrickError := C_TrickError,
      g_TrickError := PySem.W.mg_of X G gx_TrickError,
      x_TrickError := x_TrickError,
      k_TrickError := k_TrickError,
      s_TrickError := s_TrickError,
      t_TrickError := t_TrickError,
      C_BadBase := C_BadBase,
      g_BadBase := PySem.W.mg_of X G gx_BadBase,
      x_BadBase := x_BadBase,
      k_BadBase := k_BadBase,
      s_BadBase := s_BadBase,
      t_BadBase := t_BadBase,
      C_BadTake := C_BadTake,
      g_BadTake := PySem.W.mg_of X G gx_BadTake,
      x_BadTake := x_BadTake,
      k_BadTake := k_BadTake,
      s_BadTake := s_BadTake,
      t_BadTake := t_BadTake,
      C_BadTimes := C_BadTimes,
      g_BadTimes := PySem.W.mg_of X G gx_BadTimes,
      x_BadTimes := x_BadTimes,
      k_BadTimes := k_BadTimes,
      s_BadTimes := s_BadTimes,
      t_BadTimes := t_BadTimes,
      C_BadTrick := C_BadTrick,
      g_BadTrick := PySem.W.mg_of X G gx_BadTrick,
      x_BadTrick := x_BadTrick,
      k_BadTrick := k_BadTrick,
      s_BadTrick := s_BadTrick,
      t_BadTrick := t_BadTrick,
      C_BadDivisor := C_BadDivisor,
      g_BadDivisor := PySem.W.mg_of X G gx_BadDivisor,
      x_BadDivisor := x_BadDivisor,
      k_BadDivisor := k_BadDivisor,
      s_BadDivisor := s_BadDivisor,
      t_BadDivisor := t_BadDivisor,
      C_BadTricks := C_BadTricks,
      g_BadTricks := PySem.W.mg_of X G gx_BadTricks,
      k_BadTricks := k_BadTricks,
      s_BadTricks := s_BadTricks,
      t_BadTricks := t_BadTricks,
      C_TooWide := C_TooWide,
      g_TooWide := PySem.W.mg_of X G gx_TooWide,
      k_TooWide := k_TooWide,
      s_TooWide := s_TooWide,
      t_TooWide := t_TooWide,
      t_c_LEAST_BASE := tk_LEAST_BASE,
      c_LEAST_BASE := PySem.W.mg_of X G cx_LEAST_BASE,
      t_c_GREATEST_BASE := tk_GREATEST_BASE,
      c_GREATEST_BASE := PySem.W.mg_of X G cx_GREATEST_BASE,
      t_c_GREATEST_TAKE := tk_GREATEST_TAKE,
      c_GREATEST_TAKE := PySem.W.mg_of X G cx_GREATEST_TAKE,
      t_c_GREATEST_DIVISOR := tk_GREATEST_DIVISOR,
      c_GREATEST_DIVISOR := PySem.W.mg_of X G cx_GREATEST_DIVISOR,
      t_c_GREATEST_TIMES := tk_GREATEST_TIMES,
      c_GREATEST_TIMES := PySem.W.mg_of X G cx_GREATEST_TIMES,
      t_c_MOST_TRICKS := tk_MOST_TRICKS,
      c_MOST_TRICKS := PySem.W.mg_of X G cx_MOST_TRICKS,
      t_c_GREATEST_CHAIN_DIVISOR := tk_GREATEST_CHAIN_DIVISOR,
      c_GREATEST_CHAIN_DIVISOR := PySem.W.mg_of X G cx_GREATEST_CHAIN_DIVISOR,
      t_c_GREATEST_PRODUCT := tk_GREATEST_PRODUCT,
      c_GREATEST_PRODUCT := PySem.W.mg_of X G cx_GREATEST_PRODUCT,
      a_is_integer := a_is_integer,
      d_is_integer := _,
      F_is_integer := fun_mk (st := s_is_integer) l_is_integer c_is_integer kp_is_integer,
      b_is_integer := (fun_mk (st := s_is_integer) l_is_integer c_is_integer kp_is_integer).binds (ps := ["told", "low", "high"]) fun _ _ _ _ _ _ us hl => match us, hl with | [_, _, _], _ => rfl,
      g_is_integer := PySem.W.mg_of X G gf_is_integer,
      a_is_list_or_tuple := a_is_list_or_tuple,
      d_is_list_or_tuple := _,
      F_is_list_or_tuple := fun_mk (st := s_is_list_or_tuple) l_is_list_or_tuple c_is_list_or_tuple kp_is_list_or_tuple,
      b_is_list_or_tuple := (fun_mk (st := s_is_list_or_tuple) l_is_list_or_tuple c_is_list_or_tuple kp_is_list_or_tuple).binds (ps := ["told", "fewest", "most"]) fun _ _ _ _ _ _ us hl => match us, hl with | [_, _, _], _ => rfl,
      g_is_list_or_tuple := PySem.W.mg_of X G gf_is_list_or_tuple,
      a_check_base := a_check_base,
      d_check_base := _,
      F_check_base := fun_mk (st := s_check_base) l_check_base c_check_base kp_check_base,
      b_check_base := (fun_mk (st := s_check_base) l_check_base c_check_base kp_check_base).binds (ps := ["base"]) fun _ _ _ _ _ _ us hl => match us, hl with | [_], _ => rfl,
      g_check_base := PySem.W.mg_of X G gf_check_base,
      a_check_take := a_check_take,
      d_check_take := _,
      F_check_take := fun_mk (st := s_check_take) l_check_take c_check_take kp_check_take,
      b_check_take := (fun_mk (st := s_check_take) l_check_take c_check_take kp_check_take).binds (ps := ["take"]) fun _ _ _ _ _ _ us hl => match us, hl with | [_], _ => rfl,
      g_check_take := PySem.W.mg_of X G gf_check_take,
      a_check_divisor := a_check_divisor,
      d_check_divisor := _,
      F_check_divisor := F_check_divisor,
      b_check_divisor := bo_check_divisor,
      ds_check_divisor := ds_check_divisor,
      rd_check_divisor := rd_check_divisor,
      bd_check_divisor := bd_check_divisor,
      g_check_divisor := PySem.W.mg_of X G gf_check_divisor,
      a_block_of := a_block_of,
      d_block_of := _,
      F_block_of := fun_mk (st := s_block_of) l_block_of c_block_of kp_block_of,
      b_block_of := (fun_mk (st := s_block_of) l_block_of c_block_of kp_block_of).binds (ps := ["base", "take"]) fun _ _ _ _ _ _ us hl => match us, hl with | [_, _], _ => rfl,
      g_block_of := PySem.W.mg_of X G gf_block_of,
      a_check_trick := a_check_trick,
      d_check_trick := _,
      F_check_trick := fun_mk (st := s_check_trick) l_check_trick c_check_trick kp_check_trick,
      b_check_trick := (fun_mk (st := s_check_trick) l_check_trick c_check_trick kp_check_trick).binds (ps := ["trick"]) fun _ _ _ _ _ _ us hl => match us, hl with | [_], _ => rfl,
      g_check_trick := PySem.W.mg_of X G gf_check_trick,
      a_trick_block := a_trick_block,
      d_trick_block := _,
      F_trick_block := fun_mk (st := s_trick_block) l_trick_block c_trick_block kp_trick_block,
      b_trick_block := (fun_mk (st := s_trick_block) l_trick_block c_trick_block kp_trick_block).binds (ps := ["trick"]) fun _ _ _ _ _ _ us hl => match us, hl with | [_], _ => rfl,
      g_trick_block := PySem.W.mg_of X G gf_trick_block,
      a_made_of := a_made_of,
      d_made_of := _,
      F_made_of := fun_mk (st := s_made_of) l_made_of c_made_of kp_made_of,
      b_made_of := (fun_mk (st := s_made_of) l_made_of c_made_of kp_made_of).binds (ps := ["trick", "n"]) fun _ _ _ _ _ _ us hl => match us, hl with | [_, _], _ => rfl,
      g_made_of := PySem.W.mg_of X G gf_made_of,
      a_made_with := a_made_with,
      d_made_with := _,
      F_made_with := fun_mk (st := s_made_with) l_made_with c_made_with kp_made_with,
      b_made_with := (fun_mk (st := s_made_with) l_made_with c_made_with kp_made_with).binds (ps := ["block", "times", "n"]) fun _ _ _ _ _ _ us hl => match us, hl with | [_, _, _], _ => rfl,
      g_made_with := PySem.W.mg_of X G gf_made_with,
      a_chain_tells := a_chain_tells,
      d_chain_tells := _,
      F_chain_tells := fun_mk (st := s_chain_tells) l_chain_tells c_chain_tells kp_chain_tells,
      b_chain_tells := (fun_mk (st := s_chain_tells) l_chain_tells c_chain_tells kp_chain_tells).binds (ps := ["tricks", "d"]) fun _ _ _ _ _ _ us hl => match us, hl with | [_, _], _ => rfl,
      g_chain_tells := PySem.W.mg_of X G gf_chain_tells,
      a_check_tricks := a_check_tricks,
      d_check_tricks := _,
      F_check_tricks := fun_mk (st := s_check_tricks) l_check_tricks c_check_tricks kp_check_tricks,
      b_check_tricks := (fun_mk (st := s_check_tricks) l_check_tricks c_check_tricks kp_check_tricks).binds (ps := ["tricks"]) fun _ _ _ _ _ _ us hl => match us, hl with | [_], _ => rfl,
      g_check_tricks := PySem.W.mg_of X G gf_check_tricks,
      a_check_chain := a_check_chain,
      d_check_chain := _,
      F_check_chain := fun_mk (st := s_check_chain) l_check_chain c_check_chain kp_check_chain,
      b_check_chain := (fun_mk (st := s_check_chain) l_check_chain c_check_chain kp_check_chain).binds (ps := ["tricks", "d"]) fun _ _ _ _ _ _ us hl => match us, hl with | [_, _], _ => rfl,
      g_check_chain := PySem.W.mg_of X G gf_check_chain,
      a_made_of_all := a_made_of_all,
      d_made_of_all := _,
      F_made_of_all := fun_mk (st := s_made_of_all) l_made_of_all c_made_of_all kp_made_of_all,
      b_made_of_all := (fun_mk (st := s_made_of_all) l_made_of_all c_made_of_all kp_made_of_all).binds (ps := ["tricks", "n"]) fun _ _ _ _ _ _ us hl => match us, hl with | [_, _], _ => rfl,
      g_made_of_all := PySem.W.mg_of X G gf_made_of_all,
      a_blocks_product := a_blocks_product,
      d_blocks_product := _,
      F_blocks_product := fun_mk (st := s_blocks_product) l_blocks_product c_blocks_product kp_blocks_product,
      b_blocks_product := (fun_mk (st := s_blocks_product) l_blocks_product c_blocks_product kp_blocks_product).binds (ps := ["tricks"]) fun _ _ _ _ _ _ us hl => match us, hl with | [_], _ => rfl,
      g_blocks_product := PySem.W.mg_of X G gf_blocks_product,
      a_rest_pairs := a_rest_pairs,
      d_rest_pairs := _,
      F_rest_pairs := fun_mk (st := s_rest_pairs) l_rest_pairs c_rest_pairs kp_rest_pairs,
      b_rest_pairs := (fun_mk (st := s_rest_pairs) l_rest_pairs c_rest_pairs kp_rest_pairs).binds (ps := ["tricks", "d"]) fun _ _ _ _ _ _ us hl => match us, hl with | [_, _], _ => rfl,
      g_rest_pairs := PySem.W.mg_of X G gf_rest_pairs,
      a_factor := a_factor,
      d_factor := _,
      F_factor := fun_mk (st := s_factor) l_factor c_factor kp_factor,
      b_factor := (fun_mk (st := s_factor) l_factor c_factor kp_factor).binds (ps := ["trick", "d"]) fun _ _ _ _ _ _ us hl => match us, hl with | [_, _], _ => rfl,
      g_factor := PySem.W.mg_of X G gf_factor,
      a_tells_multiples := a_tells_multiples,
      d_tells_multiples := _,
      F_tells_multiples := fun_mk (st := s_tells_multiples) l_tells_multiples c_tells_multiples kp_tells_multiples,
      b_tells_multiples := (fun_mk (st := s_tells_multiples) l_tells_multiples c_tells_multiples kp_tells_multiples).binds (ps := ["block", "times", "d"]) fun _ _ _ _ _ _ us hl => match us, hl with | [_, _, _], _ => rfl,
      g_tells_multiples := PySem.W.mg_of X G gf_tells_multiples,
      a__law_taken := a__law_taken,
      d__law_taken := _,
      F__law_taken := fun_mk (st := s__law_taken) l__law_taken c__law_taken kp__law_taken,
      b__law_taken := (fun_mk (st := s__law_taken) l__law_taken c__law_taken kp__law_taken).binds (ps := ["_law_row", "_law_many"]) fun _ _ _ _ _ _ us hl => match us, hl with | [_, _], _ => rfl,
      g__law_taken := PySem.W.mg_of X G gf__law_taken,
      a__law_behind := a__law_behind,
      d__law_behind := _,
      F__law_behind := fun_mk (st := s__law_behind) l__law_behind c__law_behind kp__law_behind,
      b__law_behind := (fun_mk (st := s__law_behind) l__law_behind c__law_behind kp__law_behind).binds (ps := ["_law_told", "_law_n"]) fun _ _ _ _ _ _ us hl => match us, hl with | [_, _], _ => rfl,
      g__law_behind := PySem.W.mg_of X G gf__law_behind,
      a__law_number := a__law_number,
      d__law_number := _,
      F__law_number := fun_mk (st := s__law_number) l__law_number c__law_number kp__law_number,
      b__law_number := (fun_mk (st := s__law_number) l__law_number c__law_number kp__law_number).binds (ps := ["_law_row"]) fun _ _ _ _ _ _ us hl => match us, hl with | [_], _ => rfl,
      g__law_number := PySem.W.mg_of X G gf__law_number,
      a__law_tricks := a__law_tricks,
      d__law_tricks := _,
      F__law_tricks := fun_mk (st := s__law_tricks) l__law_tricks c__law_tricks kp__law_tricks,
      b__law_tricks := (fun_mk (st := s__law_tricks) l__law_tricks c__law_tricks kp__law_tricks).binds (ps := ["_law_told"]) fun _ _ _ _ _ _ us hl => match us, hl with | [_], _ => rfl,
      g__law_tricks := PySem.W.mg_of X G gf__law_tricks,
      a_law := a_law,
      d_law := _,
      F_law := fun_mk (st := s_law) l_law c_law kp_law,
      b_law := (fun_mk (st := s_law) l_law c_law kp_law).binds (ps := ["_law_script"]) fun _ _ _ _ _ _ us hl => match us, hl with | [_], _ => rfl,
      g_law := PySem.W.mg_of X G gf_law,
      C_Trick := C_Trick,
      cl_Trick := ⟨pg_Trick, hd_Trick, po_Trick, sa_Trick⟩,
      g_Trick := PySem.W.mg_of X G gx_Trick,
      kc_Trick := kc_Trick,
      ins_Trick := fun _ _ _ _ e => .ins e ⟨pg_Trick, hd_Trick, po_Trick, sa_Trick⟩ cc_Trick sp_cls tk_cls mo_Trick,
      ki_Trick_int := ki_Trick_int,
      ki_Trick_bool := ki_Trick_bool,
      ki_Trick_tuple := ki_Trick_tuple,
      ki_Trick_list := ki_Trick_list,
      nf_Trick_tuple := nf_Trick_tuple,
      kis_Trick := kis_Trick,
      kin_Trick_int := kin_Trick_int,
      kin_Trick_bool := kin_Trick_bool,
      kin_Trick_tuple := kin_Trick_tuple,
      kin_Trick_list := kin_Trick_list,
      kin_Trick_NoneType := kin_Trick_NoneType,
      kin_Trick_str := kin_Trick_str,
      kin_Trick_dict := kin_Trick_dict,
      na_Trick_base := na_Trick_base,
      na_Trick_take := na_Trick_take,
      na_Trick_times := na_Trick_times,
      a_Trick___init__ := a_Trick___init__,
      d_Trick___init__ := _,
      F_Trick___init__ := fun_mk (st := s_Trick___init__) l_Trick___init__ c_Trick___init__ kp_Trick___init__,
      b_Trick___init__ := (fun_mk (st := s_Trick___init__) l_Trick___init__ c_Trick___init__ kp_Trick___init__).binds (ps := ["self", "base", "take", "times"]) fun _ _ _ _ _ _ us hl => match us, hl with | [_, _, _, _], _ => rfl,
      mk_Trick := ⟨mk_Trick, gf_Trick___init__, isf_Trick___init__, kc_Trick⟩,
      a_Trick_base := a_Trick_base,
      d_Trick_base := _,
      F_Trick_base := fun_mk (st := s_Trick_base) l_Trick_base c_Trick_base kp_Trick_base,
      b_Trick_base := (fun_mk (st := s_Trick_base) l_Trick_base c_Trick_base kp_Trick_base).binds (ps := ["self"]) fun _ _ _ _ _ _ us hl => match us, hl with | [_], _ => rfl,
      q_Trick_base := pr_Trick_base,
      p_Trick_base := ⟨pa_Trick_base, pg_Trick_base, pt_Trick_base, ⟨_, prr_Trick_base⟩⟩,
      a_Trick_take := a_Trick_take,
      d_Trick_take := _,
      F_Trick_take := fun_mk (st := s_Trick_take) l_Trick_take c_Trick_take kp_Trick_take,
      b_Trick_take := (fun_mk (st := s_Trick_take) l_Trick_take c_Trick_take kp_Trick_take).binds (ps := ["self"]) fun _ _ _ _ _ _ us hl => match us, hl with | [_], _ => rfl,
      q_Trick_take := pr_Trick_take,
      p_Trick_take := ⟨pa_Trick_take, pg_Trick_take, pt_Trick_take, ⟨_, prr_Trick_take⟩⟩,
      a_Trick_times := a_Trick_times,
      d_Trick_times := _,
      F_Trick_times := fun_mk (st := s_Trick_times) l_Trick_times c_Trick_times kp_Trick_times,
      b_Trick_times := (fun_mk (st := s_Trick_times) l_Trick_times c_Trick_times kp_Trick_times).binds (ps := ["self"]) fun _ _ _ _ _ _ us hl => match us, hl with | [_], _ => rfl,
      q_Trick_times := pr_Trick_times,
      p_Trick_times := ⟨pa_Trick_times, pg_Trick_times, pt_Trick_times, ⟨_, prr_Trick_times⟩⟩,
      a_Trick___eq__ := a_Trick___eq__,
      d_Trick___eq__ := _,
      F_Trick___eq__ := fun_mk (st := s_Trick___eq__) l_Trick___eq__ c_Trick___eq__ kp_Trick___eq__,
      b_Trick___eq__ := (fun_mk (st := s_Trick___eq__) l_Trick___eq__ c_Trick___eq__ kp_Trick___eq__).binds (ps := ["self", "other"]) fun _ _ _ _ _ _ us hl => match us, hl with | [_, _], _ => rfl,
      m_Trick___eq__ := ⟨gf_Trick___eq__, isf_Trick___eq__, kp_Trick___eq__⟩,
      n_int := PySem.W.mg_none_of X G z_int,
      n_bool := PySem.W.mg_none_of X G z_bool,
      n_len := PySem.W.mg_none_of X G z_len,
      n_range := PySem.W.mg_none_of X G z_range,
      n_isinstance := PySem.W.mg_none_of X G z_isinstance,
      n_tuple := PySem.W.mg_none_of X G z_tuple,
      n_list := PySem.W.mg_none_of X G z_list,
      n_enumerate := PySem.W.mg_none_of X G z_enumerate,
      n_all := PySem.W.mg_none_of X G z_all,
      n_super := PySem.W.mg_none_of X G z_super,
      n_ValueError := PySem.W.mg_none_of X G z_ValueError,
      a_BadTricks___init__ := a_BadTricks___init__,
      x_BadTricks := { gC := PySem.W.mg_of X G gx_BadTricks, cls := ⟨_, _, _, _, _, _, _, _, _, _, _, _, _, _, _, xl_BadTricks___init__, xrb_BadTricks___init__⟩, sa := xsa_BadTricks___init__, ga := xga_BadTricks___init__, gg := xgg_BadTricks___init__, noF := xnf_BadTricks___init__, iC := xic_BadTricks___init__, tC := xtc_BadTricks___init__, kC := k_BadTricks, exC := s_BadTricks, tyC := t_BadTricks, hdC := xhd_BadTricks___init__, up := xup_BadTricks___init__, any := xan_BadTricks___init__, ve := xve_BadTricks___init__, own := xow_BadTricks___init__, sup := PySem.W.mg_none_of X G z_super, main := rmn_BadTricks___init__, fn := ⟨_, _, _, _, _, _, _, _, _, _, _, _, _, _, _, _, _, _, _, xfn_BadTricks___init__, xco_BadTricks___init__, xcd_BadTricks___init__, rvs_BadTricks___init__, rfi_BadTricks___init__, xcc_BadTricks___init__⟩, text := ⟨_, _, _, _, _, _, _, _, _, _, _, rfl, rfl, fun _ => rfl⟩, kS := rfl, kK := rfl, k0 := rfl, kF := rfl, nF := by decide, nD := by decide, noCell := by decide +kernel, bind := fun _ _ _ _ _ _ _ _ _ => rfl, plain := fun _ => rfl, knd := rfl, co := rfl, gen := rfl },
      a_TooWide___init__ := a_TooWide___init__,
      x_TooWide := { gC := PySem.W.mg_of X G gx_TooWide, cls := ⟨_, _, _, _, _, _, _, _, _, _, _, _, _, _, _, xl_TooWide___init__, xrb_TooWide___init__⟩, sa := xsa_TooWide___init__, ga := xga_TooWide___init__, gg := xgg_TooWide___init__, noF := xnf_TooWide___init__, iC := xic_TooWide___init__, tC := xtc_TooWide___init__, kC := k_TooWide, exC := s_TooWide, tyC := t_TooWide, hdC := xhd_TooWide___init__, up := xup_TooWide___init__, any := xan_TooWide___init__, ve := xve_TooWide___init__, own := xow_TooWide___init__, sup := PySem.W.mg_none_of X G z_super, main := rmn_TooWide___init__, fn := ⟨_, _, _, _, _, _, _, _, _, _, _, _, _, _, _, _, _, _, _, xfn_TooWide___init__, xco_TooWide___init__, xcd_TooWide___init__, rvs_TooWide___init__, rfi_TooWide___init__, xcc_TooWide___init__⟩, text := ⟨_, _, _, _, _, _, _, _, _, _, _, rfl, rfl, fun _ => rfl⟩, kS := rfl, kK := rfl, k0 := rfl, kF := rfl, nF := by decide, nD := by decide, noCell := by decide +kernel, bind := fun _ _ _ _ _ _ _ _ _ => rfl, plain := fun _ => rfl, knd := rfl, co := rfl, gen := rfl } })
theorem walk {l : PySem.W.OpenLaw} {q : Program} {loose : List Str} {XP : (Str → Option Value) → Heap → Prop} {YP : World → Heap → Prop} {d : DefRec} {K : Params → PySem.W.Frag} (hn : l.most = some 63) (hdf : d.params.defaults = [])
    (hY : ∀ (w : World) (h : Heap), YP w h → (K w.params).In h)
    (F : ∀ (w : World) (mg : Str → Option Value) (fa : Addr) (h : Heap), (K w.params).In h → h.Ns mainGlobals mg → mg d.name = some (.ref fa) →
      ∃ fd : FuncData, (∀ (s : Shared) (u : Value), BindsTo s fd ⟨[u], []⟩ [("_law_script", u)]) ∧ ∀ base : Heap, (K w.params).In base → base.Ns mainGlobals mg → FnOk l.prog w (K w.params) mg base CX0 lv_law fa fd ["_law_script"] (sp_law (K w.params))) :
    PySem.W.WalkO q loose XP YP l.row.toRowW d [] (fun f vs => PySem.call f vs) :=
  L2.walk_of (n := 63) (k := lv_law) (x := "_law_script") (CX := fun _ => CX0) (sp := fun w => sp_law (K w.params)) hn (by decide) hdf ⟨rfl, by decide, by decide⟩ hY F (fun _ _ a ns hl hO hS => ⟨a, ns, rfl, scr_of hO hS, hl, fun _ => rfl⟩) fun _ _ _ _ _ z => z
end Rt
open PySem PySem.W PyProof.Rows
set_option maxRecDepth 100000 in
set_option maxHeartbeats 0 in
theorem PySem.Challenge.cw_resttricks_k32_whole_good_chains_holds : PySem.Challenge.rw_resttricks_k32_whole_good_chains.Holds := by
  w_on; o_law; k_head; (case hw => w_witness2)
  k_fill
  refine Rt.walk (l := PySem.Challenge.rw_resttricks_k32_whole_good_chains) rfl rfl (fun w h Y => PySem.W.kIn_of Y) ?F
  case F =>
    intro w mg fa h KX G hmg
    refine' Rt.all_mk KX G hmg ?gx_TrickError ?x_TrickError ?k_TrickError ?s_TrickError ?t_TrickError ?gx_BadBase ?x_BadBase ?k_BadBase ?s_BadBase ?t_BadBase ?gx_BadTake ?x_BadTake ?k_BadTake ?s_BadTake ?t_BadTake ?gx_BadTimes ?x_BadTimes ?k_BadTimes ?s_BadTimes ?t_BadTimes ?gx_BadTrick ?x_BadTrick ?k_BadTrick ?s_BadTrick ?t_BadTrick ?gx_BadDivisor ?x_BadDivisor ?k_BadDivisor ?s_BadDivisor ?t_BadDivisor ?gx_BadTricks ?k_BadTricks ?s_BadTricks ?t_BadTricks ?gx_TooWide ?k_TooWide ?s_TooWide ?t_TooWide ?cx_LEAST_BASE ?cx_GREATEST_BASE ?cx_GREATEST_TAKE ?cx_GREATEST_DIVISOR ?cx_GREATEST_TIMES ?cx_MOST_TRICKS ?cx_GREATEST_CHAIN_DIVISOR ?cx_GREATEST_PRODUCT ?gf_is_integer ?l_is_integer ?c_is_integer ?kp_is_integer ?gf_is_list_or_tuple ?l_is_list_or_tuple ?c_is_list_or_tuple ?kp_is_list_or_tuple ?gf_check_base ?l_check_base ?c_check_base ?kp_check_base ?gf_check_take ?l_check_take ?c_check_take ?kp_check_take ?gf_check_divisor ?l_check_divisor ?c_check_divisor ?kp_check_divisor ?ldT_check_divisor ?rdv_check_divisor ?gf_block_of ?l_block_of ?c_block_of ?kp_block_of ?gf_check_trick ?l_check_trick ?c_check_trick ?kp_check_trick ?gf_trick_block ?l_trick_block ?c_trick_block ?kp_trick_block ?gf_made_of ?l_made_of ?c_made_of ?kp_made_of ?gf_made_with ?l_made_with ?c_made_with ?kp_made_with ?gf_chain_tells ?l_chain_tells ?c_chain_tells ?kp_chain_tells ?gf_check_tricks ?l_check_tricks ?c_check_tricks ?kp_check_tricks ?gf_check_chain ?l_check_chain ?c_check_chain ?kp_check_chain ?gf_made_of_all ?l_made_of_all ?c_made_of_all ?kp_made_of_all ?gf_blocks_product ?l_blocks_product ?c_blocks_product ?kp_blocks_product ?gf_rest_pairs ?l_rest_pairs ?c_rest_pairs ?kp_rest_pairs ?gf_factor ?l_factor ?c_factor ?kp_factor ?gf_tells_multiples ?l_tells_multiples ?c_tells_multiples ?kp_tells_multiples ?gf__law_taken ?l__law_taken ?c__law_taken ?kp__law_taken ?gf__law_behind ?l__law_behind ?c__law_behind ?kp__law_behind ?gf__law_number ?l__law_number ?c__law_number ?kp__law_number ?gf__law_tricks ?l__law_tricks ?c__law_tricks ?kp__law_tricks ?gf_law ?l_law ?c_law ?kp_law ?gx_Trick ?pg_Trick ?hd_Trick ?po_Trick ?sa_Trick ?mk_Trick ?kc_Trick ?cc_Trick ?mo_Trick ?sp_cls ?tk_cls ?ki_Trick_int ?ki_Trick_bool ?ki_Trick_tuple ?ki_Trick_list ?nf_Trick_tuple ?kis_Trick ?kin_Trick_int ?kin_Trick_bool ?kin_Trick_tuple ?kin_Trick_list ?kin_Trick_NoneType ?kin_Trick_str ?kin_Trick_dict ?na_Trick_base ?na_Trick_take ?na_Trick_times ?gf_Trick___init__ ?l_Trick___init__ ?c_Trick___init__ ?kp_Trick___init__ ?isf_Trick___init__ ?pa_Trick_base ?pg_Trick_base ?pt_Trick_base ?prr_Trick_base ?l_Trick_base ?c_Trick_base ?kp_Trick_base ?pa_Trick_take ?pg_Trick_take ?pt_Trick_take ?prr_Trick_take ?l_Trick_take ?c_Trick_take ?kp_Trick_take ?pa_Trick_times ?pg_Trick_times ?pt_Trick_times ?prr_Trick_times ?l_Trick_times ?c_Trick_times ?kp_Trick_times ?gf_Trick___eq__ ?l_Trick___eq__ ?c_Trick___eq__ ?kp_Trick___eq__ ?isf_Trick___eq__ ?z_int ?z_bool ?z_len ?z_range ?z_isinstance ?z_tuple ?z_list ?z_enumerate ?z_all ?z_super ?z_ValueError ?xl_BadTricks___init__ ?xrb_BadTricks___init__ ?xsa_BadTricks___init__ ?xga_BadTricks___init__ ?xgg_BadTricks___init__ ?xnf_BadTricks___init__ ?xic_BadTricks___init__ ?xtc_BadTricks___init__ ?xhd_BadTricks___init__ ?xup_BadTricks___init__ ?xan_BadTricks___init__ ?xve_BadTricks___init__ ?xow_BadTricks___init__ ?rmn_BadTricks___init__ ?xfn_BadTricks___init__ ?xco_BadTricks___init__ ?xcd_BadTricks___init__ ?rvs_BadTricks___init__ ?rfi_BadTricks___init__ ?xcc_BadTricks___init__ ?xl_TooWide___init__ ?xrb_TooWide___init__ ?xsa_TooWide___init__ ?xga_TooWide___init__ ?xgg_TooWide___init__ ?xnf_TooWide___init__ ?xic_TooWide___init__ ?xtc_TooWide___init__ ?xhd_TooWide___init__ ?xup_TooWide___init__ ?xan_TooWide___init__ ?xve_TooWide___init__ ?xow_TooWide___init__ ?rmn_TooWide___init__ ?xfn_TooWide___init__ ?xco_TooWide___init__ ?xcd_TooWide___init__ ?rvs_TooWide___init__ ?rfi_TooWide___init__ ?xcc_TooWide___init__
    (case gx_TrickError => k_is)
    (case x_TrickError => k_exc)
    (case k_TrickError => k_is)
    (case s_TrickError => k_is)
    (case t_TrickError => k_is)
    (case gx_BadBase => k_is)
    (case x_BadBase => k_exc)
    (case k_BadBase => k_is)
    (case s_BadBase => k_is)
    (case t_BadBase => k_is)
    (case gx_BadTake => k_is)
    (case x_BadTake => k_exc)
    (case k_BadTake => k_is)
    (case s_BadTake => k_is)
    (case t_BadTake => k_is)
    (case gx_BadTimes => k_is)
    (case x_BadTimes => k_exc)
    (case k_BadTimes => k_is)
    (case s_BadTimes => k_is)
    (case t_BadTimes => k_is)
    (case gx_BadTrick => k_is)
    (case x_BadTrick => k_exc)
    (case k_BadTrick => k_is)
    (case s_BadTrick => k_is)
    (case t_BadTrick => k_is)
    (case gx_BadDivisor => k_is)
    (case x_BadDivisor => k_exc)
    (case k_BadDivisor => k_is)
    (case s_BadDivisor => k_is)
    (case t_BadDivisor => k_is)
    (case gx_BadTricks => k_is)
    (case k_BadTricks => k_is)
    (case s_BadTricks => k_is)
    (case t_BadTricks => k_is)
    (case gx_TooWide => k_is)
    (case k_TooWide => k_is)
    (case s_TooWide => k_is)
    (case t_TooWide => k_is)
    (case cx_LEAST_BASE => k_is)
    (case cx_GREATEST_BASE => k_is)
    (case cx_GREATEST_TAKE => k_is)
    (case cx_GREATEST_DIVISOR => k_is)
    (case cx_GREATEST_TIMES => k_is)
    (case cx_MOST_TRICKS => k_is)
    (case cx_GREATEST_CHAIN_DIVISOR => k_is)
    (case cx_GREATEST_PRODUCT => k_is)
    (case gf_is_integer => k_is)
    (case l_is_integer => k_is)
    (case c_is_integer => k_is)
    (case kp_is_integer => k_is)
    (case gf_is_list_or_tuple => k_is)
    (case l_is_list_or_tuple => k_is)
    (case c_is_list_or_tuple => k_is)
    (case kp_is_list_or_tuple => k_is)
    (case gf_check_base => k_is)
    (case l_check_base => k_is)
    (case c_check_base => k_is)
    (case kp_check_base => k_is)
    (case gf_check_take => k_is)
    (case l_check_take => k_is)
    (case c_check_take => k_is)
    (case kp_check_take => k_is)
    (case gf_check_divisor => k_is)
    (case l_check_divisor => k_is)
    (case c_check_divisor => k_is)
    (case kp_check_divisor => k_is)
    (case ldT_check_divisor => k_is)
    (case rdv_check_divisor => first | rfl | decide +kernel)
    (case gf_block_of => k_is)
    (case l_block_of => k_is)
    (case c_block_of => k_is)
    (case kp_block_of => k_is)
    (case gf_check_trick => k_is)
    (case l_check_trick => k_is)
    (case c_check_trick => k_is)
    (case kp_check_trick => k_is)
    (case gf_trick_block => k_is)
    (case l_trick_block => k_is)
    (case c_trick_block => k_is)
    (case kp_trick_block => k_is)
    (case gf_made_of => k_is)
    (case l_made_of => k_is)
    (case c_made_of => k_is)
    (case kp_made_of => k_is)
    (case gf_made_with => k_is)
    (case l_made_with => k_is)
    (case c_made_with => k_is)
    (case kp_made_with => k_is)
    (case gf_chain_tells => k_is)
    (case l_chain_tells => k_is)
    (case c_chain_tells => k_is)
    (case kp_chain_tells => k_is)
    (case gf_check_tricks => k_is)
    (case l_check_tricks => k_is)
    (case c_check_tricks => k_is)
    (case kp_check_tricks => k_is)
    (case gf_check_chain => k_is)
    (case l_check_chain => k_is)
    (case c_check_chain => k_is)
    (case kp_check_chain => k_is)
    (case gf_made_of_all => k_is)
    (case l_made_of_all => k_is)
    (case c_made_of_all => k_is)
    (case kp_made_of_all => k_is)
    (case gf_blocks_product => k_is)
    (case l_blocks_product => k_is)
    (case c_blocks_product => k_is)
    (case kp_blocks_product => k_is)
    (case gf_rest_pairs => k_is)
    (case l_rest_pairs => k_is)
    (case c_rest_pairs => k_is)
    (case kp_rest_pairs => k_is)
    (case gf_factor => k_is)
    (case l_factor => k_is)
    (case c_factor => k_is)
    (case kp_factor => k_is)
    (case gf_tells_multiples => k_is)
    (case l_tells_multiples => k_is)
    (case c_tells_multiples => k_is)
    (case kp_tells_multiples => k_is)
    (case gf__law_taken => k_is)
    (case l__law_taken => k_is)
    (case c__law_taken => k_is)
    (case kp__law_taken => k_is)
    (case gf__law_behind => k_is)
    (case l__law_behind => k_is)
    (case c__law_behind => k_is)
    (case kp__law_behind => k_is)
    (case gf__law_number => k_is)
    (case l__law_number => k_is)
    (case c__law_number => k_is)
    (case kp__law_number => k_is)
    (case gf__law_tricks => k_is)
    (case l__law_tricks => k_is)
    (case c__law_tricks => k_is)
    (case kp__law_tricks => k_is)
    (case gf_law => k_is)
    (case l_law => k_is)
    (case c_law => k_is)
    (case kp_law => k_is)
    (case gx_Trick => k_is)
    (case pg_Trick => k_is)
    (case hd_Trick => k_is)
    (case po_Trick => k_is)
    (case sa_Trick => k_is)
    (case mk_Trick => k_is)
    (case kc_Trick => k_is)
    (case cc_Trick => k_is)
    (case mo_Trick => k_is)
    (case sp_cls => k_is)
    (case tk_cls => k_is)
    (case ki_Trick_int => first | k_is | rfl)
    (case ki_Trick_bool => first | k_is | rfl)
    (case ki_Trick_tuple => first | k_is | rfl)
    (case ki_Trick_list => first | k_is | rfl)
    (case nf_Trick_tuple => first | k_is | rfl)
    (case kis_Trick => first | k_is | rfl)
    (case kin_Trick_int => first | k_is | rfl)
    (case kin_Trick_bool => first | k_is | rfl)
    (case kin_Trick_tuple => first | k_is | rfl)
    (case kin_Trick_list => first | k_is | rfl)
    (case kin_Trick_NoneType => first | k_is | rfl)
    (case kin_Trick_str => first | k_is | rfl)
    (case kin_Trick_dict => first | k_is | rfl)
    (case na_Trick_base => k_is)
    (case na_Trick_take => k_is)
    (case na_Trick_times => k_is)
    (case gf_Trick___init__ => k_is)
    (case l_Trick___init__ => k_is)
    (case c_Trick___init__ => k_is)
    (case kp_Trick___init__ => k_is)
    (case isf_Trick___init__ => k_is)
    (case pa_Trick_base => k_is)
    (case pg_Trick_base => k_is)
    (case pt_Trick_base => k_is)
    (case prr_Trick_base => k_is)
    (case l_Trick_base => k_is)
    (case c_Trick_base => k_is)
    (case kp_Trick_base => k_is)
    (case pa_Trick_take => k_is)
    (case pg_Trick_take => k_is)
    (case pt_Trick_take => k_is)
    (case prr_Trick_take => k_is)
    (case l_Trick_take => k_is)
    (case c_Trick_take => k_is)
    (case kp_Trick_take => k_is)
    (case pa_Trick_times => k_is)
    (case pg_Trick_times => k_is)
    (case pt_Trick_times => k_is)
    (case prr_Trick_times => k_is)
    (case l_Trick_times => k_is)
    (case c_Trick_times => k_is)
    (case kp_Trick_times => k_is)
    (case gf_Trick___eq__ => k_is)
    (case l_Trick___eq__ => k_is)
    (case c_Trick___eq__ => k_is)
    (case kp_Trick___eq__ => k_is)
    (case isf_Trick___eq__ => k_is)
    (case z_int => k_is)
    (case z_bool => k_is)
    (case z_len => k_is)
    (case z_range => k_is)
    (case z_isinstance => k_is)
    (case z_tuple => k_is)
    (case z_list => k_is)
    (case z_enumerate => k_is)
    (case z_all => k_is)
    (case z_super => k_is)
    (case z_ValueError => k_is)
    (case xl_BadTricks___init__ => k_is)
    (case xrb_BadTricks___init__ => first | rfl | decide +kernel)
    (case xsa_BadTricks___init__ => k_is)
    (case xga_BadTricks___init__ => k_is)
    (case xgg_BadTricks___init__ => k_is)
    (case xnf_BadTricks___init__ => k_is)
    (case xic_BadTricks___init__ => k_is)
    (case xtc_BadTricks___init__ => k_is)
    (case xhd_BadTricks___init__ => k_is)
    (case xup_BadTricks___init__ => ks_is)
    (case xan_BadTricks___init__ => k_is)
    (case xve_BadTricks___init__ => k_is)
    (case xow_BadTricks___init__ => k_is)
    (case rmn_BadTricks___init__ => first | rfl | decide +kernel)
    (case xfn_BadTricks___init__ => k_is)
    (case xco_BadTricks___init__ => k_is)
    (case xcd_BadTricks___init__ => k_is)
    (case rvs_BadTricks___init__ => first | rfl | decide +kernel)
    (case rfi_BadTricks___init__ => first | rfl | decide +kernel)
    (case xcc_BadTricks___init__ => k_is)
    (case xl_TooWide___init__ => k_is)
    (case xrb_TooWide___init__ => first | rfl | decide +kernel)
    (case xsa_TooWide___init__ => k_is)
    (case xga_TooWide___init__ => k_is)
    (case xgg_TooWide___init__ => k_is)
    (case xnf_TooWide___init__ => k_is)
    (case xic_TooWide___init__ => k_is)
    (case xtc_TooWide___init__ => k_is)
    (case xhd_TooWide___init__ => k_is)
    (case xup_TooWide___init__ => ks_is)
    (case xan_TooWide___init__ => k_is)
    (case xve_TooWide___init__ => k_is)
    (case xow_TooWide___init__ => k_is)
    (case rmn_TooWide___init__ => first | rfl | decide +kernel)
    (case xfn_TooWide___init__ => k_is)
    (case xco_TooWide___init__ => k_is)
    (case xcd_TooWide___init__ => k_is)
    (case rvs_TooWide___init__ => first | rfl | decide +kernel)
    (case rfi_TooWide___init__ => first | rfl | decide +kernel)
    (case xcc_TooWide___init__ => k_is)
#print axioms PySem.Challenge.cw_resttricks_k32_whole_good_chains_holds
