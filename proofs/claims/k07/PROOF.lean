import PyProof.Rows.All
import Wide.All
import OpenK.AllK
import Wide.FinOn
import HandS.ForMost
import HandS.Exc
import HandS.TryOnly
import HandS.ExcOwn
import HandS.WordsExc
import HandS.TryMany
import HandS.IsInst
import HandS.Property
import HandS.Wide
import HandS.SortInts
import HandS.Conv
import HandS.Evl
import HandS.NoneIn
import HandS.ExcIs
import HandS.ExcSuper
import KE.KExcSuper
import KE.KExcInit
import KE.GoesMore
import HandS.Rev
import HandS.FStr
import HandS.Walk
import HandS.WideMore
import HandS.TupAny
import HandS.TupMul
import HandS.Style
import HandS.SetFor
import HandS.Strs
import HandS.Defaults
import HandS.RaiseMore
import HandS.Zip
import PySem.Challenge.RW_resttricks_k07_numbers_refused
set_option Elab.async false
set_option linter.all false
set_option maxRecDepth 100000
set_option maxHeartbeats 2000000
namespace Rt
open PySem L2 PySem.Spec PyProof.Rows
/-! ### the text by places -/
def topS (i : Nat) : Stmt := PySem.Challenge.pw_resttricks_k07_numbers_refused.main.body.getD i (.Pass ⟨0, 0, 0, 0⟩)
abbrev s__wall : Stmt := topS 0
abbrev s_is_integer : Stmt := topS 16
abbrev s_is_tuple : Stmt := topS 17
abbrev s_is_list_or_tuple : Stmt := topS 18
abbrev s_is_number : Stmt := topS 19
abbrev s_first_wrong : Stmt := topS 20
abbrev s_check_base : Stmt := topS 21
abbrev s_check_take : Stmt := topS 22
abbrev s_check_stretch : Stmt := topS 23
abbrev s_check_number : Stmt := topS 24
abbrev s_block_of : Stmt := topS 26
abbrev s_done : Stmt := topS 31
abbrev s_trail : Stmt := topS 32
abbrev s_ahead : Stmt := topS 33
abbrev s_check_trick : Stmt := topS 34
abbrev s_trick_block : Stmt := topS 35
abbrev s_made_of : Stmt := topS 36
abbrev s_made_with : Stmt := topS 37
abbrev s_chained : Stmt := topS 40
abbrev s_check_tricks : Stmt := topS 41
abbrev s_made_of_all : Stmt := topS 42
abbrev s_ring_of : Stmt := topS 44
abbrev s_rounds : Stmt := topS 45
abbrev s_unseen_path : Stmt := topS 46
abbrev s_ring_at_end : Stmt := topS 47
abbrev s_total : Stmt := topS 54
abbrev s_check_weights : Stmt := topS 55
abbrev s_check_sum : Stmt := topS 56
abbrev s_sum_block : Stmt := topS 57
abbrev s_weight_at : Stmt := topS 58
abbrev s__law_taken : Stmt := topS 60
abbrev s__law_odd_number : Stmt := topS 61
abbrev s__law_call : Stmt := topS 62
abbrev s_law : Stmt := topS 63
abbrev s_BadNumber___init__ : Stmt := inClass (topS 7) 0
abbrev s_BadWeights___init__ : Stmt := inClass (topS 8) 0
abbrev s_BadTricks___init__ : Stmt := inClass (topS 10) 0
abbrev s_Trick___init__ : Stmt := inClass (topS 30) 0
abbrev s_Trick_base : Stmt := inClass (topS 30) 1
abbrev s_Trick_take : Stmt := inClass (topS 30) 2
abbrev s_Trick_times : Stmt := inClass (topS 30) 3
abbrev s_Trick___eq__ : Stmt := inClass (topS 30) 4
abbrev s_Reckoner___init__ : Stmt := inClass (topS 49) 0
abbrev s_Reckoner_now : Stmt := inClass (topS 49) 1
abbrev s_Reckoner_tricks : Stmt := inClass (topS 49) 2
abbrev s_Reckoner_step : Stmt := inClass (topS 49) 3
abbrev s_Reckoner_undo : Stmt := inClass (topS 49) 4
abbrev s_Reckoner_copy : Stmt := inClass (topS 49) 5
abbrev s_Reckoner___len__ : Stmt := inClass (topS 49) 6
abbrev s_Sum___init__ : Stmt := inClass (topS 53) 0
abbrev s_Sum_base : Stmt := inClass (topS 53) 1
abbrev s_Sum_take : Stmt := inClass (topS 53) 2
abbrev s_Sum_first : Stmt := inClass (topS 53) 3
abbrev s_Sum_loop : Stmt := inClass (topS 53) 4
abbrev s_Sum___eq__ : Stmt := inClass (topS 53) 5
theorem sc__wall : FnScope ["k"] ["k"] (defScope s__wall) := ⟨rfl, rfl, rfl, by decide +kernel, rfl, by decide +kernel, by decide +kernel⟩
abbrev lv__wall : Nat := 1
theorem sc_is_integer : FnScope ["told", "low", "high"] ["told", "low", "high"] (defScope s_is_integer) := ⟨rfl, rfl, rfl, by decide +kernel, rfl, by decide +kernel, by decide +kernel⟩
abbrev lv_is_integer : Nat := 1
theorem sc_is_tuple : FnScope ["told", "fewest", "most"] ["told", "fewest", "most"] (defScope s_is_tuple) := ⟨rfl, rfl, rfl, by decide +kernel, rfl, by decide +kernel, by decide +kernel⟩
abbrev lv_is_tuple : Nat := 1
theorem sc_is_list_or_tuple : FnScope ["told", "fewest", "most"] ["told", "fewest", "most"] (defScope s_is_list_or_tuple) := ⟨rfl, rfl, rfl, by decide +kernel, rfl, by decide +kernel, by decide +kernel⟩
abbrev lv_is_list_or_tuple : Nat := 1
theorem sc_is_number : FnScope ["told"] ["told"] (defScope s_is_number) := ⟨rfl, rfl, rfl, by decide +kernel, rfl, by decide +kernel, by decide +kernel⟩
abbrev lv_is_number : Nat := 2
theorem sc_first_wrong : FnScope ["told", "low", "high", "index", "thing"] ["told", "low", "high"] (defScope s_first_wrong) := ⟨rfl, rfl, rfl, by decide +kernel, rfl, by decide +kernel, by decide +kernel⟩
abbrev lv_first_wrong : Nat := 2
theorem sc_check_base : FnScope ["base"] ["base"] (defScope s_check_base) := ⟨rfl, rfl, rfl, by decide +kernel, rfl, by decide +kernel, by decide +kernel⟩
abbrev lv_check_base : Nat := 2
theorem sc_check_take : FnScope ["take"] ["take"] (defScope s_check_take) := ⟨rfl, rfl, rfl, by decide +kernel, rfl, by decide +kernel, by decide +kernel⟩
abbrev lv_check_take : Nat := 2
theorem sc_check_stretch : FnScope ["n", "low", "high"] ["n", "low", "high"] (defScope s_check_stretch) := ⟨rfl, rfl, rfl, by decide +kernel, rfl, by decide +kernel, by decide +kernel⟩
abbrev lv_check_stretch : Nat := 3
theorem sc_check_number : FnScope ["n"] ["n"] (defScope s_check_number) := ⟨rfl, rfl, rfl, by decide +kernel, rfl, by decide +kernel, by decide +kernel⟩
abbrev lv_check_number : Nat := 3
theorem sc_block_of : FnScope ["base", "take"] ["base", "take"] (defScope s_block_of) := ⟨rfl, rfl, rfl, by decide +kernel, rfl, by decide +kernel, by decide +kernel⟩
abbrev lv_block_of : Nat := 1
theorem sc_done : FnScope ["trick", "n"] ["trick", "n"] (defScope s_done) := ⟨rfl, rfl, rfl, by decide +kernel, rfl, by decide +kernel, by decide +kernel⟩
abbrev lv_done : Nat := 5
theorem sc_trail : FnScope ["trick", "n", "rounds", "found", "_"] ["trick", "n", "rounds"] (defScope s_trail) := ⟨rfl, rfl, rfl, by decide +kernel, rfl, by decide +kernel, by decide +kernel⟩
abbrev lv_trail : Nat := 7
theorem sc_ahead : FnScope ["trick", "n", "block", "found", "rest", "quotient"] ["trick", "n"] (defScope s_ahead) := ⟨rfl, rfl, rfl, by decide +kernel, rfl, by decide +kernel, by decide +kernel⟩
abbrev lv_ahead : Nat := 4
theorem sc_check_trick : FnScope ["trick"] ["trick"] (defScope s_check_trick) := ⟨rfl, rfl, rfl, by decide +kernel, rfl, by decide +kernel, by decide +kernel⟩
abbrev lv_check_trick : Nat := 1
theorem sc_trick_block : FnScope ["trick"] ["trick"] (defScope s_trick_block) := ⟨rfl, rfl, rfl, by decide +kernel, rfl, by decide +kernel, by decide +kernel⟩
abbrev lv_trick_block : Nat := 3
theorem sc_made_of : FnScope ["trick", "n"] ["trick", "n"] (defScope s_made_of) := ⟨rfl, rfl, rfl, by decide +kernel, rfl, by decide +kernel, by decide +kernel⟩
abbrev lv_made_of : Nat := 4
theorem sc_made_with : FnScope ["block", "times", "n"] ["block", "times", "n"] (defScope s_made_with) := ⟨rfl, rfl, rfl, by decide +kernel, rfl, by decide +kernel, by decide +kernel⟩
abbrev lv_made_with : Nat := 1
theorem sc_chained : FnScope ["tricks", "n"] ["tricks", "n"] (defScope s_chained) := ⟨rfl, rfl, rfl, by decide +kernel, rfl, by decide +kernel, by decide +kernel⟩
abbrev lv_chained : Nat := 6
theorem sc_check_tricks : FnScope ["tricks", "index", "trick"] ["tricks"] (defScope s_check_tricks) := ⟨rfl, rfl, rfl, by decide +kernel, rfl, by decide +kernel, by decide +kernel⟩
abbrev lv_check_tricks : Nat := 3
theorem sc_made_of_all : FnScope ["tricks", "n", "trick"] ["tricks", "n"] (defScope s_made_of_all) := ⟨rfl, rfl, rfl, by decide +kernel, rfl, by decide +kernel, by decide +kernel⟩
abbrev lv_made_of_all : Nat := 5
theorem sc_ring_of : FnScope ["trick", "n", "path", "ring"] ["trick", "n"] (defScope s_ring_of) := ⟨rfl, rfl, rfl, by decide +kernel, rfl, by decide +kernel, by decide +kernel⟩
abbrev lv_ring_of : Nat := 6
theorem sc_rounds : FnScope ["trick", "n", "low", "many", "later"] ["trick", "n", "low"] (defScope s_rounds) := ⟨rfl, rfl, rfl, by decide +kernel, rfl, by decide +kernel, by decide +kernel⟩
abbrev lv_rounds : Nat := 6
theorem sc_unseen_path : FnScope ["trick", "n", "seen", "path"] ["trick", "n", "seen"] (defScope s_unseen_path) := ⟨rfl, rfl, rfl, by decide +kernel, rfl, by decide +kernel, by decide +kernel⟩
abbrev lv_unseen_path : Nat := 5
theorem sc_ring_at_end : FnScope ["trick", "path", "ring", "least_at"] ["trick", "path"] (defScope s_ring_at_end) := ⟨rfl, rfl, rfl, by decide +kernel, rfl, by decide +kernel, by decide +kernel⟩
abbrev lv_ring_at_end : Nat := 5
theorem sc_total : FnScope ["told", "n", "block", "found", "place", "left"] ["told", "n"] (defScope s_total) := ⟨rfl, rfl, rfl, by decide +kernel, rfl, by decide +kernel, by decide +kernel⟩
abbrev lv_total : Nat := 4
theorem sc_check_weights : FnScope ["told", "fewest", "index"] ["told", "fewest"] (defScope s_check_weights) := ⟨rfl, rfl, rfl, by decide +kernel, rfl, by decide +kernel, by decide +kernel⟩
abbrev lv_check_weights : Nat := 3
theorem sc_check_sum : FnScope ["told"] ["told"] (defScope s_check_sum) := ⟨rfl, rfl, rfl, by decide +kernel, rfl, by decide +kernel, by decide +kernel⟩
abbrev lv_check_sum : Nat := 1
theorem sc_sum_block : FnScope ["told"] ["told"] (defScope s_sum_block) := ⟨rfl, rfl, rfl, by decide +kernel, rfl, by decide +kernel, by decide +kernel⟩
abbrev lv_sum_block : Nat := 3
theorem sc_weight_at : FnScope ["told", "place", "further"] ["told", "place"] (defScope s_weight_at) := ⟨rfl, rfl, rfl, by decide +kernel, rfl, by decide +kernel, by decide +kernel⟩
abbrev lv_weight_at : Nat := 3
theorem sc__law_taken : FnScope ["_law_row", "_law_many", "_law_found", "_law_cell"] ["_law_row", "_law_many"] (defScope s__law_taken) := ⟨rfl, rfl, rfl, by decide +kernel, rfl, by decide +kernel, by decide +kernel⟩
abbrev lv__law_taken : Nat := 1
theorem sc__law_odd_number : FnScope ["_law_row"] ["_law_row"] (defScope s__law_odd_number) := ⟨rfl, rfl, rfl, by decide +kernel, rfl, by decide +kernel, by decide +kernel⟩
abbrev lv__law_odd_number : Nat := 2
theorem sc__law_call : FnScope ["_law_kind", "_law_value", "_law_trick"] ["_law_kind", "_law_value"] (defScope s__law_call) := ⟨rfl, rfl, rfl, by decide +kernel, rfl, by decide +kernel, by decide +kernel⟩
abbrev lv__law_call : Nat := 8
theorem sc_law : FnScope ["_law_script", "_law_line", "_law_turn", "_law_kind", "_law_value", "_law_due", "_law_found", "e"] ["_law_script"] (defScope s_law) := ⟨rfl, rfl, rfl, by decide +kernel, rfl, by decide +kernel, by decide +kernel⟩
abbrev lv_law : Nat := 10
theorem sc_Trick___init__ : FnScope ["self", "base", "take", "times"] ["self", "base", "take", "times"] (defScope s_Trick___init__) := ⟨rfl, rfl, rfl, by decide +kernel, rfl, by decide +kernel, by decide +kernel⟩
abbrev lv_Trick___init__ : Nat := 3
theorem sc_Trick_base : FnScope ["self"] ["self"] (defScope s_Trick_base) := ⟨rfl, rfl, rfl, by decide +kernel, rfl, by decide +kernel, by decide +kernel⟩
abbrev lv_Trick_base : Nat := 1
theorem sc_Trick_take : FnScope ["self"] ["self"] (defScope s_Trick_take) := ⟨rfl, rfl, rfl, by decide +kernel, rfl, by decide +kernel, by decide +kernel⟩
abbrev lv_Trick_take : Nat := 1
theorem sc_Trick_times : FnScope ["self"] ["self"] (defScope s_Trick_times) := ⟨rfl, rfl, rfl, by decide +kernel, rfl, by decide +kernel, by decide +kernel⟩
abbrev lv_Trick_times : Nat := 1
theorem sc_Trick___eq__ : FnScope ["self", "other"] ["self", "other"] (defScope s_Trick___eq__) := ⟨rfl, rfl, rfl, by decide +kernel, rfl, by decide +kernel, by decide +kernel⟩
abbrev lv_Trick___eq__ : Nat := 1
theorem sc_Reckoner___init__ : FnScope ["self", "n"] ["self", "n"] (defScope s_Reckoner___init__) := ⟨rfl, rfl, rfl, by decide +kernel, rfl, by decide +kernel, by decide +kernel⟩
abbrev lv_Reckoner___init__ : Nat := 4
theorem sc_Reckoner_now : FnScope ["self"] ["self"] (defScope s_Reckoner_now) := ⟨rfl, rfl, rfl, by decide +kernel, rfl, by decide +kernel, by decide +kernel⟩
abbrev lv_Reckoner_now : Nat := 2
theorem sc_Reckoner_tricks : FnScope ["self"] ["self"] (defScope s_Reckoner_tricks) := ⟨rfl, rfl, rfl, by decide +kernel, rfl, by decide +kernel, by decide +kernel⟩
abbrev lv_Reckoner_tricks : Nat := 1
theorem sc_Reckoner_step : FnScope ["self", "trick"] ["self", "trick"] (defScope s_Reckoner_step) := ⟨rfl, rfl, rfl, by decide +kernel, rfl, by decide +kernel, by decide +kernel⟩
abbrev lv_Reckoner_step : Nat := 2
theorem sc_Reckoner_undo : FnScope ["self"] ["self"] (defScope s_Reckoner_undo) := ⟨rfl, rfl, rfl, by decide +kernel, rfl, by decide +kernel, by decide +kernel⟩
abbrev lv_Reckoner_undo : Nat := 2
theorem sc_Reckoner_copy : FnScope ["self"] ["self"] (defScope s_Reckoner_copy) := ⟨rfl, rfl, rfl, by decide +kernel, rfl, by decide +kernel, by decide +kernel⟩
abbrev lv_Reckoner_copy : Nat := 2
theorem sc_Reckoner___len__ : FnScope ["self"] ["self"] (defScope s_Reckoner___len__) := ⟨rfl, rfl, rfl, by decide +kernel, rfl, by decide +kernel, by decide +kernel⟩
abbrev lv_Reckoner___len__ : Nat := 1
theorem sc_Sum___init__ : FnScope ["self", "base", "take", "first", "loop"] ["self", "base", "take", "first", "loop"] (defScope s_Sum___init__) := ⟨rfl, rfl, rfl, by decide +kernel, rfl, by decide +kernel, by decide +kernel⟩
abbrev lv_Sum___init__ : Nat := 4
theorem sc_Sum_base : FnScope ["self"] ["self"] (defScope s_Sum_base) := ⟨rfl, rfl, rfl, by decide +kernel, rfl, by decide +kernel, by decide +kernel⟩
abbrev lv_Sum_base : Nat := 1
theorem sc_Sum_take : FnScope ["self"] ["self"] (defScope s_Sum_take) := ⟨rfl, rfl, rfl, by decide +kernel, rfl, by decide +kernel, by decide +kernel⟩
abbrev lv_Sum_take : Nat := 1
theorem sc_Sum_first : FnScope ["self"] ["self"] (defScope s_Sum_first) := ⟨rfl, rfl, rfl, by decide +kernel, rfl, by decide +kernel, by decide +kernel⟩
abbrev lv_Sum_first : Nat := 1
theorem sc_Sum_loop : FnScope ["self"] ["self"] (defScope s_Sum_loop) := ⟨rfl, rfl, rfl, by decide +kernel, rfl, by decide +kernel, by decide +kernel⟩
abbrev lv_Sum_loop : Nat := 1
theorem sc_Sum___eq__ : FnScope ["self", "other"] ["self", "other"] (defScope s_Sum___eq__) := ⟨rfl, rfl, rfl, by decide +kernel, rfl, by decide +kernel, by decide +kernel⟩
abbrev lv_Sum___eq__ : Nat := 1
/-! ### what is known of the top behind its run -/
/-! ### an own error whose __init__ says super().__init__(text); self.F = F -/
end Rt
namespace ErrX
open PySem PySem.W PySem.Calls PyProof.Rows PySem.HandSPX
/-- what the written part says of such a class at C, its field F, its __init__ at fI -/
structure ErrTxt (P : Program) (K : Frag) (mg : Str → Option Value) (x fld : Str) (C fI : Addr) (ae : PySem.Expr) (st : Stmt) : Prop where
  gC : mg x = some (.ref C)
  cls : ∃ nm q N bs bm sn sub ab col dd k0 k1 k2 k3 k5, K.lookup C = some (excClassObj nm q C N bs bm true sn sub ab col dd k0 k1 k2 k3 k5 "ValueError.__new__") ∧ refsVE bm = true
  sa : findIn K (.ref C) "__setattr__" = some (some (.builtin "object.__setattr__"))
  ga : findIn K (.ref C) "__getattribute__" = some (some (.builtin "BaseException.__getattribute__"))
  gg : findIn K (.ref C) "__getattr__" = some none
  noF : findIn K (.ref C) fld = some none
  iC : findIn K (.ref C) "__init__" = some (some (.ref fI))
  tC : typeIn K (.ref fI) = some (.type "function")
  kC : keepIn K (.ref C) = true
  exC : subIn K (.ref C) (.type "BaseException") = some true
  tyC : typeIn K (.ref C) = some (.type "type")
  hdC : hasDictIn K C = true
  up : ks_superIn K C C "__init__" = some (some (.builtin "ValueError.__init__"))
  any : nsIn K cStatics "thirdparty.any" = some none
  ve : subIn K (.ref C) (.type "ValueError") = some true
  own : mroIn K C (.ref C) = some true
  sup : mg "super" = none
  main : (P.main.scope.names.lookup ("super" : Str)).isSome = false
  fn : ∃ (oc : Value) (od : Option Addr) (doc pm : Value) (an : Option Addr) (cda : Addr) (ct : Value) (osl : Array (Option Value)) (cc : Addr) (vs : Array Value) (file : Str) (tf : Tok) (ccl cl : Value) (cdd cld : Option Addr) (ccs csl : Array (Option Value)) (qual : Str),
    K.lookup fI = some ⟨oc, od, .func (ksFn "__init__" qual (L2.defArgs st) (L2.defBody st) (L2.defScope st) .none .none doc pm an (.ref cda) ct cc), osl⟩ ∧ codeIn K (.ref cda) qual = true ∧
    K.lookup cda = some ⟨ccl, cdd, .fields vs, ccs⟩ ∧ vs[2]? = some (.str file tf) ∧ ((P.main.file : Str) == file) = true ∧ K.lookup cc = some ⟨cl, cld, .cell (some (.ref C)), csl⟩
  text : ∃ (p0 p1 p2 p3 p4 q1 q2 q3 q4 a1 a2 : Pos), L2.defBody st = [.Expr (.Call (.Attribute (.Call (.Name "super" p0) [] [] p1) "__init__" p2) [ae] [] p3) p4, .Assign [.Attribute (.Name "self" q1) fld q2] (.Name fld q3) q4] ∧
    L2.defArgs st = { posonlyargs := [], args := [{ arg := "self", annotation := none, pos := a1 }, { arg := fld, annotation := none, pos := a2 }], vararg := none, kwonlyargs := [], kw_defaults := [], kwarg := none, defaults := [] } ∧
    ∀ env : Env, eval (.Call (.Attribute (.Call (.Name "super" p0) [] [] p1) "__init__" p2) [ae] [] p3) env = (do
      let ov ← attributeBase (.Call (.Name "super" p0) [] [] p1) "__init__" env (eval (.Call (.Name "super" p0) [] [] p1) env)
      standAt p2.atName
      let (f, first) ← holding [ov] (getMethod ov "__init__" (do return (← importBound (.Call (.Name "super" p0) [] [] p1) env).getD true))
      callWith p3 f first (backTo p3 (starEach [ae] env)) [])
  kS : (L2.defScope st).names.lookup ("super" : Str) = some .globalImplicit
  kK : (L2.defScope st).names.lookup ("__class__" : Str) = some .free
  k0 : (L2.defScope st).names.lookup ("self" : Str) = some .local
  kF : (L2.defScope st).names.lookup fld = some .local
  nF : (("self" : Str) == fld) = false
  nD : (fld == ("__debug__" : Str)) = false
  noCell : ∀ y ∈ (L2.defScope st).names, y.2 ≠ .cell
  bind : ∀ (qual : Str) (doc pm : Value) (an : Option Addr) (cda : Addr) (ct : Value) (cc : Addr) (u v : Value), bindArgs (ksFn "__init__" qual (L2.defArgs st) (L2.defBody st) (L2.defScope st) .none .none doc pm an (.ref cda) ct cc) ⟨[u, v], []⟩ = pure [(("self" : Str), u), (fld, v)]
  plain : ∀ env : Env, starEach (ae :: []) env = (false, eval ae env) :: starEach [] env
  knd : (L2.defScope st).kind = .function
  co : (L2.defScope st).isCoroutine = false
  gen : (L2.defScope st).isGenerator = false
/-- what __init__ leaves of a fresh error at x -/
structure EndOf (h h' : Heap) (x C dx t1 : Addr) (fld : Str) (v : Value) : Prop where
  keep : ∀ b o, b ≠ x → h.get? b = some o → h'.get? b = some o
  obj : h'.get? x = some { cls := .ref C, dict := some dx, data := .fields #[.ref t1, .none, .none, .none, .bool false, .none] }
  dbig : h.objs.size ≤ dx
  dne : dx ≠ x
  ns : h'.Ns1 dx (fun y => if y = fld then some v else none)
/-- the argument of super().__init__ is a text, whatever the field is -/
def ArgOk (prog : Program) (w : World) (ae : PySem.Expr) (fld : Str) (v : Value) : Prop := ∀ (env : Env) (m : Str → Option Value) (A : Around) (Q : Value → Shared → Prop) (E : Value → Shared → Prop) (s : Shared), s.heap.Ns env.locals m → m fld = some v → env.scope.kind = .function → env.kindOf fld = some .local →
  (∀ z t tk, Q (.str z t) { s with toks := tk }) → wpAny (model prog w) A (eval ae env) Q E s
theorem argOk_const {prog : Program} {w : World} {ae : PySem.Expr} {fld : Str} {v : Value} {z : Str} {k : Nat} {pos : Pos} (h : ae = .Constant (.str z) k pos) : ArgOk prog w ae fld v := by
  intro env m A Q E s _ _ _ _ hq
  rw [h]
  exact wpAny_Constant_str (hq _ _ _)
/-- None, or an int whose text is short -/
def NoneInt (v : L2.V) : Prop := v = .non ∨ ∃ i : Int, v = .int i ∧ i.natAbs.log2 < 1920
theorem argOk_f {prog : Program} {w : World} {ae : PySem.Expr} {fld : Str} {v : L2.V} {u : Value} {z : Str} {k : Nat} {p1 p2 p3 p4 : Pos} (n : NoneInt v) (r : L2.RelV v u)
    (h : ae = .JoinedStr [.Constant (.str z) k p1, .FormattedValue (.Name fld p2) (-1) none p3] p4 := by rfl) (hz : z.length ≤ 1000 := by decide) (hd : (fld == ("__debug__" : Str)) = false := by decide) : ArgOk prog w ae fld u := by
  intro env m A Q E s hn hv hk hl hq
  rw [h]
  have e0 : evalEach [.Constant (.str z) k p1, .FormattedValue (.Name fld p2) (-1) none p3] env = [eval (.Constant (.str z) k p1) env, eval (.FormattedValue (.Name fld p2) (-1) none p3) env] := by first | rfl | simp [evalEach]
  refine wpAny_JoinedStr ?_
  rw [e0]
  refine wpAny_Constant_str ?_
  have l0 : (Str.empty ++ z).length ≤ 1000 := by
    rw [Str.length_append]
    exact Nat.le_trans (Nat.le_of_eq (Nat.zero_add _)) hz
  refine ⟨z, _, rfl, Nat.le_trans l0 (by rw [sizeLine_eq]; decide), ?_⟩
  refine wpAny_FormattedValue_plain (wpAny_Name (wpAny_loadName_local hk hl hn hv ?_) hd)
  rcases n with rfl | ⟨i, rfl, hi⟩
  · cases r
    refine wpAny_formatField_none ⟨"None", _, rfl, ?_, ?_⟩
    · rw [Str.length_append, sizeLine_eq]
      have e : ("None" : Str).length = 4 := by decide
      omega
    · refine ⟨?_, hq _ _ _⟩
      rw [Str.length_append, sizeLine_eq]
      have e : ("None" : Str).length = 4 := by decide
      omega
  · obtain ⟨t, rfl⟩ := r
    refine wpAny_formatField_int hi ⟨_, _, rfl, ?_, ?_⟩
    · rw [Str.length_append, sizeLine_eq]
      have e := int_text_length_le (k := 1920) (by decide) hi
      have e2 : (Str.ofString (toString i)).length = (toString i).length := PySem.ofString_length _
      omega
    · refine ⟨?_, hq _ _ _⟩
      rw [Str.length_append, sizeLine_eq]
      have e := int_text_length_le (k := 1920) (by decide) hi
      have e2 : (Str.ofString (toString i)).length = (toString i).length := PySem.ofString_length _
      omega
/-- the argument of super().__init__ in the text of an __init__ -/
def aeOf (st : Stmt) : PySem.Expr := match L2.defBody st with
  | .Expr (.Call _ (a :: _) _ _) _ :: _ => a
  | _ => .Name "self" ⟨0, 0, 0, 0⟩
section
variable {prog : Program} {w : World} {A : Around} {E : Value → Shared → Prop} {hp : Heap} {g : Array GenState} {d : Drawn} {tk : Nat} {os : OsState}
/-- the bound __init__ of the base, called: the args are laid anew -/
theorem base_init {nm q : Str} {C N u e t0 : Addr} {bs bm : List Value} {sn : List Str} {sub : List Value} {ab : Bool} {col : Option Bool} {dd : Option Addr} {k0 k1 k2 k3 k5 : Option Value} {rest : List Value} {Q : Value → Shared → Prop}
    (hC : hp.get? C = some (excClassObj nm q C N bs bm true sn sub ab col dd k0 k1 k2 k3 k5 "ValueError.__new__")) (he : hp.get? e = some (excO C t0)) (hu : hp.get? u = some (kxs_mw "ValueError.__init__" e)) (hz : rest.length ≤ sizeLine)
    (k : ∀ h' t1, (∀ b o, b ≠ e → hp.get? b = some o → h'.get? b = some o) → h'.get? e = some (excO C t1) → Q .none ⟨h', g, d, tk, os⟩) : wpAny (model prog w) A (call (.ref u) rest) Q E ⟨hp, g, d, tk, os⟩ := by
  refine wpAny_call (codeAny_of_tree ?_)
  show wpAny _ A.in1 (callAny (.ref u) { pos := rest }) _ _ _
  unfold callAny
  refine wpAny_bind (wpAny_load hu ?_)
  have c1 : (Value.type "method-wrapper" == Value.type "method" || Value.type "method-wrapper" == Value.type "builtin_function_or_method" ||
    Value.type "method-wrapper" == Value.type "method-wrapper") = true := by decide
  simp only [kxs_mw, c1, if_true]
  refine KFB.if_so (by decide) (wpAny_bind (ESX.check_bound F.excBase_ValueError hC he rfl (wpAny_bind (wpAny_pure (wpAny_pure ?_)))))
  have FB := F.excBase_ValueError
  refine ⟨plainId_quiet FB.init.plain _, codeAny_builtin FB.initEntry ?_⟩
  rw [Around.under_plainId FB.init.plain _]
  wp_walk
  refine k _ hp.objs.size (fun b o n z => ?_) ?_
  · rw [Heap.get?_update_other _ _ (Ne.symm n)]
    exact Heap.get?_push_of_some _ z
  · rw [Heap.get?_update_self _ (Heap.get?_push_of_some _ he) rfl]
    rfl
theorem call_bound1 {M : Model} {s : Shared} {pos : Pos} {u b : Addr} {env : Env} {ae : PySem.Expr} {i : String} {Q : Value → Shared → Prop} (hpl : starEach (ae :: []) env = (false, eval ae env) :: starEach [] env)
    (h : wpAny M A (eval ae env) (fun v s₁ => KxsAt i u b s₁.heap ∧ wpAny M A (call (.ref u) [v]) Q E s₁) E s) : wpAny M A (callWith pos (.ref u) [] (backTo pos (starEach [ae] env)) []) Q E s := by
  have q : wpAny M A (spliced (backTo pos (starEach (ae :: []) env))) (fun vs s₁ => KxsAt i u b s₁.heap ∧ wpAny M A (call (.ref u) vs) Q E s₁) E s := args_cons (he := hpl) (wpAny_mono h (fun v s₁ z => wpAny_of_eq rfl z) fun _ _ z => z)
  rw [hpl] at q ⊢
  exact kxs_callWith (x := b) rfl (evalArgs_plain q)
theorem err_init {R : Result → Shared → Prop} {K : Frag} {mg mb : Str → Option Value} {x fld : Str} {C fI e t0 : Addr} {ae : PySem.Expr} {st : Stmt} {v : Value} (T : ErrTxt prog K mg x fld C fI ae st) (hA : ArgOk prog w ae fld v)
    (X : K.In hp) (hlim : hp.NoLimit) (hg : hp.Ns mainGlobals mg) (hb : hp.Ns builtinsNs mb) (hbb : ∀ y : Str, y ≠ "__name__" → mb y = bootBuiltins y) (he : hp.get? e = some (excO C t0)) (hne : K.lookup e = none) (hroom : A.depth < recursionLimit)
    (hq : ∀ h' tk dx t1, EndOf hp h' e C dx t1 fld v → R (.ok (.ret .none)) ⟨h', g, d, tk, os⟩) : codeAny (model prog w) A (.call (.ref fI) ⟨[.ref e, v], []⟩) R ⟨hp, g, d, tk, os⟩ := by
  obtain ⟨oc, od, doc, pm, an, cda, ct, osl, cc, vs, file, tf, ccl, cl, cdd, cld, ccs, csl, qual, lf, lc, lda, lvs, lfile, lcc⟩ := T.fn
  obtain ⟨p0, p1, p2, p3, p4, q1, q2, q3, q4, a1, a2, hB, hArgs, hcallE⟩ := T.text
  obtain ⟨nm, qn, N, bs, bm, sn, sub, ab, col, dd, k0, k1, k2, k3, k5, lC, hbm⟩ := T.cls
  have hcl : clsIn K C = some { name := nm, bases := bs, mro := .ref C :: bm, ns := N, qualname := qn, hasDict := true, slotNames := sn, subclasses := sub, abstract := ab, collection := col, hasDel := false } := by
    unfold clsIn
    rw [lC]
    all_goals rfl
  have hbind := T.bind qual doc pm an cda ct cc (.ref e) v
  rw [hB, hArgs] at lf hbind
  have neC : e ≠ C := fun z => by
    rw [z, lC] at hne
    cases hne
  refine ks_codeAny_call_defAt (binds := [("self", .ref e), (fld, v)]) hroom (X _ _ lf) rfl hlim (codeRec_of X lc) rfl (BindsTo.of_eq hbind) T.noCell ?_ (fun h1 hns keep => ?_) T.co T.gen T.knd
  · intro y hy
    rcases List.mem_cons.mp hy with z | hy
    · rw [z]; exact T.k0
    · rcases List.mem_cons.mp hy with z | hy
      · rw [z]; exact T.kF
      · cases hy
  have hint : ∀ env : Env, env.scope = L2.defScope st → interactive env = false := fun env z => by
    unfold interactive
    rw [z, T.knd]
    rfl
  have X1 : K.In h1 := X.keeps keep
  have he1 := keep _ _ he
  have m0 : ([("self", Value.ref e), (fld, v)] : List (Str × Value)).reverse.lookup ("self" : Str) = some (.ref e) := by
    show List.lookup ("self" : Str) [(fld, v), (("self" : Str), Value.ref e)] = some (.ref e)
    rw [List.lookup_cons, T.nF]
    rfl
  have mF : ([("self", Value.ref e), (fld, v)] : List (Str × Value)).reverse.lookup fld = some v := by
    show List.lookup fld [(fld, v), (("self" : Str), Value.ref e)] = some v
    rw [List.lookup_cons, beq_self_eq_true]
  obtain ⟨oD, hD1, hD2⟩ : ∃ oD : Obj, h1.get? C = some oD ∧ oD.data = .cls { name := nm, bases := bs, mro := .ref C :: bm, ns := N, qualname := qn, hasDict := true, slotNames := sn, subclasses := sub, abstract := ab, collection := col, hasDel := false } := ⟨_, X1 _ _ lC, rfl⟩
  refine ks_wpAt_execs_cons (ks_wpAt_Expr_any (hi := hint _ rfl) (ks_wpAt_MethodCall (he := hcallE _) (ks_wpAt_super_base T.kS T.kK (by decide) rfl (X1 _ _ lf) rfl rfl rfl (X1 _ _ lda) rfl lvs lfile T.main ?_)))
  refine ks_loadName_global T.knd T.kS (Calls.loadGlobal_builtin (hg.keeps keep) T.sup (hb.keeps keep) ((hbb _ (by decide +kernel)).trans (show bootBuiltins "super" = some (.type "super") by kernel_rfl)) ⟨rfl, ?_⟩)
  refine wpAny_loadName_free T.knd T.kK rfl ⟨_, X1 _ _ lcc, rfl⟩ ?_
  refine wpAny_loadName_local T.knd T.k0 hns m0 ?_
  refine ks_wpAny_isType_cls hD1 hD2 ⟨rfl, ?_⟩
  refine ks_wpAny_call_super hD1 hD2 he1 rfl (fun c z => by cases z) (looks_mroIn X1 T.own) (fun h2 hso k2 => ?_)
  have X2 : K.In h2 := X1.keeps k2
  have he2 := k2 _ _ he1
  have hup : alongIn K "__init__" (List.drop 1 (List.dropWhile (fun (z : Value) => z != Value.ref C) (.ref C :: bm))) = some (some (.builtin "ValueError.__init__")) := by
    have z := T.up
    unfold ks_superIn at z
    rw [hcl] at z
    exact z
  have I2 : InstAt h2 e (excO C t0) C none := ⟨he2, rfl, rfl, trivial⟩
  refine kxs_getMethod kxs_ValueError hso (looks_opaque X2 T.any) (l₀ := .ref C :: bm) (fun A Q E s k q => wpAny_bind ((looks_clsIn X2 hcl) A _ E s k (wpAny_pure q))) rfl X2 hup (I2.type.andThen (looks_subIn X2 T.ve)) neC (by decide) ?_
  have k3 : ∀ b o, h2.get? b = some o → (h2.push (kxs_mw "ValueError.__init__" e)).get? b = some o := fun b o z => Heap.get?_push_of_some _ z
  have k13 : ∀ b o, h1.get? b = some o → (h2.push (kxs_mw "ValueError.__init__" e)).get? b = some o := fun b o z => k3 _ _ (k2 _ _ z)
  have hn3 := hns.keeps k13
  refine call_bound1 (i := "ValueError.__init__") (b := e) (T.plain _) ?_
  refine hA _ _ _ _ _ _ hn3 mF T.knd T.kF fun z t tk => ⟨Heap.get?_push_at rfl rfl, ?_⟩
  refine base_init (X2.keeps k3 _ _ lC) (k3 _ _ he2) (Heap.get?_push_at rfl rfl) (by rw [sizeLine_eq]; exact Nat.le_of_ble_eq_true rfl) fun h4 t1 k4 he4 => ?_
  have X4 : K.In h4 := fun b o z => k4 _ _ (fun y => by rw [y, hne] at z; cases z) (X2.keeps k3 b o z)
  have hLe : hp.objs.size ≠ e := Nat.ne_of_gt (Heap.lt_size he)
  have hn4 : h4.Ns hp.objs.size (fun y => List.lookup y ([(("self" : Str), Value.ref e), (fld, v)] : List (Str × Value)).reverse) := by
    obtain ⟨oL, es, ep, hL, r⟩ := hn3
    exact ⟨oL, es, ep, k4 _ _ hLe hL, r⟩
  -- self.F = F
  refine wpAt_of_wpAny (wpAny_execs_cons (plainObj_wpAny_Assign_Attribute ?_))
  refine ESX.ldL hn4 mF (ESX.ldL hn4 m0 ?_ T.knd T.k0) T.knd T.kF T.nD
  refine set_plain X4 (ox := excO C t1) (od := none) ⟨he4, rfl, rfl, trivial⟩ T.sa ?_
  refine exc_osa X4 he4 hcl (show refsVE (.ref C :: bm) = true from hbm) rfl T.noF (fun h5 tk5 dx k5' dn dne he5 hn5 => ?_)
  have z : hp.objs.size ≤ dx := Nat.le_trans (Nat.le_of_lt (Nat.lt_of_lt_of_le hn4.lt (Nat.le_refl _))) dn
  exact wpAny_execs_nil (hq h5 tk5 dx t1 ⟨fun b o hbe y => k5' b o hbe (k4 b o hbe (k3 b o (k2 b o (keep b o y)))), he5, z, dne, hn5⟩)
/-- a made error -/
structure Made (h h' : Heap) (e C d : Addr) (fld : Str) (v : Value) : Prop where
  keep : ∀ b o, h.get? b = some o → h'.get? b = some o
  new : h.objs.size ≤ e
  obj : ∃ oe vs, h'.get? e = some oe ∧ oe.cls = .ref C ∧ oe.dict = some d ∧ oe.data = .fields vs ∧ vs[1]? = some .none
  dbig : h.objs.size ≤ d
  dne : d ≠ e
  ns : h'.Ns1 d (fun y => if y = fld then some v else none)
theorem err_made {R : Result → Shared → Prop} {K : Frag} {mg mb : Str → Option Value} {x fld : Str} {C fI : Addr} {ae : PySem.Expr} {st : Stmt} {v : Value} (T : ErrTxt prog K mg x fld C fI ae st) (hA : ArgOk prog w ae fld v)
    (X : K.In hp) (hlim : hp.NoLimit) (hg : hp.Ns mainGlobals mg) (hb : hp.Ns builtinsNs mb) (hbb : ∀ y : Str, y ≠ "__name__" → mb y = bootBuiltins y) (hroom : A.depth + 1 < recursionLimit)
    (hq : ∀ h' tk e dx, Made hp h' e C dx fld v → R (.ok (.ret (.ref e))) ⟨h', g, d, tk, os⟩) : codeAny (model prog w) A (.call (.ref C) ⟨[v], []⟩) R ⟨hp, g, d, tk, os⟩ := by
  obtain ⟨nm, qn, N, bs, bm, sn, sub, ab, col, dd, k0, k1, k2, k3, k5, lC, hbm⟩ := T.cls
  have k : ∀ b o, hp.get? b = some o → ((hp.push (kdv_tup [v])).push (excO C hp.objs.size)).get? b = some o := fun b o z => Heap.get?_push_of_some _ (Heap.get?_push_of_some _ z)
  have hget : ((hp.push (kdv_tup [v])).push (excO C hp.objs.size)).get? (hp.objs.size + 1) = some (excO C hp.objs.size) := by heap_get
  have hnx : K.lookup (hp.objs.size + 1) = none := by
    cases z : K.lookup (hp.objs.size + 1) with
    | none => rfl
    | some o => exact absurd (Nat.lt_of_succ_lt (Heap.lt_size (X _ _ z))) (Nat.lt_irrefl _)
  refine call_own F.excBase_ValueError (fun X => refsVE_contains X bm hbm) (X _ _ lC) (looks_findIn X T.iC) (fun self => bind_fn X self T.tC) (by rw [sizeLine_eq]; exact Nat.le_of_ble_eq_true rfl) ?_
  refine err_init T hA (X.keeps k) (hlim.keeps k) (hg.keeps k) (hb.keeps k) hbb hget hnx ?_ fun h' tk' dx t1 M => ?_
  · show A.depth + 1 < recursionLimit
    exact hroom
  · have old : ∀ b o, hp.get? b = some o → h'.get? b = some o := fun b o z => M.keep b o (Nat.ne_of_lt (Nat.lt_succ_of_lt (Heap.lt_size z))) (k b o z)
    have z : hp.objs.size + 1 + 1 ≤ dx := by
      have q := M.dbig
      rw [Heap.size_push, Heap.size_push] at q
      exact q
    exact ⟨rfl, hq h' tk' (hp.objs.size + 1) dx ⟨old, Nat.le_succ _, ⟨_, _, M.obj, rfl, rfl, rfl, rfl⟩, Nat.le_trans (Nat.le_trans (Nat.le_succ _) (Nat.le_succ _)) z, M.dne, M.ns⟩⟩
end
end ErrX
namespace L2
open PySem PySem.Spec PyProof.Rows ErrX
theorem relO_fld {v : V} {v' : Value} (fld : Str) (r : RelV v v') (f : Str) : RelO (List.lookup f [(fld, v)]) (if f = fld then some v' else none) := by
  by_cases hw : f = fld
  · subst hw
    rw [if_pos rfl]
    have q : List.lookup f [(f, v)] = some v := by simp [List.lookup]
    rw [q]
    exact r
  · rw [if_neg hw]
    have qw : (f == fld) = false := by simpa using hw
    have q2 : List.lookup f [(fld, v)] = none := by simp [List.lookup, qw]
    rw [q2]
    trivial
section
variable {X : Cx} {C fI : Addr} {x fld : Str} {ae : PySem.Expr} {st : Stmt}
/-- Bad(e) -/
def tMkErr (C : Addr) (fld : Str) (ok : V → Prop) (ta : TA) : L2.St → Hp → XK → Prop := fun σ H Q => ta σ H fun vs H1 => ∃ v, vs = [v] ∧ ok v ∧ ∀ d, H1 d = none → Q (.ref C) (some d) (upd H1 d (.xd [(fld, v)]))
theorem pmk_err {ok : V → Prop} {a : PySem.Expr} {ta : TA} {p pos : Pos} {k : Nat} (T : ErrTxt X.prog X.K X.mg x fld C fI ae st) (hA : ∀ v u, ok v → RelV v u → ArgOk X.prog X.w ae fld u) (hr : Room k X.A) (ha : PA X [a] ta) (hg : Gl X x) (hdb : (x == ("__debug__" : Str)) = false)
    (he : starEach (a :: []) X.env = (false, eval a X.env) :: starEach [] X.env) (hpl : (backTo pos (starEach [] X.env)).any (·.1) = false) :
    PMk X (.Call (.Name x p) [a] [] pos) (tMkErr C fld ok ta) := by
  intro pins s σ H Q I h
  refine wpAny_Call_Name_kw (ld_glob I hg T.gC ?_ hdb)
  refine PySem.W.callWith_K (h₀ := X.base) I.ok.mod.kin T.kC (thn (ha.run pos pins s σ H _ I h) fun us s1 hh => ?_) he hpl
  obtain ⟨vs, H1, I1, r1, v, ev, okv, q1⟩ := hh
  subst ev
  refine ⟨I1.kIn, ?_⟩
  cases r1 with
  | cons rv rn =>
    rename_i v' us'
    cases rn
    show wpAny _ _ (call (.ref C) [v']) _ _ _
    have hlim := I1.nolimit
    obtain ⟨mb, hb1, hb2⟩ := I1.mod.blt
    have hgN := I1.mod.glob.keeps I1.bk
    have hbN := hb1.keeps I1.bk
    obtain ⟨hp, g, dr, tk, os⟩ := s1
    refine wpAny_call (err_made T (hA v v' okv rv) I1.kIn hlim hgN hbN hb2 (by have := hr.dp; omega) fun h' tk' e d M => ?_)
    show MkP X pins σ Q (.ref e) ⟨h', g, dr, tk', os⟩
    obtain ⟨oe, fv, hoe, hc, hd, hdat, h1⟩ := M.obj
    have hns := M.ns
    obtain ⟨G', g1, g2⟩ := restrict h' fun b => decide (b ≠ e)
    have gk : ∀ b, b ≠ e → G'.get? b = h'.get? b := fun b hb => g1 b (decide_eq_true hb)
    have ge : G'.get? e = none := g2 e (by simp)
    have old : ∀ b o, hp.get? b = some o → G'.get? b = some o := fun b o q => (gk b (Nat.ne_of_lt (Nat.lt_of_lt_of_le (Heap.lt_size q) M.new))).trans (M.keep b o q)
    have ob : ObjOk X.prog X.w (upd H1 d (.xd [(fld, v)])) G' d (.xd [(fld, v)]) := ⟨_, hns.at (fun o q => (gk d M.dne).trans q), fun f => relO_fld fld rv f⟩
    have J : Inv X pins σ (upd H1 d (.xd [(fld, v)])) ⟨G', g, dr, tk', os⟩ := I1.laid (t' := tk') old M.dbig ob
    refine ⟨e, oe, fv, ⟨G', g, dr, tk', os⟩, _, .ref C, some d, rfl, J, fun b o q => ?_, ge, hoe, ⟨hc, hd⟩, hdat, h1, ?_, rfl, I1.bare, raises_own T.exC T.tyC, q1 d (I1.hok.fresh M.dbig)⟩
    · by_cases hb : b = e
      · have q' : G'.get? b = some o := q
        rw [hb, ge] at q'
        cases q'
      · exact (gk b hb).symm.trans q
    · rw [upd_ne (Ne.symm M.dne)]
      exact I1.hok.fresh M.new
/-- raise Bad(e) -/
def tRaiseF (C : Addr) (fld : Str) (ok : V → Prop) (W : WX) (ta : TA) : TS := fun _ σ H => tMkErr C fld ok ta σ H fun cls d H' => W cls d σ H'
theorem ps_raiseF {ok : V → Prop} {a : PySem.Expr} {ta : TA} {W : WX} {p pos pos2 : Pos} {k : Nat} (T : ErrTxt X.prog X.K X.mg x fld C fI ae st) (hA : ∀ v u, ok v → RelV v u → ArgOk X.prog X.w ae fld u) (hc : X.calm = true) (hr : Room k X.A) (tk : Takes X W) (ha : PA X [a] ta) (hg : Gl X x := by rfl)
    (hdb : (x == ("__debug__" : Str)) = false := by decide) (he : starEach (a :: []) X.env = (false, eval a X.env) :: starEach [] X.env := by rfl) (hpl : (backTo pos (starEach [] X.env)).any (·.1) = false := by rfl) :
    PS X (.Raise (some (.Call (.Name x p) [a] [] pos)) none pos2) (tRaiseF C fld ok W ta) := ps_raise hc tk (pmk_err T hA hr ha hg hdb he hpl)
/-- e.F, e the error that the suite holds (at a; its class cls, its dict d) -/
def tErrF (C : Addr) (fld : Str) (a : Addr) (cls : Value) (d : Option Addr) (te : TE) : TE := fun σ H Q => te σ H fun y H1 => y = .ref a ∧ cls = .ref C ∧ ∃ (dd : Addr) (v : V), d = some dd ∧ H1 dd = some (.xd [(fld, v)]) ∧ Q v H1
theorem pe_errF {P : Program} {a : Addr} {oe : Obj} {cls : Value} {d : Option Addr} {pn : List (Addr × Obj)} {e : PySem.Expr} {te : TE} {pos : Pos} (T : ErrTxt P X.K X.mg x fld C fI ae st) (hz : Zc cls d oe) (hf : ∃ vs, oe.data = .fields vs) (he : PE (X.suite a ((a, oe) :: pn)) e te)
    (hb : attributeBase e fld X.env (eval e X.env) = eval e X.env := by rfl) : PE (X.suite a ((a, oe) :: pn)) (.Attribute e fld pos) (tErrF C fld a cls d te) := by
  refine ⟨fun pins s σ H Q I h => ?_⟩
  refine attr_of hb (thn (he.run pins s σ H _ I h) fun u s1 hh => ?_)
  obtain ⟨y, H1, I1, rx, ex, ec, dd, v, ed, ea, q⟩ := hh
  subst ex
  obtain rfl : u = Value.ref a := rx
  subst ec
  subst ed
  obtain ⟨ha, _⟩ := I1.pin (a, oe) (List.mem_append_left _ List.mem_cons_self)
  obtain ⟨vs, hd⟩ := hf
  have hx : ObjOk X.prog X.w H1 s1.heap dd (.xd [(fld, v)]) := I1.hok dd _ ea
  obtain ⟨mA, hns, hr⟩ := hx
  obtain ⟨od, ho, hl⟩ := lookIn_ns hns
  have l : List.lookup fld [(fld, v)] = some v := by simp [List.lookup]
  obtain ⟨u, hu, ru⟩ := RelO.some_of (v := v) (o := mA fld) (by rw [← l]; exact hr fld)
  have J : PySem.W.InstAt s1.heap a oe C (some od) := ⟨ha, hz.1, by unfold PySem.W.notCls; rw [hd] <;> rfl, by rw [hz.2]; exact ho⟩
  exact HandSPX.exc_get I1.kIn J T.ga T.gg T.exC (PySem.W.findObj_own T.hdC T.noF rfl (by rw [hl, hu])) (handed_of ru) ⟨v, H1, I1.tok _, ru, q⟩
end
end L2
namespace Rt
open PySem L2 PySem.Spec PyProof.Rows

structure Tx (P : Program) (K : PySem.W.Frag) (mg : Str → Option Value) : Type where
  C_TrickError : Addr
  g_TrickError : mg "TrickError" = some (.ref C_TrickError)
  x_TrickError : PySem.W.excIn K C_TrickError [.type "ValueError", .type "Exception", .type "BaseException", .type "object"] "ValueError.__new__" = true
  k_TrickError : PySem.W.keepIn K (.ref C_TrickError) = true
  s_TrickError : PySem.W.subIn K (.ref C_TrickError) (.type "BaseException") = some true
  t_TrickError : PySem.W.typeIn K (.ref C_TrickError) = some (.type "type")
  C_BadBase : Addr
  g_BadBase : mg "BadBase" = some (.ref C_BadBase)
  x_BadBase : PySem.W.excIn K C_BadBase [.type "ValueError", .type "Exception", .type "BaseException", .type "object"] "ValueError.__new__" = true
  k_BadBase : PySem.W.keepIn K (.ref C_BadBase) = true
  s_BadBase : PySem.W.subIn K (.ref C_BadBase) (.type "BaseException") = some true
  t_BadBase : PySem.W.typeIn K (.ref C_BadBase) = some (.type "type")
  C_BadTake : Addr
  g_BadTake : mg "BadTake" = some (.ref C_BadTake)
  x_BadTake : PySem.W.excIn K C_BadTake [.type "ValueError", .type "Exception", .type "BaseException", .type "object"] "ValueError.__new__" = true
  k_BadTake : PySem.W.keepIn K (.ref C_BadTake) = true
  s_BadTake : PySem.W.subIn K (.ref C_BadTake) (.type "BaseException") = some true
  t_BadTake : PySem.W.typeIn K (.ref C_BadTake) = some (.type "type")
  C_BadTimes : Addr
  g_BadTimes : mg "BadTimes" = some (.ref C_BadTimes)
  x_BadTimes : PySem.W.excIn K C_BadTimes [.type "ValueError", .type "Exception", .type "BaseException", .type "object"] "ValueError.__new__" = true
  k_BadTimes : PySem.W.keepIn K (.ref C_BadTimes) = true
  s_BadTimes : PySem.W.subIn K (.ref C_BadTimes) (.type "BaseException") = some true
  t_BadTimes : PySem.W.typeIn K (.ref C_BadTimes) = some (.type "type")
  C_BadTrick : Addr
  g_BadTrick : mg "BadTrick" = some (.ref C_BadTrick)
  x_BadTrick : PySem.W.excIn K C_BadTrick [.type "ValueError", .type "Exception", .type "BaseException", .type "object"] "ValueError.__new__" = true
  k_BadTrick : PySem.W.keepIn K (.ref C_BadTrick) = true
  s_BadTrick : PySem.W.subIn K (.ref C_BadTrick) (.type "BaseException") = some true
  t_BadTrick : PySem.W.typeIn K (.ref C_BadTrick) = some (.type "type")
  C_BadSum : Addr
  g_BadSum : mg "BadSum" = some (.ref C_BadSum)
  x_BadSum : PySem.W.excIn K C_BadSum [.type "ValueError", .type "Exception", .type "BaseException", .type "object"] "ValueError.__new__" = true
  k_BadSum : PySem.W.keepIn K (.ref C_BadSum) = true
  s_BadSum : PySem.W.subIn K (.ref C_BadSum) (.type "BaseException") = some true
  t_BadSum : PySem.W.typeIn K (.ref C_BadSum) = some (.type "type")
  C_BadNumber : Addr
  g_BadNumber : mg "BadNumber" = some (.ref C_BadNumber)
  k_BadNumber : PySem.W.keepIn K (.ref C_BadNumber) = true
  s_BadNumber : PySem.W.subIn K (.ref C_BadNumber) (.type "BaseException") = some true
  t_BadNumber : PySem.W.typeIn K (.ref C_BadNumber) = some (.type "type")
  hd_BadNumber : PySem.W.hasDictIn K C_BadNumber = true
  C_BadWeights : Addr
  g_BadWeights : mg "BadWeights" = some (.ref C_BadWeights)
  k_BadWeights : PySem.W.keepIn K (.ref C_BadWeights) = true
  s_BadWeights : PySem.W.subIn K (.ref C_BadWeights) (.type "BaseException") = some true
  t_BadWeights : PySem.W.typeIn K (.ref C_BadWeights) = some (.type "type")
  C_BadTricks : Addr
  g_BadTricks : mg "BadTricks" = some (.ref C_BadTricks)
  k_BadTricks : PySem.W.keepIn K (.ref C_BadTricks) = true
  s_BadTricks : PySem.W.subIn K (.ref C_BadTricks) (.type "BaseException") = some true
  t_BadTricks : PySem.W.typeIn K (.ref C_BadTricks) = some (.type "type")
  xm_TrickError_BadNumber : PySem.W.exmOne K (.ref C_TrickError) (.ref C_BadNumber) = some false
  xm_BadBase_BadNumber : PySem.W.exmOne K (.ref C_BadBase) (.ref C_BadNumber) = some false
  xm_BadTake_BadNumber : PySem.W.exmOne K (.ref C_BadTake) (.ref C_BadNumber) = some false
  xm_BadTimes_BadNumber : PySem.W.exmOne K (.ref C_BadTimes) (.ref C_BadNumber) = some false
  xm_BadTrick_BadNumber : PySem.W.exmOne K (.ref C_BadTrick) (.ref C_BadNumber) = some false
  xm_BadSum_BadNumber : PySem.W.exmOne K (.ref C_BadSum) (.ref C_BadNumber) = some false
  xm_BadNumber_BadNumber : PySem.W.exmOne K (.ref C_BadNumber) (.ref C_BadNumber) = some true
  xm_BadWeights_BadNumber : PySem.W.exmOne K (.ref C_BadWeights) (.ref C_BadNumber) = some false
  xm_BadTricks_BadNumber : PySem.W.exmOne K (.ref C_BadTricks) (.ref C_BadNumber) = some false
  t_c_GREATEST_NUMBER : Tok
  c_GREATEST_NUMBER : mg "GREATEST_NUMBER" = some (.int 10000000000000000000000000000000000000000 t_c_GREATEST_NUMBER)
  t_c_LEAST_BASE : Tok
  c_LEAST_BASE : mg "LEAST_BASE" = some (.int 2 t_c_LEAST_BASE)
  t_c_GREATEST_BASE : Tok
  c_GREATEST_BASE : mg "GREATEST_BASE" = some (.int 16 t_c_GREATEST_BASE)
  t_c_GREATEST_TAKE : Tok
  c_GREATEST_TAKE : mg "GREATEST_TAKE" = some (.int 2 t_c_GREATEST_TAKE)
  t_c_GREATEST_TIMES : Tok
  c_GREATEST_TIMES : mg "GREATEST_TIMES" = some (.int 100 t_c_GREATEST_TIMES)
  t_c_MOST_ROUNDS : Tok
  c_MOST_ROUNDS : mg "MOST_ROUNDS" = some (.int 200 t_c_MOST_ROUNDS)
  t_c_MOST_TRICKS : Tok
  c_MOST_TRICKS : mg "MOST_TRICKS" = some (.int 4 t_c_MOST_TRICKS)
  t_c_GREATEST_WEIGHT : Tok
  c_GREATEST_WEIGHT : mg "GREATEST_WEIGHT" = some (.int 1000000 t_c_GREATEST_WEIGHT)
  t_c_MOST_WEIGHTS : Tok
  c_MOST_WEIGHTS : mg "MOST_WEIGHTS" = some (.int 12 t_c_MOST_WEIGHTS)
  a__wall : Addr
  d__wall : FuncData
  F__wall : Fun K "_wall" "_wall" s__wall a__wall d__wall
  b__wall : Binds K d__wall ["k"] []
  g__wall : mg "_wall" = some (.ref a__wall)
  a_is_integer : Addr
  d_is_integer : FuncData
  F_is_integer : Fun K "is_integer" "is_integer" s_is_integer a_is_integer d_is_integer
  b_is_integer : Binds K d_is_integer ["told", "low", "high"] []
  g_is_integer : mg "is_integer" = some (.ref a_is_integer)
  a_is_tuple : Addr
  d_is_tuple : FuncData
  F_is_tuple : Fun K "is_tuple" "is_tuple" s_is_tuple a_is_tuple d_is_tuple
  b_is_tuple : Binds K d_is_tuple ["told", "fewest", "most"] []
  g_is_tuple : mg "is_tuple" = some (.ref a_is_tuple)
  a_is_list_or_tuple : Addr
  d_is_list_or_tuple : FuncData
  F_is_list_or_tuple : Fun K "is_list_or_tuple" "is_list_or_tuple" s_is_list_or_tuple a_is_list_or_tuple d_is_list_or_tuple
  b_is_list_or_tuple : Binds K d_is_list_or_tuple ["told", "fewest", "most"] []
  g_is_list_or_tuple : mg "is_list_or_tuple" = some (.ref a_is_list_or_tuple)
  a_is_number : Addr
  d_is_number : FuncData
  F_is_number : Fun K "is_number" "is_number" s_is_number a_is_number d_is_number
  b_is_number : Binds K d_is_number ["told"] []
  g_is_number : mg "is_number" = some (.ref a_is_number)
  a_first_wrong : Addr
  d_first_wrong : FuncData
  F_first_wrong : Fun K "first_wrong" "first_wrong" s_first_wrong a_first_wrong d_first_wrong
  b_first_wrong : Binds K d_first_wrong ["told", "low", "high"] []
  g_first_wrong : mg "first_wrong" = some (.ref a_first_wrong)
  a_check_base : Addr
  d_check_base : FuncData
  F_check_base : Fun K "check_base" "check_base" s_check_base a_check_base d_check_base
  b_check_base : Binds K d_check_base ["base"] []
  g_check_base : mg "check_base" = some (.ref a_check_base)
  a_check_take : Addr
  d_check_take : FuncData
  F_check_take : Fun K "check_take" "check_take" s_check_take a_check_take d_check_take
  b_check_take : Binds K d_check_take ["take"] []
  g_check_take : mg "check_take" = some (.ref a_check_take)
  a_check_stretch : Addr
  d_check_stretch : FuncData
  F_check_stretch : Fun K "check_stretch" "check_stretch" s_check_stretch a_check_stretch d_check_stretch
  b_check_stretch : Binds K d_check_stretch ["n", "low", "high"] []
  g_check_stretch : mg "check_stretch" = some (.ref a_check_stretch)
  a_check_number : Addr
  d_check_number : FuncData
  F_check_number : Fun K "check_number" "check_number" s_check_number a_check_number d_check_number
  b_check_number : Binds K d_check_number ["n"] []
  g_check_number : mg "check_number" = some (.ref a_check_number)
  a_block_of : Addr
  d_block_of : FuncData
  F_block_of : Fun K "block_of" "block_of" s_block_of a_block_of d_block_of
  b_block_of : Binds K d_block_of ["base", "take"] []
  g_block_of : mg "block_of" = some (.ref a_block_of)
  a_done : Addr
  d_done : FuncData
  F_done : Fun K "done" "done" s_done a_done d_done
  b_done : Binds K d_done ["trick", "n"] []
  g_done : mg "done" = some (.ref a_done)
  a_trail : Addr
  d_trail : FuncData
  F_trail : Fun K "trail" "trail" s_trail a_trail d_trail
  b_trail : Binds K d_trail ["trick", "n", "rounds"] []
  g_trail : mg "trail" = some (.ref a_trail)
  a_ahead : Addr
  d_ahead : FuncData
  F_ahead : Fun K "ahead" "ahead" s_ahead a_ahead d_ahead
  b_ahead : Binds K d_ahead ["trick", "n"] []
  g_ahead : mg "ahead" = some (.ref a_ahead)
  a_check_trick : Addr
  d_check_trick : FuncData
  F_check_trick : Fun K "check_trick" "check_trick" s_check_trick a_check_trick d_check_trick
  b_check_trick : Binds K d_check_trick ["trick"] []
  g_check_trick : mg "check_trick" = some (.ref a_check_trick)
  a_trick_block : Addr
  d_trick_block : FuncData
  F_trick_block : Fun K "trick_block" "trick_block" s_trick_block a_trick_block d_trick_block
  b_trick_block : Binds K d_trick_block ["trick"] []
  g_trick_block : mg "trick_block" = some (.ref a_trick_block)
  a_made_of : Addr
  d_made_of : FuncData
  F_made_of : Fun K "made_of" "made_of" s_made_of a_made_of d_made_of
  b_made_of : Binds K d_made_of ["trick", "n"] []
  g_made_of : mg "made_of" = some (.ref a_made_of)
  a_made_with : Addr
  d_made_with : FuncData
  F_made_with : Fun K "made_with" "made_with" s_made_with a_made_with d_made_with
  b_made_with : Binds K d_made_with ["block", "times", "n"] []
  g_made_with : mg "made_with" = some (.ref a_made_with)
  a_chained : Addr
  d_chained : FuncData
  F_chained : Fun K "chained" "chained" s_chained a_chained d_chained
  b_chained : Binds K d_chained ["tricks", "n"] []
  g_chained : mg "chained" = some (.ref a_chained)
  a_check_tricks : Addr
  d_check_tricks : FuncData
  F_check_tricks : Fun K "check_tricks" "check_tricks" s_check_tricks a_check_tricks d_check_tricks
  b_check_tricks : Binds K d_check_tricks ["tricks"] []
  g_check_tricks : mg "check_tricks" = some (.ref a_check_tricks)
  a_made_of_all : Addr
  d_made_of_all : FuncData
  F_made_of_all : Fun K "made_of_all" "made_of_all" s_made_of_all a_made_of_all d_made_of_all
  b_made_of_all : Binds K d_made_of_all ["tricks", "n"] []
  g_made_of_all : mg "made_of_all" = some (.ref a_made_of_all)
  a_ring_of : Addr
  d_ring_of : FuncData
  F_ring_of : Fun K "ring_of" "ring_of" s_ring_of a_ring_of d_ring_of
  b_ring_of : Binds K d_ring_of ["trick", "n"] []
  g_ring_of : mg "ring_of" = some (.ref a_ring_of)
  a_rounds : Addr
  d_rounds : FuncData
  F_rounds : Fun K "rounds" "rounds" s_rounds a_rounds d_rounds
  b_rounds : Binds K d_rounds ["trick", "n", "low"] []
  g_rounds : mg "rounds" = some (.ref a_rounds)
  a_unseen_path : Addr
  d_unseen_path : FuncData
  F_unseen_path : Fun K "unseen_path" "unseen_path" s_unseen_path a_unseen_path d_unseen_path
  b_unseen_path : Binds K d_unseen_path ["trick", "n", "seen"] []
  g_unseen_path : mg "unseen_path" = some (.ref a_unseen_path)
  a_ring_at_end : Addr
  d_ring_at_end : FuncData
  F_ring_at_end : Fun K "ring_at_end" "ring_at_end" s_ring_at_end a_ring_at_end d_ring_at_end
  b_ring_at_end : Binds K d_ring_at_end ["trick", "path"] []
  g_ring_at_end : mg "ring_at_end" = some (.ref a_ring_at_end)
  a_total : Addr
  d_total : FuncData
  F_total : Fun K "total" "total" s_total a_total d_total
  b_total : Binds K d_total ["told", "n"] []
  g_total : mg "total" = some (.ref a_total)
  a_check_weights : Addr
  d_check_weights : FuncData
  F_check_weights : Fun K "check_weights" "check_weights" s_check_weights a_check_weights d_check_weights
  b_check_weights : Binds K d_check_weights ["told", "fewest"] []
  g_check_weights : mg "check_weights" = some (.ref a_check_weights)
  a_check_sum : Addr
  d_check_sum : FuncData
  F_check_sum : Fun K "check_sum" "check_sum" s_check_sum a_check_sum d_check_sum
  b_check_sum : Binds K d_check_sum ["told"] []
  g_check_sum : mg "check_sum" = some (.ref a_check_sum)
  a_sum_block : Addr
  d_sum_block : FuncData
  F_sum_block : Fun K "sum_block" "sum_block" s_sum_block a_sum_block d_sum_block
  b_sum_block : Binds K d_sum_block ["told"] []
  g_sum_block : mg "sum_block" = some (.ref a_sum_block)
  a_weight_at : Addr
  d_weight_at : FuncData
  F_weight_at : Fun K "weight_at" "weight_at" s_weight_at a_weight_at d_weight_at
  b_weight_at : Binds K d_weight_at ["told", "place"] []
  g_weight_at : mg "weight_at" = some (.ref a_weight_at)
  a__law_taken : Addr
  d__law_taken : FuncData
  F__law_taken : Fun K "_law_taken" "_law_taken" s__law_taken a__law_taken d__law_taken
  b__law_taken : Binds K d__law_taken ["_law_row", "_law_many"] []
  g__law_taken : mg "_law_taken" = some (.ref a__law_taken)
  a__law_odd_number : Addr
  d__law_odd_number : FuncData
  F__law_odd_number : Fun K "_law_odd_number" "_law_odd_number" s__law_odd_number a__law_odd_number d__law_odd_number
  b__law_odd_number : Binds K d__law_odd_number ["_law_row"] []
  g__law_odd_number : mg "_law_odd_number" = some (.ref a__law_odd_number)
  a__law_call : Addr
  d__law_call : FuncData
  F__law_call : Fun K "_law_call" "_law_call" s__law_call a__law_call d__law_call
  b__law_call : Binds K d__law_call ["_law_kind", "_law_value"] []
  g__law_call : mg "_law_call" = some (.ref a__law_call)
  a_law : Addr
  d_law : FuncData
  F_law : Fun K "law" "law" s_law a_law d_law
  b_law : Binds K d_law ["_law_script"] []
  g_law : mg "law" = some (.ref a_law)
  C_Trick : Addr
  cl_Trick : Cls K C_Trick
  g_Trick : mg "Trick" = some (.ref C_Trick)
  kc_Trick : PySem.W.keepIn K (.ref C_Trick) = true
  ins_Trick : ∀ (H : Hp) (a dx : Addr) (fs : List (Str × V)), H a = some (.ins C_Trick dx fs) → TyOf K H (.ref a) (.ref C_Trick)
  ki_Trick_int : PySem.W.kitOne K (.ref C_Trick) (.type "int") = some false
  ki_Trick_bool : PySem.W.kitOne K (.ref C_Trick) (.type "bool") = some false
  ki_Trick_tuple : PySem.W.kitOne K (.ref C_Trick) (.type "tuple") = some false
  ki_Trick_list : PySem.W.kitOne K (.ref C_Trick) (.type "list") = some false
  nf_Trick_tuple : PySem.W.subIn K (.type "tuple") (.ref C_Trick) = some false
  kis_Trick : PySem.W.kitOne K (.ref C_Trick) (.ref C_Trick) = some true
  kin_Trick_int : PySem.W.kitOne K (.type "int") (.ref C_Trick) = some false
  kin_Trick_bool : PySem.W.kitOne K (.type "bool") (.ref C_Trick) = some false
  kin_Trick_tuple : PySem.W.kitOne K (.type "tuple") (.ref C_Trick) = some false
  kin_Trick_list : PySem.W.kitOne K (.type "list") (.ref C_Trick) = some false
  kin_Trick_NoneType : PySem.W.kitOne K (.type "NoneType") (.ref C_Trick) = some false
  kin_Trick_str : PySem.W.kitOne K (.type "str") (.ref C_Trick) = some false
  kin_Trick_dict : PySem.W.kitOne K (.type "dict") (.ref C_Trick) = some false
  na_Trick_base : NoAttr K C_Trick "_base"
  na_Trick_take : NoAttr K C_Trick "_take"
  na_Trick_times : NoAttr K C_Trick "_times"
  a_Trick___init__ : Addr
  d_Trick___init__ : FuncData
  F_Trick___init__ : Fun K "__init__" "Trick.__init__" s_Trick___init__ a_Trick___init__ d_Trick___init__
  b_Trick___init__ : Binds K d_Trick___init__ ["self", "base", "take", "times"] []
  mk_Trick : Mk K C_Trick a_Trick___init__
  a_Trick_base : Addr
  d_Trick_base : FuncData
  F_Trick_base : Fun K "base" "Trick.base" s_Trick_base a_Trick_base d_Trick_base
  b_Trick_base : Binds K d_Trick_base ["self"] []
  q_Trick_base : Addr
  p_Trick_base : PropOf K C_Trick "base" q_Trick_base a_Trick_base
  a_Trick_take : Addr
  d_Trick_take : FuncData
  F_Trick_take : Fun K "take" "Trick.take" s_Trick_take a_Trick_take d_Trick_take
  b_Trick_take : Binds K d_Trick_take ["self"] []
  q_Trick_take : Addr
  p_Trick_take : PropOf K C_Trick "take" q_Trick_take a_Trick_take
  a_Trick_times : Addr
  d_Trick_times : FuncData
  F_Trick_times : Fun K "times" "Trick.times" s_Trick_times a_Trick_times d_Trick_times
  b_Trick_times : Binds K d_Trick_times ["self"] []
  q_Trick_times : Addr
  p_Trick_times : PropOf K C_Trick "times" q_Trick_times a_Trick_times
  a_Trick___eq__ : Addr
  d_Trick___eq__ : FuncData
  F_Trick___eq__ : Fun K "__eq__" "Trick.__eq__" s_Trick___eq__ a_Trick___eq__ d_Trick___eq__
  b_Trick___eq__ : Binds K d_Trick___eq__ ["self", "other"] []
  m_Trick___eq__ : Meth K C_Trick "__eq__" a_Trick___eq__
  C_Reckoner : Addr
  cl_Reckoner : Cls K C_Reckoner
  g_Reckoner : mg "Reckoner" = some (.ref C_Reckoner)
  kc_Reckoner : PySem.W.keepIn K (.ref C_Reckoner) = true
  ins_Reckoner : ∀ (H : Hp) (a dx : Addr) (fs : List (Str × V)), H a = some (.ins C_Reckoner dx fs) → TyOf K H (.ref a) (.ref C_Reckoner)
  ki_Reckoner_int : PySem.W.kitOne K (.ref C_Reckoner) (.type "int") = some false
  ki_Reckoner_bool : PySem.W.kitOne K (.ref C_Reckoner) (.type "bool") = some false
  ki_Reckoner_tuple : PySem.W.kitOne K (.ref C_Reckoner) (.type "tuple") = some false
  ki_Reckoner_list : PySem.W.kitOne K (.ref C_Reckoner) (.type "list") = some false
  kis_Reckoner : PySem.W.kitOne K (.ref C_Reckoner) (.ref C_Reckoner) = some true
  kin_Reckoner_int : PySem.W.kitOne K (.type "int") (.ref C_Reckoner) = some false
  kin_Reckoner_bool : PySem.W.kitOne K (.type "bool") (.ref C_Reckoner) = some false
  kin_Reckoner_tuple : PySem.W.kitOne K (.type "tuple") (.ref C_Reckoner) = some false
  kin_Reckoner_list : PySem.W.kitOne K (.type "list") (.ref C_Reckoner) = some false
  kin_Reckoner_NoneType : PySem.W.kitOne K (.type "NoneType") (.ref C_Reckoner) = some false
  kin_Reckoner_str : PySem.W.kitOne K (.type "str") (.ref C_Reckoner) = some false
  kin_Reckoner_dict : PySem.W.kitOne K (.type "dict") (.ref C_Reckoner) = some false
  na_Reckoner_numbers : NoAttr K C_Reckoner "_numbers"
  na_Reckoner_tricks : NoAttr K C_Reckoner "_tricks"
  a_Reckoner___init__ : Addr
  d_Reckoner___init__ : FuncData
  F_Reckoner___init__ : Fun K "__init__" "Reckoner.__init__" s_Reckoner___init__ a_Reckoner___init__ d_Reckoner___init__
  b_Reckoner___init__ : Binds K d_Reckoner___init__ ["self", "n"] []
  mk_Reckoner : Mk K C_Reckoner a_Reckoner___init__
  a_Reckoner_now : Addr
  d_Reckoner_now : FuncData
  F_Reckoner_now : Fun K "now" "Reckoner.now" s_Reckoner_now a_Reckoner_now d_Reckoner_now
  b_Reckoner_now : Binds K d_Reckoner_now ["self"] []
  q_Reckoner_now : Addr
  p_Reckoner_now : PropOf K C_Reckoner "now" q_Reckoner_now a_Reckoner_now
  a_Reckoner_tricks : Addr
  d_Reckoner_tricks : FuncData
  F_Reckoner_tricks : Fun K "tricks" "Reckoner.tricks" s_Reckoner_tricks a_Reckoner_tricks d_Reckoner_tricks
  b_Reckoner_tricks : Binds K d_Reckoner_tricks ["self"] []
  q_Reckoner_tricks : Addr
  p_Reckoner_tricks : PropOf K C_Reckoner "tricks" q_Reckoner_tricks a_Reckoner_tricks
  a_Reckoner_step : Addr
  d_Reckoner_step : FuncData
  F_Reckoner_step : Fun K "step" "Reckoner.step" s_Reckoner_step a_Reckoner_step d_Reckoner_step
  b_Reckoner_step : Binds K d_Reckoner_step ["self", "trick"] []
  m_Reckoner_step : Meth K C_Reckoner "step" a_Reckoner_step
  a_Reckoner_undo : Addr
  d_Reckoner_undo : FuncData
  F_Reckoner_undo : Fun K "undo" "Reckoner.undo" s_Reckoner_undo a_Reckoner_undo d_Reckoner_undo
  b_Reckoner_undo : Binds K d_Reckoner_undo ["self"] []
  m_Reckoner_undo : Meth K C_Reckoner "undo" a_Reckoner_undo
  a_Reckoner_copy : Addr
  d_Reckoner_copy : FuncData
  F_Reckoner_copy : Fun K "copy" "Reckoner.copy" s_Reckoner_copy a_Reckoner_copy d_Reckoner_copy
  b_Reckoner_copy : Binds K d_Reckoner_copy ["self"] []
  m_Reckoner_copy : Meth K C_Reckoner "copy" a_Reckoner_copy
  a_Reckoner___len__ : Addr
  d_Reckoner___len__ : FuncData
  F_Reckoner___len__ : Fun K "__len__" "Reckoner.__len__" s_Reckoner___len__ a_Reckoner___len__ d_Reckoner___len__
  b_Reckoner___len__ : Binds K d_Reckoner___len__ ["self"] []
  m_Reckoner___len__ : Meth K C_Reckoner "__len__" a_Reckoner___len__
  C_Sum : Addr
  cl_Sum : Cls K C_Sum
  g_Sum : mg "Sum" = some (.ref C_Sum)
  kc_Sum : PySem.W.keepIn K (.ref C_Sum) = true
  ins_Sum : ∀ (H : Hp) (a dx : Addr) (fs : List (Str × V)), H a = some (.ins C_Sum dx fs) → TyOf K H (.ref a) (.ref C_Sum)
  ki_Sum_int : PySem.W.kitOne K (.ref C_Sum) (.type "int") = some false
  ki_Sum_bool : PySem.W.kitOne K (.ref C_Sum) (.type "bool") = some false
  ki_Sum_tuple : PySem.W.kitOne K (.ref C_Sum) (.type "tuple") = some false
  ki_Sum_list : PySem.W.kitOne K (.ref C_Sum) (.type "list") = some false
  nf_Sum_tuple : PySem.W.subIn K (.type "tuple") (.ref C_Sum) = some false
  kis_Sum : PySem.W.kitOne K (.ref C_Sum) (.ref C_Sum) = some true
  kin_Sum_int : PySem.W.kitOne K (.type "int") (.ref C_Sum) = some false
  kin_Sum_bool : PySem.W.kitOne K (.type "bool") (.ref C_Sum) = some false
  kin_Sum_tuple : PySem.W.kitOne K (.type "tuple") (.ref C_Sum) = some false
  kin_Sum_list : PySem.W.kitOne K (.type "list") (.ref C_Sum) = some false
  kin_Sum_NoneType : PySem.W.kitOne K (.type "NoneType") (.ref C_Sum) = some false
  kin_Sum_str : PySem.W.kitOne K (.type "str") (.ref C_Sum) = some false
  kin_Sum_dict : PySem.W.kitOne K (.type "dict") (.ref C_Sum) = some false
  na_Sum_base : NoAttr K C_Sum "_base"
  na_Sum_first : NoAttr K C_Sum "_first"
  na_Sum_loop : NoAttr K C_Sum "_loop"
  na_Sum_take : NoAttr K C_Sum "_take"
  a_Sum___init__ : Addr
  d_Sum___init__ : FuncData
  F_Sum___init__ : Fun K "__init__" "Sum.__init__" s_Sum___init__ a_Sum___init__ d_Sum___init__
  b_Sum___init__ : Binds K d_Sum___init__ ["self", "base", "take", "first", "loop"] []
  mk_Sum : Mk K C_Sum a_Sum___init__
  a_Sum_base : Addr
  d_Sum_base : FuncData
  F_Sum_base : Fun K "base" "Sum.base" s_Sum_base a_Sum_base d_Sum_base
  b_Sum_base : Binds K d_Sum_base ["self"] []
  q_Sum_base : Addr
  p_Sum_base : PropOf K C_Sum "base" q_Sum_base a_Sum_base
  a_Sum_take : Addr
  d_Sum_take : FuncData
  F_Sum_take : Fun K "take" "Sum.take" s_Sum_take a_Sum_take d_Sum_take
  b_Sum_take : Binds K d_Sum_take ["self"] []
  q_Sum_take : Addr
  p_Sum_take : PropOf K C_Sum "take" q_Sum_take a_Sum_take
  a_Sum_first : Addr
  d_Sum_first : FuncData
  F_Sum_first : Fun K "first" "Sum.first" s_Sum_first a_Sum_first d_Sum_first
  b_Sum_first : Binds K d_Sum_first ["self"] []
  q_Sum_first : Addr
  p_Sum_first : PropOf K C_Sum "first" q_Sum_first a_Sum_first
  a_Sum_loop : Addr
  d_Sum_loop : FuncData
  F_Sum_loop : Fun K "loop" "Sum.loop" s_Sum_loop a_Sum_loop d_Sum_loop
  b_Sum_loop : Binds K d_Sum_loop ["self"] []
  q_Sum_loop : Addr
  p_Sum_loop : PropOf K C_Sum "loop" q_Sum_loop a_Sum_loop
  a_Sum___eq__ : Addr
  d_Sum___eq__ : FuncData
  F_Sum___eq__ : Fun K "__eq__" "Sum.__eq__" s_Sum___eq__ a_Sum___eq__ d_Sum___eq__
  b_Sum___eq__ : Binds K d_Sum___eq__ ["self", "other"] []
  m_Sum___eq__ : Meth K C_Sum "__eq__" a_Sum___eq__
  n_int : mg "int" = none
  n_bool : mg "bool" = none
  n_len : mg "len" = none
  n_range : mg "range" = none
  n_isinstance : mg "isinstance" = none
  n_tuple : mg "tuple" = none
  n_list : mg "list" = none
  n_sorted : mg "sorted" = none
  n_enumerate : mg "enumerate" = none
  n_abs : mg "abs" = none
  n_min : mg "min" = none
  n_super : mg "super" = none
  n_ValueError : mg "ValueError" = none
  a_BadNumber___init__ : Addr
  x_BadNumber : ErrX.ErrTxt P K mg "BadNumber" "n" C_BadNumber a_BadNumber___init__ (ErrX.aeOf s_BadNumber___init__) s_BadNumber___init__
  a_BadWeights___init__ : Addr
  x_BadWeights : ErrX.ErrTxt P K mg "BadWeights" "index" C_BadWeights a_BadWeights___init__ (ErrX.aeOf s_BadWeights___init__) s_BadWeights___init__
  a_BadTricks___init__ : Addr
  x_BadTricks : ErrX.ErrTxt P K mg "BadTricks" "index" C_BadTricks a_BadTricks___init__ (ErrX.aeOf s_BadTricks___init__) s_BadTricks___init__
/-! ### the program's own classes (no errors) -/
def OwnT {P : Program} {K : PySem.W.Frag} {mg : Str → Option Value} (T : Tx P K mg) (C : Addr) : Prop := C = T.C_Trick ∨ C = T.C_Reckoner ∨ C = T.C_Sum
theorem OwnT.ty {P : Program} {K : PySem.W.Frag} {mg : Str → Option Value} {T : Tx P K mg} {C : Addr} (t : OwnT T C) {H : Hp} {a dx : Addr} {fs : List (Str × V)} (e : H a = some (.ins C dx fs)) : TyOf K H (.ref a) (.ref C) := by
  rcases t with rfl | rfl | rfl
  · exact T.ins_Trick _ _ _ _ e
  · exact T.ins_Reckoner _ _ _ _ e
  · exact T.ins_Sum _ _ _ _ e
theorem OwnT.nint {P : Program} {K : PySem.W.Frag} {mg : Str → Option Value} {T : Tx P K mg} {C : Addr} (t : OwnT T C) : PySem.W.kitOne K (.ref C) (.type "int") = some false := by
  rcases t with rfl | rfl | rfl
  · exact T.ki_Trick_int
  · exact T.ki_Reckoner_int
  · exact T.ki_Sum_int
theorem OwnT.nbool {P : Program} {K : PySem.W.Frag} {mg : Str → Option Value} {T : Tx P K mg} {C : Addr} (t : OwnT T C) : PySem.W.kitOne K (.ref C) (.type "bool") = some false := by
  rcases t with rfl | rfl | rfl
  · exact T.ki_Trick_bool
  · exact T.ki_Reckoner_bool
  · exact T.ki_Sum_bool
theorem OwnT.ntuple {P : Program} {K : PySem.W.Frag} {mg : Str → Option Value} {T : Tx P K mg} {C : Addr} (t : OwnT T C) : PySem.W.kitOne K (.ref C) (.type "tuple") = some false := by
  rcases t with rfl | rfl | rfl
  · exact T.ki_Trick_tuple
  · exact T.ki_Reckoner_tuple
  · exact T.ki_Sum_tuple
theorem OwnT.nlist {P : Program} {K : PySem.W.Frag} {mg : Str → Option Value} {T : Tx P K mg} {C : Addr} (t : OwnT T C) : PySem.W.kitOne K (.ref C) (.type "list") = some false := by
  rcases t with rfl | rfl | rfl
  · exact T.ki_Trick_list
  · exact T.ki_Reckoner_list
  · exact T.ki_Sum_list
theorem ar_BadNumber {P : Program} {w : World} : ∀ (v : V) (u : Value), True → RelV v u → ErrX.ArgOk P w (ErrX.aeOf s_BadNumber___init__) "n" u := fun _ _ _ _ => ErrX.argOk_const rfl
theorem ar_BadWeights {P : Program} {w : World} : ∀ (v : V) (u : Value), ErrX.NoneInt v → RelV v u → ErrX.ArgOk P w (ErrX.aeOf s_BadWeights___init__) "index" u := fun _ _ n r => ErrX.argOk_f n r
theorem ar_BadTricks {P : Program} {w : World} : ∀ (v : V) (u : Value), ErrX.NoneInt v → RelV v u → ErrX.ArgOk P w (ErrX.aeOf s_BadTricks___init__) "index" u := fun _ _ n r => ErrX.argOk_f n r
section
variable {P : Program} {w : World} {K : PySem.W.Frag} {mg : Str → Option Value} {base : Heap}
/-! ### heaps -/
/-- all but what stands at r is as it was -/
def But (r : Addr) (H H' : Hp) : Prop := ∀ b o, H b = some o → b ≠ r → H' b = some o
theorem But.refl (r : Addr) (H : Hp) : But r H H := fun _ _ e _ => e
theorem But.trans {r : Addr} {H H1 H2 : Hp} (a : But r H H1) (b : But r H1 H2) : But r H H2 := fun c o e n => b c o (a c o e n) n
theorem Same.but {r : Addr} {H H' : Hp} (a : Same H H') : But r H H' := fun c o e _ => a c o e
theorem But.put {r : Addr} {H : Hp} {o : HO} : But r H (upd H r o) := fun b _ e n => by rw [upd_ne n]; exact e
theorem But.seq {K : PySem.W.Frag} {r a : Addr} {H H' : Hp} {xs : List V} (e : But r H H') (n : a ≠ r) (h : SqL K H a xs) : SqL K H' a xs := by
  rcases h with (h | ⟨o, h⟩) | h
  · exact .inl (.inl (e _ _ h n))
  · exact .inl (.inr ⟨o, e _ _ h n⟩)
  · exact .inr h
theorem same_upd {H : Hp} {p : Addr} {o : HO} (h : H p = none) : Same H (upd H p o) := fun b x e => by
  rw [upd_ne (ne_of_none e h)]
  exact e
/-- any value of the document's point 1 -/
inductive AnyV (T : Addr → Prop) (H : Hp) : V → Prop where
  | non : AnyV T H .non
  | bl (b : Bool) : AnyV T H (.bl b)
  | int (i : Int) : AnyV T H (.int i)
  | str (x : Str) : AnyV T H (.str x)
  | lst {a : Addr} {xs : List V} (e : H a = some (.lst xs)) : AnyV T H (.ref a)
  | tup {a : Addr} {xs : List V} (e : H a = some (.tup xs)) : AnyV T H (.ref a)
  | dct {a : Addr} {kvs : List (Key × V)} (e : H a = some (.dK kvs)) : AnyV T H (.ref a)
  | ins {a C dx : Addr} {fs : List (Str × V)} (t : T C) (e : H a = some (.ins C dx fs)) : AnyV T H (.ref a)
/-- it is an integer from lo to hi -/
def intIn (x : V) (lo hi : Int) : Bool := match x with | .int i => decide (lo ≤ i) && decide (i ≤ hi) | _ => false
theorem intIn_of {i lo hi : Int} (h1 : lo ≤ i) (h2 : i ≤ hi) : intIn (.int i) lo hi = true := by
  show (decide (lo ≤ i) && decide (i ≤ hi)) = true
  rw [decide_eq_true h1, decide_eq_true h2]
  all_goals rfl
theorem small5 {n : Nat} (h : n ≤ 100000) : n < sizeLine := Nat.lt_of_le_of_lt h (by decide)
theorem dec_i (i j : Int) : decide (V.int i = V.int j) = decide (i = j) := by
  rw [Bool.eq_iff_iff]
  simp
theorem AnyV.mono {T : Addr → Prop} {H H' : Hp} {v : V} (a : AnyV T H v) (s : Same H H') : AnyV T H' v := by
  cases a with
  | non => exact .non
  | bl b => exact .bl b
  | int i => exact .int i
  | str x => exact .str x
  | lst e => exact .lst (s _ _ e)
  | tup e => exact .tup (s _ _ e)
  | dct e => exact .dct (s _ _ e)
  | ins t e => exact .ins t (s _ _ e)
theorem intIn_int' {x : V} {lo hi : Int} (h : intIn x lo hi = true) : ∃ i, x = .int i ∧ lo ≤ i ∧ i ≤ hi := by
  cases x with
  | int i =>
    have h2 : (decide (lo ≤ i) && decide (i ≤ hi)) = true := h
    rw [Bool.and_eq_true, decide_eq_true_iff, decide_eq_true_iff] at h2
    exact ⟨i, rfl, h2⟩
  | _ => cases h

/-! ### lists of ints -/
theorem dpAll_ints {H : Hp} : ∀ ns : List Int, DpAll K H (ns.map V.int) (ns.map PyData.int)
  | [] => .nil
  | n :: ns => .cons (.int n) (dpAll_ints ns)
theorem dp_ints {H : Hp} {a : Addr} {ns : List Int} (h : SqL K H a (ns.map V.int)) : Dp K H (.ref a) (.list (ns.map PyData.int)) := .lst h (dpAll_ints ns)
theorem dp_tints {H : Hp} {a : Addr} {ns : List Int} (h : SqT K H a (ns.map V.int)) : Dp K H (.ref a) (.tuple (ns.map PyData.int)) := .tup h (dpAll_ints ns)
theorem eqvAll_ints : ∀ ns ms : List Int, PyData.eqvAll (ns.map PyData.int) (ms.map PyData.int) = decide (ns = ms)
  | [], [] => rfl
  | [], _ :: _ => rfl
  | _ :: _, [] => rfl
  | n :: ns, m :: ms => by
    show (PyData.eqv (.int n) (.int m) && PyData.eqvAll (ns.map PyData.int) (ms.map PyData.int)) = _
    rw [eqvAll_ints ns ms]
    show ((n == m) && decide (ns = ms)) = _
    by_cases h1 : n = m
    · by_cases h2 : ns = ms
      · simp [h1, h2]
      · simp [h1, h2]
    · simp [h1]
theorem eqv_ints (ns ms : List Int) : PyData.eqv (.list (ns.map PyData.int)) (.list (ms.map PyData.int)) = decide (ns = ms) := eqvAll_ints ns ms
theorem eqv_tints (ns ms : List Int) : PyData.eqv (.tuple (ns.map PyData.int)) (.tuple (ms.map PyData.int)) = decide (ns = ms) := eqvAll_ints ns ms
theorem shaped_lints (ns : List Int) : SeqAt.shaped (.list (ns.map PyData.int)) = true := PySem.W.shaped_ints ns
/-- an item of a written list at a drawn place -/
theorem at_some (Pr : Int → Prop) {ns : List Int} (h : ∀ z ∈ ns, Pr z) {i : Int} (h0 : 0 ≤ i) (h1 : i < ns.length) : ∃ z, Pr z ∧ atI (ns.map V.int) i = some (V.int z) := by
  obtain ⟨z, hz⟩ : ∃ z, ns[i.toNat]? = some z := ⟨ns[i.toNat]'(by omega), List.getElem?_eq_getElem (by omega)⟩
  refine ⟨z, h z (List.mem_of_getElem? hz), at_of (j := i.toNat) (by omega) (by rw [List.getElem?_map, hz]; rfl)⟩
theorem sorted_ext {l m : List Int} (p : l.Perm m) (h1 : l.Pairwise (· ≤ ·)) (h2 : m.Pairwise (· ≤ ·)) : l = m :=
  p.eq_of_pairwise (fun a b _ _ x y => Int.le_antisymm x y) h1 h2
/-- reading an item within a comprehension: the written part said aloud -/
theorem ix_lK {X : Cx} (h : X.K = K) : IxR X (rIxL K) := by
  subst h
  exact ix_list
/-- the same of a tuple -/
theorem ix_tK {X : Cx} (h : X.K = K) : IxR X (rIxT K) := by
  subst h
  exact ix_tup
/-- name op= e, by the operation in place -/
theorem ip_op {X : Cx} {op : Operator} {r : R2} (ho : OpR X (inplaceOp op) r) : PIp X op r := fun pins s σ H x y v u Q I r1 r2 h => ho pins s σ H x y v u Q I r1 r2 h

/-! ### what is shallow enough to be compared -/
theorem lays_map {α : Type} (f : α → PyData) (k : Nat) (h : ∀ x, PyData.canLay0 (f x) = true ∧ PyData.depth (f x) ≤ k) : ∀ l : List α, PyData.canLayAll0 (l.map f) = true ∧ PyData.depthAll (l.map f) ≤ k
  | [] => ⟨by simp [PyData.canLayAll0], by simp [PyData.depthAll]⟩
  | x :: l => by
    have h1 := lays_map f k h l
    have h2 := h x
    refine ⟨by simp [PyData.canLayAll0, h1.1, h2.1], ?_⟩
    simp only [List.map_cons, PyData.depthAll]
    omega
theorem shaped_of {ds : List PyData} {k : Nat} (h : PyData.canLayAll0 ds = true ∧ PyData.depthAll ds ≤ k) (hk : k ≤ 60) : SeqAt.shaped (.list ds) = true ∧ SeqAt.shaped (.tuple ds) = true := by
  have e1 : PyData.depth (.list ds) ≤ 64 := by simp only [PyData.depth]; omega
  have e2 : PyData.depth (.tuple ds) ≤ 64 := by simp only [PyData.depth]; omega
  refine ⟨?_, ?_⟩
  · show (PyData.canLay0 (.list ds) && decide (PyData.depth (.list ds) ≤ 64)) = true
    rw [Bool.and_eq_true]
    exact ⟨by simp only [PyData.canLay0]; exact h.1, decide_eq_true e1⟩
  · show (PyData.canLay0 (.tuple ds) && decide (PyData.depth (.tuple ds) ≤ 64)) = true
    rw [Bool.and_eq_true]
    exact ⟨by simp only [PyData.canLay0]; exact h.1, decide_eq_true e2⟩
theorem lay_int (i : Int) : PyData.canLay0 (.int i) = true ∧ PyData.depth (.int i) ≤ 1 := ⟨by simp [PyData.canLay0], by simp [PyData.depth]⟩
theorem shaped_tints (ns : List Int) : SeqAt.shaped (.tuple (ns.map PyData.int)) = true := (shaped_of (lays_map PyData.int 1 lay_int ns) (by decide)).2

end
end Rt
namespace L2
open PySem PySem.Spec PyProof.Rows
/-! ### two lists of one thing, the same -/
def rNe1 (K : PySem.W.Frag) : R2 := fun x y H Q => (∃ a b z, x = .ref a ∧ y = .ref b ∧ SqL K H a [.ref z] ∧ SqL K H b [.ref z] ∧ Q (.bl false) H) ∨ rNeD K x y H Q
theorem op_ne1 {X : Cx} (hu : X.A.units + 64 < cLine) : OpR X (compareOp .NotEq) (rNe1 X.K) := by
  intro pins s σ H x y v u Q I rx ry h
  rcases h with ⟨a, b, z, rfl, rfl, h1, h2, q⟩ | h
  · obtain ⟨its, rv, hl, _⟩ := I.list h1
    obtain ⟨its2, rv2, hl2, _⟩ := I.list h2
    cases (show v = Value.ref a from rx)
    cases (show u = Value.ref b from ry)
    cases rv with
    | cons r1 rr1 =>
      cases rr1
      cases rv2 with
      | cons r2 rr2 =>
        cases rr2
        cases r1
        cases r2
        refine SeqAt.RcNeAt.lists (e := fun _ => true) hl.isList hl2.isList rfl (by omega) (fun j j1 j2 => ?_) _ _ _ _ ⟨.bl false, H, I, rfl, q⟩
        have j0 : j = 0 := by
          have : j < 1 := j1
          omega
        subst j0
        exact SeqAt.EqAt.same _
  · exact op_neD hu pins s σ H x y v u Q I rx ry h
end L2
namespace Rt
open PySem L2 PySem.Spec PyProof.Rows
section
variable {P : Program} {w : World} {K : PySem.W.Frag} {mg : Str → Option Value} {base : Heap}

end
end Rt
namespace L2
open PySem PySem.Calls PySem.Spec PyProof.Rows
/-! ### a dict, compared with an int -/
theorem int_declines_dict (b : Int) (u : Tok) (l : Addr) (dd : Option Addr) (es : Array DictEntry) (ep : Nat) (sl : Array (Option Value)) :
    Meets (Builtin.«int.__eq__» ⟨[.int b u, .ref l], []⟩) (fun _ R s => s.heap.get? l = some { cls := .type "dict", dict := dd, data := .dict es ep, slots := sl } ∧ R (.ok (.ret .notImplemented)) s) :=
  .of_wp fun prog w A R s h => by
    obtain ⟨hp, g, d, tk, os⟩ := s
    obtain ⟨hl, h⟩ := h
    wp_walk using wpAny_loadPart' hl, wpAny_load hl
    exact ⟨_, rfl, h⟩
theorem dict_int {K : Type} [DecidableEq K] {prog : Program} {w : World} {A : Around} {E : Value → Shared → Prop} {s : Shared} {knd : KeyKind prog w K} {a : Addr} {ka : List (K × Value)} {b : Int} {u : Tok} {Q : Value → Shared → Prop} (da : s.heap.DictOf knd a ka) (hu : A.units < cLine) (h : Q (.bool false) s) :
    wpAny (model prog w) A (richCompare .Eq (.ref a) (.int b u)) Q E s := by
  obtain ⟨⟨cls, dd, data, sl⟩, es, ep, ho, hc, hd, hk, hp, hz⟩ := id da
  have hc1 : cls = .type "dict" := hc.1
  simp only at hd
  subst hc1 hd
  refine SeqAt.rc_eq_decline_or (k := false) da.typeIs (typeIs_int s b u) (by decide) PySem.F.sub_int_dict PySem.F.slot_dict_eq F.slot_int_eq_refl
    (fun Q' hq => wpAny_call_entry PySem.F.slot_dict_eq da.typeIs PySem.F.entry_dict_eq ?_ (PySem.F.args_dict_eq_2 _ _))
    (fun _ hq => call_meets F.slot_int_eq_refl (typeIs_int s b u) F.entry_int_eq (F.args_int_eq_2 _ _) (int_declines_dict b u a dd es ep sl) ⟨ho, hq⟩)
    (fun _ hq => wpAny_of_eq (rfl : isSame (.ref a) (.int b u) = pure false) hq) (.inr hu) h
  show wpAny _ _ (Builtin.Dict.dictSlotArgs "__eq__" ⟨[.ref a, .int b u], []⟩ >>= _) _ _ s
  refine wpAny_bind ?_
  unfold Builtin.Dict.dictSlotArgs
  refine wpAny_bind (wpAny_notOrdered_dict da.typeIs ?_)
  show wpAny _ _ (pure (Value.ref a, Value.int b u)) _ _ s
  refine wpAny_pure ?_
  refine wpAny_bind (wpAny_isInstance (T := "int") (typeIs_int s b u) PySem.F.sub_int_dict ?_)
  simp only [Bool.not_false, if_true]
  exact wpAny_bind (wpAny_rule (wpAny_pure ⟨_, rfl, hq⟩))
/-- whether a value equals an int -/
def eqI (x : V) (i : Int) : Bool := match x with
  | .int j => j == i
  | .bl b => (if b then 1 else 0) == i
  | _ => false
/-- a plain value, a tuple or a dict -/
inductive PlainV (H : Hp) : V → Prop where
  | nil : PlainV H .non
  | bl (b : Bool) : PlainV H (.bl b)
  | int (i : Int) : PlainV H (.int i)
  | str (z : Str) : PlainV H (.str z)
  | tup {a : Addr} {xs : List V} (e : H a = some (.tup xs)) : PlainV H (.ref a)
  | dct {a : Addr} {kvs : List (Key × V)} (e : H a = some (.dK kvs)) : PlainV H (.ref a)
def rEqI : R2 := fun x y H Q => ∃ i, y = .int i ∧ PlainV H x ∧ Q (.bl (eqI x i)) H
theorem op_eqI {X : Cx} (hu : X.A.units + 64 < cLine) : OpR X (compareOp .Eq) rEqI := by
  intro pins s σ H x y v u Q I rx ry h
  obtain ⟨i, rfl, k, q⟩ := h
  obtain ⟨t, rfl⟩ : ∃ t, u = .int i t := ry
  have fin : ∀ b : Bool, b = eqI x i → EP X pins σ Q (.bool b) s := fun b e => ⟨.bl b, H, I, rfl, by rw [e]; exact q⟩
  show wpAny (model X.prog X.w) X.A (richCompare .Eq v (.int i t)) _ _ s
  cases k with
  | nil =>
    obtain rfl : v = Value.none := rx
    exact SeqAt.RcAt.none_int i t _ _ _ _ (fin _ rfl)
  | bl b =>
    obtain rfl : v = Value.bool b := rx
    exact SeqAt.RcAt.bool_int b i t _ _ _ _ (fin _ rfl)
  | int j =>
    obtain ⟨t2, rfl⟩ : ∃ t2, v = .int j t2 := rx
    exact SeqAt.RcAt.int_int j t2 i t _ _ _ _ (fin _ rfl)
  | str z =>
    obtain ⟨t2, rfl⟩ : ∃ t2, v = .str z t2 := rx
    exact SeqAt.RcAt.str_int z t2 i t _ _ _ _ (fin _ rfl)
  | @tup a xs e =>
    obtain rfl : v = Value.ref a := rx
    obtain ⟨its, _, tt, _⟩ := I.tuple (SqT.of e)
    exact SeqAt.RcAt.tuple_int i t tt (by omega) _ _ _ _ (fin _ rfl)
  | @dct a kvs e =>
    obtain rfl : v = Value.ref a := rx
    obtain ⟨_, _, vs, _, dd⟩ := dk_of I.hok e
    exact dict_int dd (by omega) (fin _ rfl)
end L2
namespace Rt
open PySem L2 PySem.Spec PyProof.Rows
section
variable {P : Program} {w : World} {K : PySem.W.Frag} {mg : Str → Option Value} {base : Heap}

/-! ### what is wished for less is met, too -/
def TEMono (t : TE) : Prop := ∀ (σ : L2.St) (H : Hp) (Q Q' : VK), (∀ v H1, Q v H1 → Q' v H1) → t σ H Q → t σ H Q'
def TAMono (t : TA) : Prop := ∀ (σ : L2.St) (H : Hp) (Q Q' : List V → Hp → Prop), (∀ v H1, Q v H1 → Q' v H1) → t σ H Q → t σ H Q'
def TTMono (t : TT) : Prop := ∀ (σ : L2.St) (H : Hp) (Q Q' : Bool → Hp → Prop), (∀ b H1, Q b H1 → Q' b H1) → t σ H Q → t σ H Q'
def R2Mono (r : R2) : Prop := ∀ (x y : V) (H : Hp) (Q Q' : VK), (∀ v H1, Q v H1 → Q' v H1) → r x y H Q → r x y H Q'
theorem m_var {i : Nat} : TEMono (tVar i) := fun _ _ _ _ h ⟨v, e, z⟩ => ⟨v, e, h _ _ z⟩
theorem m_c {v : V} : TEMono (tC v) := fun _ _ _ _ h z => h _ _ z
theorem m_op {r : R2} {a b : TE} (hr : R2Mono r) (ha : TEMono a) (hb : TEMono b) : TEMono (tOp r a b) := fun σ H Q Q' h z => ha σ H _ _ (fun x H1 q => hb σ H1 _ _ (fun y H2 q2 => hr x y H2 _ _ h q2) q) z
theorem m_nil : TAMono tNil := fun _ _ _ _ h z => h _ _ z
theorem m_cons {t : TE} {u : TA} (ht : TEMono t) (hu : TAMono u) : TAMono (tCons t u) := fun σ H Q Q' h z => ht σ H _ _ (fun x H1 q => hu σ H1 _ _ (fun xs H2 q2 => h _ _ q2) q) z
theorem m_test {t : TE} (ht : TEMono t) : TTMono (tTest t) := fun σ H Q Q' h z => ht σ H _ _ (fun x H1 ⟨k, e, q⟩ => ⟨k, e, h _ _ q⟩) z
theorem m_and {t u : TT} (ht : TTMono t) (hu : TTMono u) : TTMono (tAnd t u) := fun σ H Q Q' h z => ht σ H _ _ (fun c H1 q => by
  cases c with
  | true => exact hu σ H1 _ _ h q
  | false => exact h _ _ q) z
theorem m_rI {C : Int → Int → Prop} {g : Int → Int → V} : R2Mono (rI C g) := fun _ _ _ _ _ h ⟨i, j, e1, e2, c, q⟩ => ⟨i, j, e1, e2, c, h _ _ q⟩
theorem m_rI0 {g : Int → Int → V} : R2Mono (rI0 g) := fun _ _ _ _ _ h ⟨i, j, e1, e2, q⟩ => ⟨i, j, e1, e2, h _ _ q⟩
theorem m_rEq : R2Mono rEq := fun _ _ _ _ _ h ⟨e, q⟩ => ⟨e, h _ _ q⟩
theorem m_rNe : R2Mono rNe := fun _ _ _ _ _ h ⟨e, q⟩ => ⟨e, h _ _ q⟩
theorem m_rIn {n : Bool} : R2Mono (rIn K n) := fun _ _ _ _ _ h ⟨p, xs, e, s, f, a, q⟩ => ⟨p, xs, e, s, f, a, h _ _ q⟩
theorem m_len {i : Nat} : TEMono (tCB (fun xs H Q => ∃ p ys, xs = [V.ref p] ∧ (SqL K H p ys ∨ SqT K H p ys) ∧ Q (.int (ys.length : Int)) H) (tCons (tVar i) tNil)) := fun _ _ _ _ h ⟨v, e, p, ys, e1, e2, q⟩ => ⟨v, e, p, ys, e1, e2, h _ _ q⟩
/-! ### what is never reached -/
def tNev : TS := fun _ _ _ => False
theorem pss_nev {X : Cx} {sts : List Stmt} : PSs X sts tNev := ⟨fun _ _ _ _ _ _ h => h.elim⟩

/-! ### is_integer, and the checks -/
def spIsInt (T : Tx P K mg) : Sp := fun vs H Q _ => ∃ (x : V) (lo hi : Int), vs = [x, .int lo, .int hi] ∧ AnyV (OwnT T) H x ∧ Q (.bl (intIn x lo hi)) H
theorem isi_int (T : Tx P K mg) {H : Hp} {x : V} (a : AnyV (OwnT T) H x) : ∃ t, TyX K H x t ∧ (∃ b, PySem.W.kitOne K t (.type "int") = some b ∧ (b = false → ∀ lo hi, intIn x lo hi = false) ∧ ∃ c, PySem.W.kitOne K t (.type "bool") = some c ∧ (c = true → ∀ lo hi, intIn x lo hi = false) ∧ (b = true → c = false → ∃ i, x = .int i)) := by
  cases a with
  | non => exact ⟨_, .base .non, false, kit_ty (by decide +kernel), fun _ _ _ => rfl, false, kit_ty (by decide +kernel), fun _ _ _ => rfl, fun z => nomatch z⟩
  | bl b => exact ⟨_, .base (.bl b), true, kit_ty (by decide +kernel), fun _ _ _ => rfl, true, kit_ty (by decide +kernel), fun _ _ _ => rfl, fun _ z => nomatch z⟩
  | int i => exact ⟨.type "int", .base (.int i), true, kit_ty (by decide +kernel), fun z => Bool.noConfusion z, false, kit_ty (by decide +kernel), fun z => Bool.noConfusion z, fun _ _ => ⟨i, rfl⟩⟩
  | str x => exact ⟨_, .base (.str x), false, kit_ty (by decide +kernel), fun _ _ _ => rfl, false, kit_ty (by decide +kernel), fun _ _ _ => rfl, fun z => nomatch z⟩
  | lst e => exact ⟨_, .base (.lst e), false, kit_ty (by decide +kernel), fun _ _ _ => rfl, false, kit_ty (by decide +kernel), fun _ _ _ => rfl, fun z => nomatch z⟩
  | tup e => exact ⟨_, .base (.tup e), false, kit_ty (by decide +kernel), fun _ _ _ => rfl, false, kit_ty (by decide +kernel), fun _ _ _ => rfl, fun z => nomatch z⟩
  | dct e => exact ⟨_, .base (.dK e), false, kit_ty (by decide +kernel), fun _ _ _ => rfl, false, kit_ty (by decide +kernel), fun _ _ _ => rfl, fun z => nomatch z⟩
  | ins t e => exact ⟨_, .base (t.ty e), false, t.nint, fun _ _ _ => rfl, false, t.nbool, fun _ _ _ => rfl, fun z => nomatch z⟩
theorem ok_is_integer (T : Tx P K mg) : FnOk P w K mg base CX0 lv_is_integer T.a_is_integer T.d_is_integer ["told", "low", "high"] (spIsInt T) := by
  refine T.F_is_integer.ok sc_is_integer (fun vs H Q E h => ?_) (fun cdv A outer s H vs Q E hr h => ?_)
  · obtain ⟨x, lo, hi, rfl, _⟩ := h
    rfl
  · obtain ⟨x, lo, hi, rfl, a, k⟩ := h
    refine ⟨_, (pss_one (ps_ret (pe_and (pe_callB call_isi (by rfl) T.n_isinstance (by decide +kernel) (pa_cons (pv 0) (pa_cons (pe_bltn (v := .ty "int") rfl T.n_int (by decide +kernel) rfl) pa_nil))) (pe_and (pe_not (pe_callB call_isi (by rfl) T.n_isinstance (by decide +kernel) (pa_cons (pv 0) (pa_cons (pe_bltn (v := .ty "bool") rfl T.n_bool (by decide +kernel) rfl) pa_nil)))) (pe_one (pe_chain op_le op_le (pv 1) (pv 0) (pv 2))))))), ?_⟩
    obtain ⟨t, ty, b, e1, h1, c, e2, h2, h3⟩ := isi_int T a
    refine ⟨_, rfl, _, _, _, _, b, rfl, .ty _, ty, e1, b, rfl, ?_⟩
    cases b with
    | false => exact iteF (by rw [h1 rfl lo hi] at k; exact k)
    | true =>
      refine iteT ?_
      refine ⟨_, rfl, _, _, _, _, c, rfl, .ty _, ty, e2, c, rfl, _, rfl, ?_⟩
      cases c with
      | true => exact iteF (by rw [h2 rfl lo hi] at k; exact k)
      | false =>
        refine iteT ?_
        obtain ⟨i, rfl⟩ := h3 rfl rfl
        refine ⟨_, rfl, _, rfl, _, _, rfl, rfl, _, rfl, ?_⟩
        have ke : Q (V.bl (decide (lo ≤ i) && decide (i ≤ hi))) H := k
        refine ite2 (fun c1 => ?_) (fun c1 => ?_)
        · rw [c1] at ke
          exact ⟨_, rfl, _, _, rfl, rfl, ke⟩
        · rw [show decide (lo ≤ i) = false from by simpa using c1] at ke
          exact ke
/-- base, take and the like: a value in the range, or the error of the class C -/
def spChk (T : Tx P K mg) (C : Addr) (lo hi : Int) : Sp := fun vs H Q E => ∃ x : V, vs = [x] ∧ AnyV (OwnT T) H x ∧ (intIn x lo hi = true → Q .non H) ∧ (intIn x lo hi = false → E (.ref C) none H)

/-! ### is_number -/
def spIsNum (T : Tx P K mg) : Sp := fun vs H Q _ => ∃ x : V, vs = [x] ∧ AnyV (OwnT T) H x ∧ Q (.bl (intIn x (-(10 ^ 40)) (10 ^ 40))) H
theorem ok_is_number (T : Tx P K mg) : FnOk P w K mg base CX0 lv_is_number T.a_is_number T.d_is_number ["told"] (spIsNum T) := by
  refine T.F_is_number.ok sc_is_number (fun vs H Q E h => ?_) (fun cdv A outer s H vs Q E hr h => ?_)
  · obtain ⟨x, rfl, _⟩ := h
    rfl
  · obtain ⟨x, rfl, a, k⟩ := h
    refine ⟨_, (pss_one (ps_ret (pe_call (ok_is_integer T) (hr.mono (by decide)) rfl T.g_is_integer T.F_is_integer.kp T.b_is_integer .nil pass0 (pa_cons (pv 0) (pa_cons (pe_un un_neg (pe_glob (v := .int 10000000000000000000000000000000000000000) rfl T.c_GREATEST_NUMBER ⟨_, rfl⟩)) (pa_cons (pe_glob (v := .int 10000000000000000000000000000000000000000) rfl T.c_GREATEST_NUMBER ⟨_, rfl⟩) pa_nil)))))), ?_⟩
    exact ⟨_, rfl, _, rfl, x, _, _, rfl, a, k⟩

theorem ok_check_base (T : Tx P K mg) : FnOk P w K mg base (L2.CX P w) lv_check_base T.a_check_base T.d_check_base ["base"] (spChk T T.C_BadBase 2 16) := by
  refine T.F_check_base.okX sc_check_base (fun vs H Q E h => ?_) (fun cdv A outer s H vs Q E hr h => ?_)
  · obtain ⟨x, rfl, _⟩ := h
    rfl
  · obtain ⟨x, rfl, a, k1, k2⟩ := h
    refine ⟨_, (pss_one (ps_if (pt_not (pt_val (pe_call (ok_is_integer T) (hr.mono (by decide)) rfl T.g_is_integer T.F_is_integer.kp T.b_is_integer .nil pass0 (pa_cons (pv 0) (pa_cons (pe_glob (v := .int 2) rfl T.c_LEAST_BASE ⟨_, rfl⟩) (pa_cons (pe_glob (v := .int 16) rfl T.c_GREATEST_BASE ⟨_, rfl⟩) pa_nil)))))) (pss_one (ps_raise rfl (takes_of rfl rfl rfl rfl) (pmk_own PySem.F.excBase_ValueError T.x_BadBase T.g_BadBase T.k_BadBase (raises_own T.s_BadBase T.t_BadBase) rfl))) pss_nil)), ?_⟩
    refine ⟨_, rfl, _, _, _, rfl, a, _, rfl, ?_⟩
    cases e : intIn x 2 16 with
    | true => exact iteF (k1 e)
    | false => exact iteT (k2 e)

theorem ok_check_take (T : Tx P K mg) : FnOk P w K mg base (L2.CX P w) lv_check_take T.a_check_take T.d_check_take ["take"] (spChk T T.C_BadTake 1 2) := by
  refine T.F_check_take.okX sc_check_take (fun vs H Q E h => ?_) (fun cdv A outer s H vs Q E hr h => ?_)
  · obtain ⟨x, rfl, _⟩ := h
    rfl
  · obtain ⟨x, rfl, a, k1, k2⟩ := h
    refine ⟨_, (pss_one (ps_if (pt_not (pt_val (pe_call (ok_is_integer T) (hr.mono (by decide)) rfl T.g_is_integer T.F_is_integer.kp T.b_is_integer .nil pass0 (pa_cons (pv 0) (pa_cons pe_int (pa_cons (pe_glob (v := .int 2) rfl T.c_GREATEST_TAKE ⟨_, rfl⟩) pa_nil)))))) (pss_one (ps_raise rfl (takes_of rfl rfl rfl rfl) (pmk_own PySem.F.excBase_ValueError T.x_BadTake T.g_BadTake T.k_BadTake (raises_own T.s_BadTake T.t_BadTake) rfl))) pss_nil)), ?_⟩
    refine ⟨_, rfl, _, _, _, rfl, a, _, rfl, ?_⟩
    cases e : intIn x 1 2 with
    | true => exact iteF (k1 e)
    | false => exact iteT (k2 e)

/-! ### numbers, or the error -/
def spNumberX (T : Tx P K mg) : Sp := fun vs H Q E => ∃ x : V, vs = [x] ∧ AnyV (OwnT T) H x ∧ (intIn x (-(10 ^ 40)) (10 ^ 40) = true → Q .non H) ∧ (intIn x (-(10 ^ 40)) (10 ^ 40) = false → ∀ d, H d = none → E (.ref T.C_BadNumber) (some d) (upd H d (.xd [(("n" : Str), x)])))
theorem ok_check_number (T : Tx P K mg) : FnOk P w K mg base (L2.CX P w) lv_check_number T.a_check_number T.d_check_number ["n"] (spNumberX T) := by
  refine T.F_check_number.okX sc_check_number (fun vs H Q E h => ?_) (fun cdv A outer s H vs Q E hr h => ?_)
  · obtain ⟨x, rfl, _⟩ := h
    rfl
  · obtain ⟨x, rfl, a, k1, k2⟩ := h
    refine ⟨_, (pss_one (ps_if (pt_not (pt_val (pe_call (ok_is_number T) (hr.mono (by decide)) rfl T.g_is_number T.F_is_number.kp T.b_is_number .nil pass0 (pa_cons (pv 0) pa_nil)))) (pss_one (ps_raiseF T.x_BadNumber ar_BadNumber rfl hr (takes_of rfl rfl rfl rfl) (pa_cons (pv 0) pa_nil))) pss_nil)), ?_⟩
    refine ⟨_, rfl, x, rfl, a, _, rfl, ?_⟩
    cases e : intIn x (-(10 ^ 40)) (10 ^ 40) with
    | true => exact iteF (k1 e)
    | false => exact iteT ⟨_, rfl, _, rfl, trivial, fun d hd => k2 e d hd⟩

/-! ### numbers in a stretch, or the error -/
def spStretchX (T : Tx P K mg) : Sp := fun vs H Q E => ∃ (x : V) (lo hi : Int), vs = [x, .int lo, .int hi] ∧ AnyV (OwnT T) H x ∧ (intIn x lo hi = true → Q .non H) ∧ (intIn x lo hi = false → ∀ d, H d = none → E (.ref T.C_BadNumber) (some d) (upd H d (.xd [(("n" : Str), x)])))
theorem ok_check_stretch (T : Tx P K mg) : FnOk P w K mg base (L2.CX P w) lv_check_stretch T.a_check_stretch T.d_check_stretch ["n", "low", "high"] (spStretchX T) := by
  refine T.F_check_stretch.okX sc_check_stretch (fun vs H Q E h => ?_) (fun cdv A outer s H vs Q E hr h => ?_)
  · obtain ⟨x, lo, hi, rfl, _⟩ := h
    rfl
  · obtain ⟨x, lo, hi, rfl, a, k1, k2⟩ := h
    refine ⟨_, (pss_one (ps_if (pt_not (pt_val (pe_call (ok_is_integer T) (hr.mono (by decide)) rfl T.g_is_integer T.F_is_integer.kp T.b_is_integer .nil pass0 (pa_cons (pv 0) (pa_cons (pv 1) (pa_cons (pv 2) pa_nil)))))) (pss_one (ps_raiseF T.x_BadNumber ar_BadNumber rfl hr (takes_of rfl rfl rfl rfl) (pa_cons (pv 0) pa_nil))) pss_nil)), ?_⟩
    refine ⟨_, rfl, _, rfl, _, rfl, _, _, _, rfl, a, _, rfl, ?_⟩
    cases e : intIn x lo hi with
    | true => exact iteF (k1 e)
    | false => exact iteT ⟨_, rfl, _, rfl, trivial, fun d hd => k2 e d hd⟩

/-! ### a call of what an expression gives: one def of a family -/
structure HeldX (P : Program) (w : World) (K : PySem.W.Frag) (mg : Str → Option Value) (base : Heap) (CX : CXT) (k : Nat) (f : Addr) (sp : Sp) : Prop where
  ex : ∃ (k2 : Nat) (fd : FuncData) (ps : List Str), k2 ≤ k ∧ FnOk P w K mg base CX k2 f fd ps sp ∧ PySem.W.keepIn K (.ref f) = true ∧ Binds K fd ps []
def tCallE (te : TE) (fam : Addr → Sp → Prop) (E : XK) (t : TA) : TE := fun σ H Q => te σ H fun x H0 => ∃ f sp, x = .ref f ∧ fam f sp ∧ t σ H0 fun vs H1 => sp vs H1 Q E
theorem pe_callE {X : Cx} {CX : CXT} {k : Nat} {fam : Addr → Sp → Prop} {E : XK} {e0 : PySem.Expr} {te : TE} {e : PySem.Expr} {es : List PySem.Expr} {t : TA} {pos : Pos} (A : ∀ f sp, fam f sp → HeldX X.prog X.w X.K X.mg X.base CX k f sp) (hr : Room k X.A) (h0 : PE X e0 te) (hx : Passes CX X E) (ha : PA X (e :: es) t)
    (hev : eval (.Call e0 (e :: es) [] pos) X.env = (do callWith pos (← eval e0 X.env) [] (backTo pos (starEach (e :: es) X.env)) []) := by rfl)
    (he : starEach (e :: es) X.env = (false, eval e X.env) :: starEach es X.env := by rfl) (hpl : (backTo pos (starEach es X.env)).any (·.1) = false := by rfl) : PE X (.Call e0 (e :: es) [] pos) (tCallE te fam E t) := by
  refine ⟨fun pins s σ H Q I h => ?_⟩
  rw [hev]
  refine wpAny_bind (thn (h0.run pins s σ H _ I h) fun u s1 hh => ?_)
  obtain ⟨x, H1, I1, r1, f, sp, rfl, hf, ht⟩ := hh
  obtain rfl : u = Value.ref f := r1
  obtain ⟨k2, fd, ps, lk, F, hk, hb⟩ := (A f sp hf).ex
  refine PySem.W.callWith_K (h₀ := X.base) I.ok.mod.kin hk (thn (ha.run pos pins s1 σ _ _ I1 ht) fun us s2 ⟨vs, H2, I2, r, q⟩ => ⟨I2.kIn, ?_⟩) he hpl
  exact run_fn F (hr.mono lk) hb .nil hx I2 r (by rw [List.append_nil]; exact q)
/-- the same, where what it lets out may speak of the slots -/
def tCallES (te : TE) (fam : Addr → Sp → Prop) (E : L2.St → XK) (t : TA) : TE := fun σ H Q => te σ H fun x H0 => ∃ f sp, x = .ref f ∧ fam f sp ∧ t σ H0 fun vs H1 => sp vs H1 Q (E σ)
theorem pe_callES {X : Cx} {CX : CXT} {k : Nat} {fam : Addr → Sp → Prop} {E : L2.St → XK} {e0 : PySem.Expr} {te : TE} {e : PySem.Expr} {es : List PySem.Expr} {t : TA} {pos : Pos} (A : ∀ f sp, fam f sp → HeldX X.prog X.w X.K X.mg X.base CX k f sp) (hr : Room k X.A) (h0 : PE X e0 te) (hx : ∀ σ, PassesAt CX X σ (E σ)) (ha : PA X (e :: es) t)
    (hev : eval (.Call e0 (e :: es) [] pos) X.env = (do callWith pos (← eval e0 X.env) [] (backTo pos (starEach (e :: es) X.env)) []) := by rfl)
    (he : starEach (e :: es) X.env = (false, eval e X.env) :: starEach es X.env := by rfl) (hpl : (backTo pos (starEach es X.env)).any (·.1) = false := by rfl) : PE X (.Call e0 (e :: es) [] pos) (tCallES te fam E t) := by
  refine ⟨fun pins s σ H Q I h => ?_⟩
  rw [hev]
  refine wpAny_bind (thn (h0.run pins s σ H _ I h) fun u s1 hh => ?_)
  obtain ⟨x, H1, I1, r1, f, sp, rfl, hf, ht⟩ := hh
  obtain rfl : u = Value.ref f := r1
  obtain ⟨k2, fd, ps, lk, F, hk, hb⟩ := (A f sp hf).ex
  refine PySem.W.callWith_K (h₀ := X.base) I.ok.mod.kin hk (thn (ha.run pos pins s1 σ _ _ I1 ht) fun us s2 ⟨vs, H2, I2, r, q⟩ => ⟨I2.kIn, ?_⟩) he hpl
  exact run_fnS F (hr.mono lk) hb (hx σ) I2 r q

/-! ### enumerate(tuple) -/
end
end Rt
namespace EnumX
open PySem PyProof.Rows
theorem new1 {u : Value} {ob : Obj} {Z : Heap → Prop} (B : Begins u ob Z) : Meets (Builtin.«enumerate.__new__» ⟨[.type "enumerate", u], []⟩) (fun _ R s => Z s.heap ∧
      R (.ok (.ret (.ref (s.heap.push ob).objs.size))) { s with heap := (s.heap.push ob).push ⟨.type "enumerate", none, .fields #[.none, .bool false, .ref s.heap.objs.size, rawInt 0, .none, .none], #[]⟩ }) := by
  refine Meets.of_wp fun P w A R s hyp => ?_
  obtain ⟨z, fin⟩ := hyp
  obtain ⟨hp, g, d, tk, os⟩ := s
  have se := sub_enumerate
  have go : ∀ {A2 : Around} {E2 Q2 : Value → Shared → Prop}, Q2 (.ref hp.objs.size) ⟨hp.push ob, g, d, tk, os⟩ → wpAny (model P w) A2 (pyIter u) Q2 E2 ⟨hp, g, d, tk, os⟩ := fun q => B.iter P w _ _ ⟨hp, g, d, tk, os⟩ _ z q
  wp_walk using go
  refine wpAny_stack_any fun stk => (wpAny_pure ?_)
  split
  · rename_i cc _ _ _ _ _
    cases (cc == Value.type "enumerate") <;> (wp_walk using go; exact ⟨_, rfl, fin⟩)
  · wp_walk using go
    exact ⟨_, rfl, fin⟩
theorem made1 {P : Program} {w : World} {A : Around} {E Q : Value → Shared → Prop} {s : Shared} {u : Value} {ob : Obj} {Z : Heap → Prop} (B : Begins u ob Z) (z : Z s.heap)
    (q : ∀ h2, IsEnum h2 (s.heap.objs.size + 1) s.heap.objs.size 0 .none → h2.get? s.heap.objs.size = some ob → (∀ b o, s.heap.get? b = some o → h2.get? b = some o) → Q (.ref (s.heap.objs.size + 1)) { s with heap := h2 }) :
    wpAny (model P w) A (call (.type "enumerate") [u]) Q E s := by
  refine callType_new F.called_enumerate (by decide) (F.typeCall_enumerate_1 u) (F.newCall_enumerate_1 u) (fun ob => F.args_object_init_2 ob u) F.entry_enumerate_new (new1 B) ⟨z, ?_⟩
  have sz : (s.heap.push ob).objs.size = s.heap.objs.size + 1 := Heap.size_push ..
  have at1 : ((s.heap.push ob).push ⟨.type "enumerate", none, .fields #[.none, .bool false, .ref s.heap.objs.size, rawInt 0, .none, .none], #[]⟩).get? (s.heap.objs.size + 1) = some ⟨.type "enumerate", none, .fields #[.none, .bool false, .ref s.heap.objs.size, rawInt 0, .none, .none], #[]⟩ := by
    rw [← sz]
    exact Heap.get?_push_size _ rfl
  show _ ∧ _
  rw [sz]
  exact ⟨⟨_, at1, rfl⟩, q _ at1 (Heap.get?_push_of_some _ (Heap.get?_push_size _ B.free)) fun b o e => Heap.get?_push_of_some _ (Heap.get?_push_of_some _ e)⟩
/-- at the end nothing is drawn -/
theorem drawn_out {P : Program} {w : World} {A : Around} (hh : A.handled = none) (it t : Addr) (ne : t ≠ it) (its : Array Value) (n : Nat) (hn : its.size ≤ n) : Draws P w A it [it, t] n (fun _ _ => True) (fun j h => j = n ∧ h.IsTupleIter it t n ∧ h.IsTuple t its) where
  live := fun _ _ ⟨_, ⟨o, e, _⟩, _⟩ => ⟨o, e⟩
  frame := fun _ _ _ ⟨z, a, b⟩ k => ⟨z, a.at fun o e => k it List.mem_cons_self o e, b.at fun o e => k t (List.mem_cons_of_mem _ List.mem_cons_self) o e⟩
  item := fun j _ _ _ lt ⟨z, _⟩ _ => absurd z (Nat.ne_of_lt lt)
  done := fun s Q E ⟨_, a, b⟩ q => wpAny_nextOf_tuple_end hh a b (Array.getElem?_eq_none hn) q
end EnumX
namespace L2
open PySem PySem.Spec PyProof.Rows
/-- the tuple at a, each item in a new pair with its place -/
def IteT (K : PySem.W.Frag) (a : Addr) : It where
  go := fun i H => ∃ (ys : List V) (y : V), SqT K H a ys ∧ ys[i]? = some y
  yld := fun i H v H2 => ∃ c y, v = .ref c ∧ H c = none ∧ H2 = upd H c (.tup [.int (i : Nat), y]) ∧ ∀ ys, SqT K H a ys → ys[i]? = some y
  stop := fun i H => ∃ ys : List V, SqT K H a ys ∧ ys.length ≤ i
theorem turn_enumT {P : Program} {w : World} {K : PySem.W.Frag} {elts : List PySem.Expr} {kk : Nat} {tpos : Pos} (a e it : Addr) :
    Turn P w K (.Tuple elts kk tpos) (IteT K a) [e, it] e (fun i h => (∃ old, IsEnum h e it ((i : Nat) : Int) old) ∧ h.IsTupleIter it a i ∧ e ≠ it) where
  mem := List.mem_cons_self
  obj := fun i h st b hb => by
    obtain ⟨⟨v0, en⟩, ⟨o, g1, g2, g3⟩, _⟩ := st
    rcases List.mem_cons.mp hb with z | hb2
    · rw [z]
      exact ⟨_, en, fun v q => nomatch q⟩
    · rw [List.mem_singleton.mp hb2]
      exact ⟨o, g1, fun v q => by rw [g3] at q; cases q⟩
  keep := fun i h h2 st k => by
    obtain ⟨⟨v0, en⟩, ti, ne⟩ := st
    exact ⟨⟨v0, k e List.mem_cons_self _ en⟩, ti.at fun o q => k it (List.mem_cons_of_mem _ List.mem_cons_self) o q, ne⟩
  item := by
    intro X hP hw hK hc i pins s σ H E I hf st hg
    subst hP hw hK
    obtain ⟨⟨v0, en⟩, ti, ne⟩ := st
    obtain ⟨ys, y, sq, hy⟩ := hg
    obtain ⟨its, vals, tp, ln⟩ := I.tuple sq
    obtain ⟨u, hu, ru⟩ := vals.get hy
    have tpl : s.heap.IsTuple a its.toArray := tp
    have le : e < s.heap.objs.size := Heap.lt_size en
    have li : it < s.heap.objs.size := by
      obtain ⟨_, q, _⟩ := ti
      exact Heap.lt_size q
    have nea : e ≠ a := fun z => by
      obtain ⟨o, g1, g2, _⟩ := tpl
      rw [← z, (show s.heap.get? e = some _ from en)] at g1
      rw [← Option.some.inj g1] at g2
      exact absurd (show Value.type "enumerate" = Value.type "tuple" from g2) (by decide)
    have nia : it ≠ a := fun z => by
      obtain ⟨o, g1, g2, _⟩ := tpl
      obtain ⟨o2, f1, f2, _⟩ := ti
      rw [← z, f1] at g1
      rw [← Option.some.inj g1, f2] at g2
      exact absurd g2 (by decide)
    refine wpAny_pyNext_enum_itemD (Draws.tuple (show X.A.in1.handled = none from I.ok.hd hc) it a (Ne.symm nia) its.toArray) en ⟨ti, tpl⟩ (by have := (List.getElem?_eq_some_iff.mp hu).1; simpa using this) ne (by simp [ne, nea]) fun x h2 tk px eo st2 nt sz kp => ?_
    have exu : x = u := by
      have px2 : its.toArray[i]? = some x := px
      rw [List.getElem?_toArray, hu] at px2
      exact (Option.some.inj px2).symm
    subst exu
    refine ⟨_, rfl, wpAny_letOwnedTupleGo_enum (s := { s with heap := h2, toks := tk + 1 }) eo fun h3 en3 sb => ?_⟩
    have nt3 : h3.get? s.heap.objs.size = some { cls := .type "tuple", data := .seq #[.int i tk, x] } := (sb.2 _ (Nat.ne_of_gt le)).trans nt
    have nw : ObjOk X.prog X.w (upd H s.heap.objs.size (.tup [.int (i : Nat), y])) h3 s.heap.objs.size (.tup [.int (i : Nat), y]) := ⟨by show 2 ≤ sizeLine; decide, [.int i tk, x], .cons ⟨_, rfl⟩ (.cons ru .nil), ⟨_, nt3, rfl, _, rfl⟩⟩
    have J : Inv X pins σ (upd H s.heap.objs.size (.tup [.int (i : Nat), y])) { s with heap := h3, toks := tk + 1 } :=
      I.turnedNew (ch := [e, it]) (fun b ob hb q => (sb.2 b (fun z => hb (z ▸ List.mem_cons_self))).trans (kp b ob (fun z => hb (z ▸ List.mem_cons_self)) (fun z => hb (z ▸ List.mem_cons_of_mem _ List.mem_cons_self)) q)) hf (Nat.le_refl _) nw
    refine ⟨.ref s.heap.objs.size, _, J, rfl, ⟨_, y, rfl, I.hok.fresh (Nat.le_refl _), rfl, fun zs hz => by rw [I.tuple_inj hz sq]; exact hy⟩, ⟨⟨x, ?_⟩, st2.1.at fun o q => (sb.2 it (Ne.symm ne)).trans q, ne⟩, fun b hb => ?_⟩
    · rw [show ((i + 1 : Nat) : Int) = (i : Int) + 1 from by omega]
      exact en3
    · have lb : b < s.heap.objs.size := by
        rcases List.mem_cons.mp hb with z | hb2
        · rw [z]
          exact le
        · rw [List.mem_singleton.mp hb2]
          exact li
      rw [upd_ne (Nat.ne_of_lt lb)]
      exact (hf b hb).1
  done := by
    intro X hP hw hK hc i pins s σ H E I hf st hg
    subst hP hw hK
    obtain ⟨⟨v0, en⟩, ti, ne⟩ := st
    obtain ⟨ys, sq, ln⟩ := hg
    obtain ⟨its, vals, tp, _⟩ := I.tuple sq
    obtain ⟨f0, f1, f2, f3, f4, f5⟩ := hf it (List.mem_cons_of_mem _ List.mem_cons_self)
    have tpl : s.heap.IsTuple a its.toArray := tp
    have nia : it ≠ a := fun z => by
      obtain ⟨o, g1, g2, _⟩ := tpl
      obtain ⟨o2, q1, q2, _⟩ := ti
      rw [← z, q1] at g1
      rw [← Option.some.inj g1, q2] at g2
      exact absurd g2 (by decide)
    have hl := vals.length
    refine wpAny_pyNext_enum_endD (EnumX.drawn_out (show X.A.in1.handled = none from I.ok.hd hc) it a (Ne.symm nia) its.toArray i (by simp; omega)) en ⟨rfl, ti, tpl⟩ fun h2 eb => ⟨rfl, I.turned (t' := s.toks) (fun b o hb q => eb b o hb q) f0 f1 f3 f4 f5⟩
  self := fun A i s Q E st h => let ⟨⟨_, en⟩, _⟩ := st; wpAny_pyIter_enum en h
def iEnumT (K : PySem.W.Frag) (ta : TA) : TI := fun σ H R => ta σ H fun vs H1 => ∃ a ys, vs = [.ref a] ∧ SqT K H1 a ys ∧ R (IteT K a) H1
theorem pi_enumT {X : Cx} {e : PySem.Expr} {ta : TA} {p pos tpos : Pos} {elts : List PySem.Expr} {kk : Nat} (hg : Gl X "enumerate") (hm : X.mg "enumerate" = none) (ha : PA X [e] ta) (hs : starEach [e] X.env = [(false, eval e X.env)] := by rfl) :
    PI X (.Tuple elts kk tpos) (.Call (.Name "enumerate" p) [e] [] pos) (iEnumT X.K ta) := by
  refine ⟨fun pins s σ H R I wish => ?_⟩
  refine Call_ (ld_blt I hg hm boot_enumerate (PyProof.Rows.callWith_type1 (thn (ha.run pos pins s σ H _ I wish) fun us s1 hh => ?_) hs rfl))
  obtain ⟨vs, H1, I1, r1, a, ys, rfl, sq, q⟩ := hh
  cases r1 with
  | cons r rr =>
    cases rr
    cases r
    obtain ⟨its, vals, tp, ln⟩ := I1.tuple sq
    have tpl : s1.heap.IsTuple a its.toArray := tp
    refine EnumX.made1 (begins_tuple a its.toArray) tpl fun h2 en nw kp => wpAny_pyIter_enum en ?_
    have J : Inv X pins σ H1 { s1 with heap := h2 } := I1.kept (t' := s1.toks) kp
    refine ⟨s1.heap.objs.size + 1, [s1.heap.objs.size + 1, s1.heap.objs.size], _, _, H1, rfl, J, turn_enumT a (s1.heap.objs.size + 1) s1.heap.objs.size, ⟨⟨.none, en⟩, ⟨_, nw, rfl, rfl⟩, Nat.succ_ne_self _⟩, fun b hb => ?_, q⟩
    have le : s1.heap.objs.size ≤ b := by
      rcases List.mem_cons.mp hb with z | hb2
      · rw [z]
        exact Nat.le_succ _
      · rw [List.mem_singleton.mp hb2]
        exact Nat.le_refl _
    exact I1.fpOk le (I1.hok.fresh le)
theorem walk_enumT {K : PySem.W.Frag} {a : Addr} {ys : List V} : Walk (IteT K a) ys.length (fun H => SqT K H a ys) (YPair (fun i => some (.int (i : Nat))) (fun i => ys[i]?)) := by
  refine ⟨fun i _ lt q => ⟨ys, ys[i], q, by simp [lt]⟩, fun _ q => ⟨ys, q, Nat.le_refl _⟩, fun i H v H2 _ q w => ?_⟩
  obtain ⟨c, y, e1, e2, e3, e4⟩ := w
  exact ⟨c, .int (i : Nat), y, e1, e2, e3, rfl, e4 ys q⟩
end L2
namespace Rt
open PySem L2 PySem.Spec PyProof.Rows
section
variable {P : Program} {w : World} {K : PySem.W.Frag} {mg : Str → Option Value} {base : Heap}

/-! ### a program's own == ; errors that leave a call within a try -/
def NoSub (K : PySem.W.Frag) (C : Addr) (H : Hp) (y : V) : Prop := (∃ b dy gs, y = .ref b ∧ H b = some (.ins C dy gs)) ∨ (∃ b xs, y = .ref b ∧ H b = some (.tup xs) ∧ PySem.W.subIn K (.type "tuple") (.ref C) = some false)
def rOwn (K : PySem.W.Frag) (C : Addr) (sp : Sp) (E : XK) : R2 := fun x y H Q => ∃ a dx fs, x = .ref a ∧ H a = some (.ins C dx fs) ∧ NoSub K C H y ∧ sp [x, y] H (fun v H' => (∃ k, v = .bl k) ∧ Q v H') E
section
variable {X : Cx}
theorem op_own {n : Nat} {CX : CXT} {C f : Addr} {fd : FuncData} {ps : List Str} {sp : Sp} {E : XK} (G : FnOk X.prog X.w X.K X.mg X.base CX n f fd ps sp) (hr : Room n X.A)
    (hs : PySem.W.findIn X.K (.ref C) "__eq__" = some (some (.ref f))) (hf : PySem.W.isFn X.K (.ref f) = true) (hb : Binds X.K fd ps []) (hx : Passes CX X E) : OpR X (compareOp .Eq) (rOwn X.K C sp E) := by
  intro pins s σ H x y v u Q I rx ry hq
  obtain ⟨a, dx, fs, rfl, ha, hy, hsp⟩ := hq
  obtain rfl : v = Value.ref a := rx
  obtain ⟨mA, O, _⟩ := ins_get I.hok ha
  obtain ⟨od, J, _⟩ := O.look
  obtain ⟨m, hF⟩ := I.fr
  have hl : ([V.ref a, y] : List V).length = ps.length := G.len _ _ _ _ hsp
  have back : wpAny (model X.prog X.w) X.A (call (.ref f) [.ref a, u]) (PySem.W.CmpBack (EP X pins σ Q)) X.xe s := by
    have rv : Vals [V.ref a, y] [Value.ref a, u] := .cons rfl (.cons ry .nil)
    have bd := hb s [.ref a, u] I.kIn (by rw [List.append_nil]; exact hl)
    rw [List.append_nil] at bd
    refine wpAny_call (codeAny_mono (G.run X.A X.stack s H ⟨[.ref a, u], []⟩ [.ref a, u] _ _ E hr I.env0 bd rv hsp) fun r s' hw => ?_)
    match r, hw with
    | .error e, hw => exact hx pins σ H s e s' I hw
    | .ok (.ret w'), hw =>
      obtain ⟨z, H', I', rz, ⟨k, ek⟩, qz⟩ := I.after hw
      subst ek
      cases rz
      exact ⟨.bl k, H', I', rfl, qz⟩
    | .ok .next, hw => exact hw.elim
    | .ok .brk, hw => exact hw.elim
    | .ok .cont, hw => exact hw.elim
  show wpAny (model X.prog X.w) X.A (richCompare .Eq (.ref a) u) _ _ s
  rcases hy with ⟨b, dy, gs, rfl, hb'⟩ | ⟨b, xs, rfl, hb', hsub⟩
  · obtain rfl : u = Value.ref b := ry
    obtain ⟨mB, O', _⟩ := ins_get I.hok hb'
    obtain ⟨od', J', _⟩ := O'.look
    exact PySem.W.cmp_K (op := .Eq) (tb := .ref C) hr.units0 hF I.ok.mod.kin J J'.type (by simp [PySem.W.notFirst]) hs hf back
  · obtain rfl : u = Value.ref b := ry
    obtain ⟨_, its, _, o, ho, hc, _⟩ := (show ObjOk X.prog X.w H s.heap b (.tup xs) from I.hok b _ hb')
    exact PySem.W.cmp_K (op := .Eq) (tb := .type "tuple") hr.units0 hF I.ok.mod.kin J (fun A' Q' E' s2 k2 q2 => wpAny_typeOf_ref (k2 _ _ ho) (by rw [hc]; exact q2)) (by simp [PySem.W.notFirst, hsub]) hs hf back
/-- what a call lets out is taken, whatever the slots hold -/
theorem passN {W : WX} (tk : Takes X W) : Passes (L2.CX X.prog X.w) X (fun cls d H => ∀ σ : L2.St, σ.length = X.N.length → W cls d σ H) :=
  fun _ σ _ _ e s' I c => tk e s' (XE.of_call I (fun _ _ _ h => h σ I.len) c)
end

/-! ### try with clauses, each with a name or without one -/
structure Cl where
  cls : Value
  slot : Option Nat
  ts : Addr → Value → Option Addr → TS
/-- behind a suite its name is forgotten -/
def offName (D : Ends) (i : Nat) : Ends := ⟨fun σ H => D.nx (σ.set i none) H, D.rt, fun σ H => D.bk (σ.set i none) H, fun σ H => D.ct (σ.set i none) H⟩
def Cl.wish (q : Cl) (a : Addr) (k : Value) (d : Option Addr) (D : Ends) (σ : L2.St) (H : Hp) : Prop := match q.slot with
  | none => q.ts a k d D σ H
  | some i => q.ts a k d (offName D i) (σ.set i (some (.ref a))) H
def wX (K : PySem.W.Frag) (Wo : WX) (D : Ends) : List Cl → WX
  | [] => Wo
  | q :: r => fun k d σ H => ∃ b, PySem.W.exmOne K k q.cls = some b ∧ (b = true → ∀ a, H a = none → q.wish a k d D σ H) ∧ (b = false → wX K Wo D r k d σ H)
inductive HdsX (X : Cx) : List ExceptHandler → List Cl → Prop
  | nil : HdsX X [] []
  | un {x : Str} {c : Value} {ts : Addr → Value → Option Addr → TS} {s0 : Stmt} {su : List Stmt} {p1 p2 : Pos} {hs : List ExceptHandler} {l : List Cl} (nm : Names X x c)
      (ok : ∀ (a : Addr) (oe : Obj) (k : Value) (d : Option Addr) (pn : List (Addr × Obj)), Zc k d oe → (∃ vs, oe.data = .fields vs) → PSs (X.suite a ((a, oe) :: pn)) (s0 :: su) (ts a k d)) (r : HdsX X hs l) :
      HdsX X (.ExceptHandler (some (.Name x p1)) none (s0 :: su) p2 :: hs) (⟨c, none, ts⟩ :: l)
  | as {x n : Str} {i : Nat} {c : Value} {ts : Addr → Value → Option Addr → TS} {s0 : Stmt} {su : List Stmt} {p1 p2 : Pos} {hs : List ExceptHandler} {l : List Cl} (hi : X.N[i]? = some n) (hl : X.env.kindOf n = some .local) (nm : Names X x c)
      (ok : ∀ (a : Addr) (oe : Obj) (k : Value) (d : Option Addr) (pn : List (Addr × Obj)), Zc k d oe → (∃ vs, oe.data = .fields vs) → PSs (X.suite a ((a, oe) :: pn)) (s0 :: su) (ts a k d)) (r : HdsX X hs l) :
      HdsX X (.ExceptHandler (some (.Name x p1)) (some n) (s0 :: su) p2 :: hs) (⟨c, some i, ts⟩ :: l)
section
variable {X : Cx} {tb : WX → TS} {Wo : WX}
/-- a flight that was landed at the try: what every clause needs of it -/
structure Land (X : Cx) (pins : List (Addr × Obj)) (σ : L2.St) (H : Hp) (a : Addr) (B : Heap) (sI : Shared) (k : Value) (d : Option Addr) (s : Shared) (h : Heap) : Prop where
  ok : X.Ok
  inv : Inv X pins σ H sI
  nb : ∀ b o, sI.heap.get? b = some o → b ∉ frs X.stack → B.get? b = some o
  up : sI.heap.UpToSlots h
  fly : HandSPX.FlyingZ B (X.env :: X.outer) a (Zc k d) h
  na : H a = none
  nL : a ≠ X.env.locals
  nF : a ∉ X.fs
  os : s.os = sI.os
  ag : AllBare s.gens
theorem clauses (hst : X.stack = X.env :: X.outer) (hfr : X.env.frame = some X.env.locals) (hN : X.N.Nodup) (tk : Takes X Wo) {pins : List (Addr × Obj)} {σ : L2.St} {H : Hp} {a : Addr} {B : Heap} {sI : Shared} {k : Value} {d : Option Addr} {s : Shared} {h : Heap} {D : Ends}
    (L : Land X pins σ H a B sI k d s h) : ∀ {hds : List ExceptHandler} {l : List Cl}, HdsX X hds l → wX X.K Wo D l k d σ H → wpAny (model X.prog X.w) X.A (handleBy (.ref a) X.env hds) (SP X pins D) X.xe { s with heap := h } := by
  have Jh : Inv X pins σ H { s with heap := h } := L.inv.landed L.nb L.fly.1 L.up L.os L.ag
  -- a clause's test
  have tst : ∀ {x : Str} {c : Value} {p1 : Pos} {b : Bool} {Q : Bool → Shared → Prop} {E E2 : Value → Shared → Prop}, Names X x c → PySem.W.exmOne X.K k c = some b → Q b { s with heap := h } →
      wpAny (model X.prog X.w) (X.A.mark (some (.ref a))) (eval (.Name x p1) X.env) (fun v s1 => wpAny (model X.prog X.w) (X.A.mark (some (.ref a))) (excMatches (.ref a) v) Q E s1) E2 { s with heap := h } := by
    intro x c p1 b Q E E2 nm e q
    obtain ⟨oe, fv, g1, g2, g3⟩ := L.fly.there
    have S := Jh.suite g1 g3 L.na L.nL L.nF
    have look : PySem.W.Looks (model X.prog X.w) h (typeOf (.ref a)) k := fun A' Q' E' s2 k2 q2 => wpAny_typeOf_ref (k2 _ _ g1) (by rw [g2.1]; exact q2)
    have m := PySem.W.exm_one (M := model X.prog X.w) Jh.kIn look e
    obtain ⟨n1, n2, n3 | ⟨n3, n4, n5⟩⟩ := nm
    · exact ld_glob (X := X.suite a ((a, oe) :: (X.pn ++ pins))) S n1 n3 (m.here q) n2
    · exact ld_blt (X := X.suite a ((a, oe) :: (X.pn ++ pins))) S n1 n3 n4 (m.here q) n5 n2
  intro hds l hk
  induction hk with
  | nil =>
    intro w
    refine wpAny_handleBy_nil ?_
    obtain ⟨_, _, _, oe, fv, t0, _, _, g1, g2, g3, g4, _⟩ := id L.fly
    have out : wpAny (model X.prog X.w) X.A (setFlight (.ref a) X.env.frame) (fun _ s4 => wpAny (model X.prog X.w) X.A (throw (.ref a) : Sem Flow) (SP X pins D) X.xe s4) X.xe { s with heap := h } := by
      rw [hfr]
      exact HandSPX.setFlight_upZ L.fly fun h4 hh4 up4 => wpAny_throw (tk _ _ ⟨a, B, sI, pins, σ, H, k, d, rfl, L.inv, L.nb, L.up.trans up4, .inr (.inr (by rw [hst]; exact hh4)), L.na, L.os, L.ag, w⟩)
    have neN : ¬ ((Value.ref t0 == Value.none) = true) := by simp
    unfold PySem.passOn
    refine wpAny_bind (wpAny_field g1 g3 g4 ?_)
    rw [if_neg neN]
    first
      | exact wpAny_bind (wpAny_pure (wpAny_bind out))
      | exact wpAny_bind out
  | un nm ok r ih =>
    intro w
    obtain ⟨b, e, yes, no⟩ := w
    refine wpAny_handleBy_cons (codeAny_handlers_test (tst nm e ?_)) (by intro q; cases q)
    cases b with
    | false => exact ih (no rfl)
    | true =>
      refine codeAny_handlers_suite (HandSPX.lands_againZ L.fly fun h4 fl4 up4 => ?_)
      obtain ⟨oe, fv, g1, g2, g3⟩ := fl4.there
      have J4 : Inv X pins σ H { s with heap := h4 } := L.inv.landed L.nb fl4.1 (L.up.trans up4) L.os L.ag
      have S := J4.suite g1 g3 L.na L.nL L.nF
      refine wpAny_mono ((ok a oe k d (X.pn ++ pins) g2 ⟨_, g3⟩).run [] _ _ H _ S (yes rfl a L.na)) (fun f s6 z => ?_) (fun _ _ z => z.elim)
      match f, z with
      | .next, ⟨_, _, z, q⟩ => exact ⟨_, _, z.unsuite L.ok, q⟩
      | .brk, ⟨_, _, z, q⟩ => exact ⟨_, _, z.unsuite L.ok, q⟩
      | .cont, ⟨_, _, z, q⟩ => exact ⟨_, _, z.unsuite L.ok, q⟩
      | .ret _, ⟨_, _, _, z, rv, q⟩ => exact ⟨_, _, _, z.unsuite L.ok, rv, q⟩
  | @as x n i c ts s0 su p1 p2 hs l hi hl nm ok r ih =>
    intro w
    obtain ⟨b, e, yes, no⟩ := w
    refine wpAny_handleBy_cons (codeAny_handlers_test (tst nm e ?_)) (by intro q; cases q)
    cases b with
    | false => exact ih (no rfl)
    | true =>
      refine codeAny_handlers_suite_as (HandSPX.lands_againZ L.fly fun h4 fl4 up4 => ?_)
      obtain ⟨oe, fv, g1, g2, g3⟩ := fl4.there
      have J4 : Inv X pins σ H { s with heap := h4 } := L.inv.landed L.nb fl4.1 (L.up.trans up4) L.os L.ag
      have S := J4.suite g1 g3 L.na L.nL L.nF
      refine store_ok (X := X.suite a ((a, oe) :: (X.pn ++ pins))) (v := .ref a) S hN hi (.inl hl) rfl (fun s5 S5 => ?_) (.inr hl)
      refine wpAny_mono ((ok a oe k d (X.pn ++ pins) g2 ⟨_, g3⟩).run [] s5 _ H _ S5 (yes rfl a L.na)) (fun f s6 z => ?_) (fun _ _ z => z.elim)
      have off : ∀ {σ6 : L2.St} {H6 : Hp} {Q : Shared → Prop}, Inv (X.suite a ((a, oe) :: (X.pn ++ pins))) [] σ6 H6 s6 → (∀ s7, Inv X pins (σ6.set i none) H6 s7 → Q s7) →
          wpAny (model X.prog X.w) X.A (do bindName X.env n .none; unbindBehindTheSuite X.env n p2) (fun _ s7 => Q s7) X.xe s6 := fun z hq => gone_ok (z.unsuite L.ok) hN hi hl hq
      match f, z with
      | .next, ⟨_, _, z, q⟩ => exact off z fun s7 J => ⟨_, _, J, q⟩
      | .brk, ⟨_, _, z, q⟩ => exact off z fun s7 J => ⟨_, _, J, q⟩
      | .cont, ⟨_, _, z, q⟩ => exact off z fun s7 J => ⟨_, _, J, q⟩
      | .ret _, ⟨_, _, _, z, rv, q⟩ => exact off z fun s7 J => ⟨_, _, _, J, rv, q⟩
theorem ps_try_x {body : List Stmt} {h0 : ExceptHandler} {hds : List ExceptHandler} {l : List Cl} {pos : Pos} (hst : X.stack = X.env :: X.outer) (hfr : X.env.frame = some X.env.locals) (hN : X.N.Nodup) (tk : Takes X Wo)
    (hb : ∀ (W : WX) (pn : List (Addr × Obj)) (xe : Value → Shared → Prop), Takes (X.tr pn xe) W → PassesOwn (model X.prog X.w) X.A X.env xe → PSs (X.tr pn xe) body (tb W)) (hh : HdsX X (h0 :: hds) l) :
    PS X (.Try body (h0 :: hds) [] [] pos) (fun D σ H => tb (wX X.K Wo D l) D σ H) := by
  refine ⟨fun pins s σ H D I w => wpAny_Try_except ?_⟩
  have ok := I.ok
  refine wpAny_mono ((hb (wX X.K Wo D l) (X.pn ++ pins) (fun e s1 => wpAny (model X.prog X.w) X.A (noteFrame e X.env) (fun _ s2 => wpAny (model X.prog X.w) X.A (setFlight e none) (fun _ s3 =>
    wpAny (model X.prog X.w) X.A (handleBy e X.env (h0 :: hds)) (SP X pins D) X.xe s3) X.xe s2) X.xe s1) (fun u s' q => ?_) PassesOwn.looking).run [] s σ H D (I.toTry _) w) (fun f s1 z => ?_) (fun _ _ z => z)
  · obtain ⟨a, B, sI, pi, σ', H', k, d, rfl, J', nb, up, sky, na, os, ag, w'⟩ := q
    have J := J'.ofTry (X := X) ok
    rw [show (X.tr (X.pn ++ pins) _).stack = X.stack from rfl, hst] at sky
    show wpAny (model X.prog X.w) X.A (noteFrame (.ref a) X.env) _ _ _
    refine Sky.land Zc.steady (by rw [ok.frames, hst]) hfr sky fun h3 fl3 up3 => ?_
    obtain ⟨oe, fv, g1, g2, g3⟩ := fl3.there
    have far : a ∉ frs (X.env :: X.outer) := fun hm => by
      obtain ⟨_, o', e', nf⟩ := fl3.2.2.1.mem hm
      exact nf _ ((Option.some.inj (g1.symm.trans e')) ▸ g3)
    refine clauses hst hfr hN tk ⟨ok, J, nb, up.trans up3, fl3, na, fun z => far ?_, fun hm => far ?_, os, ag⟩ hh w'
    · exact List.mem_filterMap.mpr ⟨X.env, List.mem_cons_self, by rw [hfr, z]⟩
    · obtain ⟨e2, he2, q2⟩ := List.mem_filterMap.mp hm
      exact List.mem_filterMap.mpr ⟨e2, List.mem_cons_of_mem _ he2, q2⟩
  · match f, z with
    | .next, ⟨_, _, z, q⟩ => exact wpAny_execs_nil ⟨_, _, z.ofTry ok, q⟩
    | .brk, ⟨_, _, z, q⟩ => exact ⟨_, _, z.ofTry ok, q⟩
    | .cont, ⟨_, _, z, q⟩ => exact ⟨_, _, z.ofTry ok, q⟩
    | .ret _, ⟨_, _, _, z, rv, q⟩ => exact ⟨_, _, _, z.ofTry ok, rv, q⟩
end

/-! ### what stands where a value points -/
theorem AnyV.at {T : Addr → Prop} {H H1 : Hp} {c : Addr} {o : HO} (a : AnyV T H (.ref c)) (S : Same H H1) (e : H1 c = some o) : H c = some o := by
  cases a with
  | lst e2 => rw [S _ _ e2] at e; rw [← e]; exact e2
  | tup e2 => rw [S _ _ e2] at e; rw [← e]; exact e2
  | dct e2 => rw [S _ _ e2] at e; rw [← e]; exact e2
  | ins t e2 => rw [S _ _ e2] at e; rw [← e]; exact e2
/-- the things of the tuple x -/
def tupOf (H : Hp) (x : V) : Option (List V) := match x with
  | .ref c => match H c with
    | some (.tup ys) => some ys
    | _ => none
  | _ => none
theorem tupOf_ref {H : Hp} {c : Addr} {ys : List V} (h : H c = some (.tup ys)) : tupOf H (.ref c) = some ys := by
  show (match H c with | some (.tup ys) => some ys | _ => none) = _
  rw [h]
theorem tupOf_some {H : Hp} {x : V} {ys : List V} (h : tupOf H x = some ys) : ∃ c, x = .ref c ∧ H c = some (.tup ys) := by
  cases x with
  | ref c =>
    refine ⟨c, rfl, ?_⟩
    have h2 : (match H c with | some (.tup ys) => some ys | _ => none) = some ys := h
    split at h2
    · rename_i zs e
      cases h2
      exact e
    · cases h2
  | _ => cases h
theorem tupOf_same {T : Addr → Prop} {H H2 : Hp} {x : V} (a : AnyV T H x) (S : Same H H2) : tupOf H2 x = tupOf H x := by
  cases e : tupOf H x with
  | some ys =>
    obtain ⟨c, rfl, h⟩ := tupOf_some e
    exact tupOf_ref (S _ _ h)
  | none =>
    cases e2 : tupOf H2 x with
    | none => rfl
    | some ys =>
      obtain ⟨c, rfl, h⟩ := tupOf_some e2
      rw [tupOf_ref (a.at S h)] at e
      cases e
/-- its things are any values -/
def ItemsAny (T : Addr → Prop) (H : Hp) (x : V) : Prop := ∀ ys, tupOf H x = some ys → ∀ y ∈ ys, AnyV T H y
theorem ItemsAny.same {T : Addr → Prop} {H H2 : Hp} {x : V} (h : ItemsAny T H x) (a : AnyV T H x) (S : Same H H2) : ItemsAny T H2 x := fun ys e y hy => by
  rw [tupOf_same a S] at e
  exact (h ys e y hy).mono S
theorem ItemsAny.ints {T : Addr → Prop} {H : Hp} {c : Addr} {ns : List Int} (h : H c = some (.tup (ns.map V.int))) : ItemsAny T H (.ref c) := fun ys e y hy => by
  rw [tupOf_ref h] at e
  cases e
  obtain ⟨z, _, rfl⟩ := List.mem_map.mp hy
  exact .int z
theorem ItemsAny.non {T : Addr → Prop} {H : Hp} {x : V} (h : tupOf H x = none) : ItemsAny T H x := fun ys e => by
  rw [h] at e
  cases e
/-- the place of the first thing that is no integer from a to b -/
def firstW (a b : Int) : List V → Option Nat
  | [] => none
  | y :: ys => if intIn y a b = true then (firstW a b ys).map (· + 1) else some 0
theorem firstW_none {a b : Int} : ∀ {ys : List V}, (∀ y ∈ ys, intIn y a b = true) → firstW a b ys = none
  | [], _ => rfl
  | y :: ys, h => by
    unfold firstW
    rw [if_pos (h y List.mem_cons_self), firstW_none fun z hz => h z (List.mem_cons_of_mem _ hz)]
    rfl
theorem firstW_all {a b : Int} : ∀ {ys : List V}, firstW a b ys = none → ∀ y ∈ ys, intIn y a b = true
  | [], _, _, hy => by cases hy
  | z :: ys, h, y, hy => by
    unfold firstW at h
    by_cases e : intIn z a b = true
    · rw [if_pos e] at h
      rcases List.mem_cons.mp hy with rfl | hy
      · exact e
      · exact firstW_all (Option.map_eq_none_iff.mp h) y hy
    · rw [if_neg e] at h
      cases h
theorem firstW_at {a b : Int} : ∀ {ys : List V} {i : Nat} {y : V}, (∀ (j : Nat) (z : V), j < i → ys[j]? = some z → intIn z a b = true) → ys[i]? = some y → intIn y a b = false → firstW a b ys = some i
  | [], i, y, _, h, _ => by cases h
  | z :: ys, 0, y, _, h, e => by
    cases h
    unfold firstW
    rw [if_neg (by rw [e]; exact Bool.false_ne_true)]
  | z :: ys, i + 1, y, h0, h, e => by
    unfold firstW
    rw [if_pos (h0 0 z (Nat.succ_pos _) rfl), firstW_at (i := i) (y := y) (fun j x hj hx => h0 (j + 1) x (Nat.succ_lt_succ hj) hx) h e]
    rfl
theorem firstW_lt {a b : Int} : ∀ {ys : List V} {i : Nat}, firstW a b ys = some i → i < ys.length
  | [], _, h => by cases h
  | y :: ys, i, h => by
    unfold firstW at h
    by_cases e : intIn y a b = true
    · rw [if_pos e] at h
      obtain ⟨j, hj, rfl⟩ := Option.map_eq_some_iff.mp h
      exact Nat.succ_lt_succ (firstW_lt hj)
    · rw [if_neg e] at h
      cases h
      exact Nat.succ_pos _
theorem firstW_some {a b : Int} : ∀ {ys : List V} {i : Nat}, firstW a b ys = some i → (∀ (j : Nat) (z : V), j < i → ys[j]? = some z → intIn z a b = true) ∧ ∃ y, ys[i]? = some y ∧ intIn y a b = false
  | [], _, h => by cases h
  | y :: ys, i, h => by
    unfold firstW at h
    by_cases e : intIn y a b = true
    · rw [if_pos e] at h
      obtain ⟨j, hj, rfl⟩ := Option.map_eq_some_iff.mp h
      obtain ⟨h1, z, h2, h3⟩ := firstW_some hj
      refine ⟨fun m v hm hv => ?_, z, h2, h3⟩
      cases m with
      | zero =>
        cases hv
        exact e
      | succ m => exact h1 m v (by omega) hv
    · rw [if_neg e] at h
      cases h
      exact ⟨fun m v hm => absurd hm (Nat.not_lt_zero _), y, rfl, by simpa using e⟩
/-- what is wrong of a tuple of lo to hi integers from a to b: nothing, None, or the first wrong place -/
def verdict (lo hi : Nat) (a b : Int) (o : Option (List V)) : Option V := match o with
  | none => some .non
  | some ys => if lo ≤ ys.length ∧ ys.length ≤ hi then (firstW a b ys).map fun i => .int (i : Nat) else some .non
theorem verdict_some (lo hi : Nat) (a b : Int) (ys : List V) : verdict lo hi a b (some ys) = if lo ≤ ys.length ∧ ys.length ≤ hi then (firstW a b ys).map fun i => .int (i : Nat) else some .non := rfl
theorem verdict_good {lo hi : Nat} {a b : Int} {ys : List V} (l1 : lo ≤ ys.length) (l2 : ys.length ≤ hi) (h : ∀ y ∈ ys, intIn y a b = true) : verdict lo hi a b (some ys) = none := by
  rw [verdict_some, if_pos ⟨l1, l2⟩, firstW_none h]
  rfl
theorem verdict_none {lo hi : Nat} {a b : Int} {o : Option (List V)} (h : verdict lo hi a b o = none) : ∃ ys, o = some ys ∧ lo ≤ ys.length ∧ ys.length ≤ hi ∧ ∀ y ∈ ys, intIn y a b = true := by
  cases o with
  | none => cases h
  | some ys =>
    rw [verdict_some] at h
    by_cases l : lo ≤ ys.length ∧ ys.length ≤ hi
    · rw [if_pos l] at h
      exact ⟨ys, rfl, l.1, l.2, firstW_all (Option.map_eq_none_iff.mp h)⟩
    · rw [if_neg l] at h
      cases h

/-! ### for over a list or a tuple -/
end
end Rt
namespace L2
open PySem PySem.Spec PyProof.Rows
def iSeqA (K : PySem.W.Frag) (tl : TE) : TI := fun σ H R => iList K tl σ H R ∨ iTup K tl σ H R
theorem pi_seqA {X : Cx} {tg l : PySem.Expr} {tl : TE} (hl : PE X l tl) : PI X tg l (iSeqA X.K tl) :=
  ⟨fun pins s σ H R I h => h.elim ((pi_list hl).run pins s σ H R I) ((pi_tup hl).run pins s σ H R I)⟩
def iEnumA (K : PySem.W.Frag) (ta : TA) : TI := fun σ H R => iEnum K ta σ H R ∨ iEnumT K ta σ H R
theorem pi_enumA {X : Cx} {e : PySem.Expr} {ta : TA} {p pos tpos : Pos} {elts : List PySem.Expr} {kk : Nat} (hg : Gl X "enumerate") (hm : X.mg "enumerate" = none) (ha : PA X [e] ta) (hs : starEach [e] X.env = [(false, eval e X.env)] := by rfl) :
    PI X (.Tuple elts kk tpos) (.Call (.Name "enumerate" p) [e] [] pos) (iEnumA X.K ta) :=
  ⟨fun pins s σ H R I h => h.elim ((pi_enum hg hm ha hs).run pins s σ H R I) ((pi_enumT hg hm ha hs).run pins s σ H R I)⟩
/-- a list or a tuple stands at c -/
def SqA (H : Hp) (c : Addr) (ys : List V) : Prop := H c = some (.lst ys) ∨ H c = some (.tup ys)
theorem SqA.same {H H2 : Hp} {c : Addr} {ys : List V} (h : SqA H c ys) (S : Same H H2) : SqA H2 c ys := h.imp (S _ _) (S _ _)
theorem SqA.len {K : PySem.W.Frag} {H : Hp} {c : Addr} {ys : List V} (h : SqA H c ys) : SqL K H c ys ∨ SqT K H c ys := h.imp SqL.of SqT.of
theorem seqA_of {K : PySem.W.Frag} {i : Nat} {σ : L2.St} {H : Hp} {R : It → Hp → Prop} {c : Addr} {ys : List V} (hv : σ[i]? = some (some (.ref c))) (hc : SqA H c ys)
    (k : ∀ (J : It) (G : Hp → Prop), Walk J ys.length G (YAt ys) → (∀ H2, Same H H2 → G H2) → R J H) : iSeqA K (tVar i) σ H R := by
  rcases hc with hc | hc
  · exact .inl ⟨_, hv, c, rfl, ⟨_, SqL.of hc⟩, k _ _ walk_list fun H2 S => SqL.of (S _ _ hc)⟩
  · exact .inr ⟨_, hv, c, rfl, ⟨_, SqT.of hc⟩, k _ _ walk_tup fun H2 S => SqT.of (S _ _ hc)⟩
theorem enumA_of {K : PySem.W.Frag} {i : Nat} {σ : L2.St} {H : Hp} {R : It → Hp → Prop} {c : Addr} {ys : List V} (hv : σ[i]? = some (some (.ref c))) (hc : SqA H c ys)
    (k : ∀ (J : It) (G : Hp → Prop), Walk J ys.length G (YPair (fun i => some (.int (i : Nat))) (fun i => ys[i]?)) → (∀ H2, Same H H2 → G H2) → R J H) : iEnumA K (tCons (tVar i) tNil) σ H R := by
  rcases hc with hc | hc
  · exact .inl ⟨_, hv, c, ys, rfl, SqL.of hc, k _ _ walk_enum fun H2 S => SqL.of (S _ _ hc)⟩
  · exact .inr ⟨_, hv, c, ys, rfl, SqT.of hc, k _ _ walk_enumT fun H2 S => SqT.of (S _ _ hc)⟩
end L2
namespace Rt
open PySem L2 PySem.Spec PyProof.Rows
section
variable {P : Program} {w : World} {K : PySem.W.Frag} {mg : Str → Option Value} {base : Heap}

/-! ### tuples of so many things; the first wrong one -/
def isTup (lo hi : Int) (o : Option (List V)) : Bool := match o with
  | none => false
  | some ys => decide (lo ≤ (ys.length : Int)) && decide ((ys.length : Int) ≤ hi)
theorem isi_tup (T : Tx P K mg) {H : Hp} {x : V} (a : AnyV (OwnT T) H x) : ∃ t, TyX K H x t ∧ ∃ b, PySem.W.kitOne K t (.type "tuple") = some b ∧ (b = false → tupOf H x = none) ∧ (b = true → ∃ c ys, x = .ref c ∧ H c = some (.tup ys)) := by
  have no : ∀ {c : Addr} {o : HO}, H c = some o → (∀ ys, o ≠ .tup ys) → tupOf H (.ref c) = none := fun {c o} e h => by
    cases q : tupOf H (.ref c) with
    | none => rfl
    | some ys =>
      obtain ⟨c', e1, e2⟩ := tupOf_some q
      cases e1
      rw [e] at e2
      exact absurd (Option.some.inj e2) (h ys)
  cases a with
  | non => exact ⟨_, .base .non, false, kit_ty (by decide +kernel), fun _ => rfl, fun z => nomatch z⟩
  | bl b => exact ⟨_, .base (.bl b), false, kit_ty (by decide +kernel), fun _ => rfl, fun z => nomatch z⟩
  | int i => exact ⟨.type "int", .base (.int i), false, kit_ty (by decide +kernel), fun _ => rfl, fun z => nomatch z⟩
  | str x => exact ⟨_, .base (.str x), false, kit_ty (by decide +kernel), fun _ => rfl, fun z => nomatch z⟩
  | lst e => exact ⟨_, .base (.lst e), false, kit_ty (by decide +kernel), fun _ => no e (fun _ z => nomatch z), fun z => nomatch z⟩
  | tup e => exact ⟨_, .base (.tup e), true, kit_ty (by decide +kernel), fun z => (nomatch z), fun _ => ⟨_, _, rfl, e⟩⟩
  | dct e => exact ⟨_, .base (.dK e), false, kit_ty (by decide +kernel), fun _ => no e (fun _ z => nomatch z), fun z => nomatch z⟩
  | ins t e => exact ⟨_, .base (t.ty e), false, t.ntuple, fun _ => no e (fun _ z => nomatch z), fun z => nomatch z⟩

def spIsTup (T : Tx P K mg) : Sp := fun vs H Q _ => ∃ (x : V) (lo hi : Int), vs = [x, .int lo, .int hi] ∧ AnyV (OwnT T) H x ∧ Q (.bl (isTup lo hi (tupOf H x))) H
theorem ok_is_tuple (T : Tx P K mg) : FnOk P w K mg base CX0 lv_is_tuple T.a_is_tuple T.d_is_tuple ["told", "fewest", "most"] (spIsTup T) := by
  refine T.F_is_tuple.ok sc_is_tuple (fun vs H Q E h => ?_) (fun cdv A outer s H vs Q E hr h => ?_)
  · obtain ⟨x, lo, hi, rfl, _⟩ := h
    rfl
  · obtain ⟨x, lo, hi, rfl, a, k⟩ := h
    refine ⟨_, (pss_one (ps_ret (pe_and (pe_callB call_isi (by rfl) T.n_isinstance (by decide +kernel) (pa_cons (pv 0) (pa_cons (pe_bltn (v := .ty "tuple") rfl T.n_tuple (by decide +kernel) rfl) pa_nil))) (pe_one (pe_chain op_le op_le (pv 1) (pe_callB call_len_seq (by rfl) T.n_len (by decide +kernel) (pa_cons (pv 0) pa_nil)) (pv 2)))))), ?_⟩
    obtain ⟨t, ty, q, e1, h1, h2⟩ := isi_tup T a
    refine ⟨_, rfl, _, _, _, _, q, rfl, .ty _, ty, e1, q, rfl, ?_⟩
    cases q with
    | false =>
      rw [h1 rfl] at k
      exact iteF k
    | true =>
      obtain ⟨c, ys, rfl, e⟩ := h2 rfl
      rw [tupOf_ref e] at k
      have k : Q (V.bl (decide (lo ≤ (ys.length : Int)) && decide ((ys.length : Int) ≤ hi))) H := k
      refine iteT ⟨_, rfl, _, rfl, c, ys, rfl, .inr (SqT.of e), _, _, rfl, rfl, _, rfl, ?_⟩
      refine ite2 (fun g1 => ?_) (fun g1 => ?_)
      · rw [g1] at k
        exact ⟨_, rfl, _, _, rfl, rfl, k⟩
      · rw [show decide (lo ≤ (ys.length : Int)) = false from by simpa using g1] at k
        exact k
def optN (o : Option Nat) : V := match o with
  | none => .non
  | some i => .int (i : Nat)
def spFirstW (T : Tx P K mg) : Sp := fun vs H Q _ => ∃ (c : Addr) (ys : List V) (a b : Int), vs = [.ref c, .int a, .int b] ∧ H c = some (.tup ys) ∧ ys.length ≤ 1000 ∧ (∀ y ∈ ys, AnyV (OwnT T) H y) ∧ ∀ H2, Same H H2 → Q (optN (firstW a b ys)) H2
theorem ok_first_wrong (T : Tx P K mg) : FnOk P w K mg base CX0 lv_first_wrong T.a_first_wrong T.d_first_wrong ["told", "low", "high"] (spFirstW T) := by
  refine T.F_first_wrong.ok sc_first_wrong (fun vs H Q E h => ?_) (fun cdv A outer s H vs Q E hr h => ?_)
  · obtain ⟨c, ys, a, b, rfl, _⟩ := h
    rfl
  · obtain ⟨c, ys, a, b, rfl, e, hl, hy, k⟩ := h
    refine ⟨_, (pss_cons (ps_for PassesOwn.never rfl (pi_enumT (by rfl) T.n_enumerate (pa_cons (pv 0) pa_nil)) (pg_tup rfl (pgs_cons (pg_name (i := 3) sc_first_wrong.nd rfl (Or.inl rfl)) (pgs_cons (pg_name (i := 4) sc_first_wrong.nd rfl (Or.inl rfl)) pgs_nil))) (pss_one (ps_if (pt_not (pt_val (pe_call (ok_is_integer T) (hr.mono (by decide)) rfl T.g_is_integer T.F_is_integer.kp T.b_is_integer .nil pass0 (pa_cons (pv 4) (pa_cons (pv 1) (pa_cons (pv 2) pa_nil)))))) (pss_one (ps_ret (pv 3))) pss_nil)))
      (pss_one (ps_ret pe_non))), ?_⟩
    refine ⟨_, rfl, c, ys, rfl, SqT.of e, ?_⟩
    refine for_it (walk_enumT (a := c) (ys := ys)) (fun i σ H2 => ∃ v3 v4 : Option V, Same H H2 ∧ (∀ (j : Nat) (z : V), j < i → ys[j]? = some z → intIn z a b = true) ∧ σ = [some (.ref c), some (.int a), some (.int b), v3, v4]) ⟨none, none, fun _ _ e => e, fun j z lt _ => absurd lt (Nat.not_lt_zero _), rfl⟩ (fun i σ H2 _ ⟨_, _, S, _, _⟩ => SqT.of (S _ _ e)) ?_ ?_
    · rintro i x' σ H2 H3 hi ⟨v3, v4, S, hf, rfl⟩ ⟨p, x2, y, rfl, np, rfl, e2, hy'⟩
      cases e2
      have hy' : ys[i]? = some y := hy'
      refine ⟨p, _, rfl, SqT.of upd_same, rfl, _, _, rfl, _, _, rfl, rfl, ?_⟩
      have S3 := S.trans (same_upd (o := .tup [.int (i : Nat), y]) np)
      have ay : AnyV (OwnT T) (upd H2 p (.tup [.int (i : Nat), y])) y := (hy y (List.mem_of_getElem? hy')).mono S3
      refine ⟨_, rfl, _, rfl, _, rfl, y, a, b, rfl, ay, _, rfl, ?_⟩
      cases g : intIn y a b with
      | true =>
        refine iteF ⟨_, _, S3, fun j z lt hz => ?_, rfl⟩
        rcases Nat.lt_or_ge j i with q | q
        · exact hf j z q hz
        · rw [show j = i by omega, hy'] at hz
          cases hz
          exact g
      | false =>
        have k2 := k _ S3
        rw [firstW_at hf hy' g] at k2
        exact iteT ⟨_, rfl, k2⟩
    · rintro σ H2 ⟨v3, v4, S, hf, rfl⟩
      have k2 := k _ S
      rw [firstW_none fun y hy => by
        obtain ⟨j, hj⟩ := List.mem_iff_getElem?.mp hy
        exact hf j y (List.getElem?_eq_some_iff.mp hj).1 hj] at k2
      exact k2

/-! ### lists and tuples -/
def seqOf (H : Hp) (x : V) : Option (List V) := match x with
  | .ref c => match H c with
    | some (.tup ys) => some ys
    | some (.lst ys) => some ys
    | _ => none
  | _ => none
theorem seqOf_at {H : Hp} {c : Addr} {ys : List V} (h : SqA H c ys) : seqOf H (.ref c) = some ys := by
  show (match H c with | some (.tup ys) => some ys | some (.lst ys) => some ys | _ => none) = _
  rcases h with h | h <;> rw [h]
theorem seqOf_some {H : Hp} {x : V} {ys : List V} (h : seqOf H x = some ys) : ∃ c, x = .ref c ∧ SqA H c ys := by
  cases x with
  | ref c =>
    refine ⟨c, rfl, ?_⟩
    have h2 : (match H c with | some (.tup ys) => some ys | some (.lst ys) => some ys | _ => none) = some ys := h
    split at h2
    · rename_i zs e
      cases h2
      exact .inr e
    · rename_i zs e
      cases h2
      exact .inl e
    · cases h2
  | _ => cases h
theorem seqOf_same {T : Addr → Prop} {H H2 : Hp} {x : V} (a : AnyV T H x) (S : Same H H2) : seqOf H2 x = seqOf H x := by
  cases e : seqOf H x with
  | some ys =>
    obtain ⟨c, rfl, h⟩ := seqOf_some e
    exact seqOf_at (h.same S)
  | none =>
    cases e2 : seqOf H2 x with
    | none => rfl
    | some ys =>
      obtain ⟨c, rfl, h⟩ := seqOf_some e2
      rw [seqOf_at (show SqA H c ys from h.imp (a.at S) (a.at S))] at e
      cases e
theorem isi_seq (T : Tx P K mg) {H : Hp} {x : V} (a : AnyV (OwnT T) H x) : ∃ t, TyX K H x t ∧ ∃ b, PySem.W.kitAny K t [.type "list", .type "tuple"] = some b ∧ (b = false → seqOf H x = none) ∧ (b = true → ∃ c ys, x = .ref c ∧ SqA H c ys) := by
  have no : ∀ {t : Value}, PySem.W.kitOne K t (.type "list") = some false → PySem.W.kitOne K t (.type "tuple") = some false → PySem.W.kitAny K t [.type "list", .type "tuple"] = some false := fun h1 h2 => kitAny_cons h1 (fun _ => kitAny_cons h2 (fun _ => rfl) (fun z => nomatch z)) (fun z => nomatch z)
  have un : ∀ {c : Addr} {o : HO}, H c = some o → (∀ ys, o ≠ .tup ys) → (∀ ys, o ≠ .lst ys) → seqOf H (.ref c) = none := fun {c o} e h1 h2 => by
    cases q : seqOf H (.ref c) with
    | none => rfl
    | some ys =>
      obtain ⟨c', e1, e2⟩ := seqOf_some q
      cases e1
      rcases e2 with e2 | e2
      · rw [e] at e2
        exact absurd (Option.some.inj e2) (h2 ys)
      · rw [e] at e2
        exact absurd (Option.some.inj e2) (h1 ys)
  cases a with
  | non => exact ⟨_, .base .non, false, no (kit_ty (by decide +kernel)) (kit_ty (by decide +kernel)), fun _ => rfl, fun z => nomatch z⟩
  | bl b => exact ⟨_, .base (.bl b), false, no (kit_ty (by decide +kernel)) (kit_ty (by decide +kernel)), fun _ => rfl, fun z => nomatch z⟩
  | int i => exact ⟨.type "int", .base (.int i), false, no (kit_ty (by decide +kernel)) (kit_ty (by decide +kernel)), fun _ => rfl, fun z => nomatch z⟩
  | str x => exact ⟨_, .base (.str x), false, no (kit_ty (by decide +kernel)) (kit_ty (by decide +kernel)), fun _ => rfl, fun z => nomatch z⟩
  | lst e => exact ⟨_, .base (.lst e), true, kitAny_cons (b := true) (kit_ty (by decide +kernel)) (fun z => nomatch z) (fun _ => rfl), fun z => (nomatch z), fun _ => ⟨_, _, rfl, .inl e⟩⟩
  | tup e => exact ⟨_, .base (.tup e), true, kitAny_cons (b := false) (kit_ty (by decide +kernel)) (fun _ => kitAny_cons (b := true) (kit_ty (by decide +kernel)) (fun z => nomatch z) (fun _ => rfl)) (fun z => nomatch z), fun z => (nomatch z), fun _ => ⟨_, _, rfl, .inr e⟩⟩
  | dct e => exact ⟨_, .base (.dK e), false, no (kit_ty (by decide +kernel)) (kit_ty (by decide +kernel)), fun _ => un e (fun _ z => nomatch z) (fun _ z => nomatch z), fun z => nomatch z⟩
  | ins t e => exact ⟨_, .base (t.ty e), false, no t.nlist t.ntuple, fun _ => un e (fun _ z => nomatch z) (fun _ z => nomatch z), fun z => nomatch z⟩
def spIsSeq (T : Tx P K mg) : Sp := fun vs H Q _ => ∃ (x : V) (lo hi : Int), vs = [x, .int lo, .int hi] ∧ AnyV (OwnT T) H x ∧ ∀ H2, Same H H2 → Q (.bl (isTup lo hi (seqOf H x))) H2
theorem ok_is_list_or_tuple (T : Tx P K mg) : FnOk P w K mg base CX0 lv_is_list_or_tuple T.a_is_list_or_tuple T.d_is_list_or_tuple ["told", "fewest", "most"] (spIsSeq T) := by
  refine T.F_is_list_or_tuple.ok sc_is_list_or_tuple (fun vs H Q E h => ?_) (fun cdv A outer s H vs Q E hr h => ?_)
  · obtain ⟨x, lo, hi, rfl, _⟩ := h
    rfl
  · obtain ⟨x, lo, hi, rfl, a, k⟩ := h
    refine ⟨_, (pss_one (ps_ret (pe_and (pe_callB call_isiT (by rfl) T.n_isinstance (by decide +kernel) (pa_cons (pv 0) (pa_cons (pe_tup (pa_cons (pe_bltn (v := .ty "list") rfl T.n_list (by decide +kernel) rfl) (pa_cons (pe_bltn (v := .ty "tuple") rfl T.n_tuple (by decide +kernel) rfl) pa_nil))) pa_nil))) (pe_one (pe_chain op_le op_le (pv 1) (pe_callB call_len_seq (by rfl) T.n_len (by decide +kernel) (pa_cons (pv 0) pa_nil)) (pv 2)))))), ?_⟩
    refine ⟨_, rfl, by show 2 ≤ sizeLine; decide, fun tp htp => ?_⟩
    have S := same_upd (o := .tup [.ty "list", .ty "tuple"]) htp
    have k := k _ S
    rw [← seqOf_same a S] at k
    have a2 := a.mono S
    obtain ⟨t, ty, q, e1, h1, h2⟩ := isi_seq T a2
    refine ⟨x, tp, _, t, _, q, rfl, upd_same, .cons (.ty _) (.cons (.ty _) .nil), ty, e1, q, rfl, ?_⟩
    cases q with
    | false =>
      rw [h1 rfl] at k
      exact iteF k
    | true =>
      obtain ⟨c, ys, rfl, e⟩ := h2 rfl
      rw [seqOf_at e] at k
      have k : Q (V.bl (decide (lo ≤ (ys.length : Int)) && decide ((ys.length : Int) ≤ hi))) _ := k
      refine iteT ⟨_, rfl, _, rfl, c, ys, rfl, e.len, _, _, rfl, rfl, _, rfl, ?_⟩
      refine ite2 (fun g1 => ?_) (fun g1 => ?_)
      · rw [g1] at k
        exact ⟨_, rfl, _, _, rfl, rfl, k⟩
      · rw [show decide (lo ≤ (ys.length : Int)) = false from by simpa using g1] at k
        exact k

/-- a trick's attributes -/
def tf (b t m : Int) : List (Str × V) := putF "_times" (.int m) (putF "_take" (.int t) (putF "_base" (.int b) []))
theorem n1 : ¬ (("_base" : Str) = "_take") := by decide +kernel
theorem n2 : ¬ (("_base" : Str) = "_times") := by decide +kernel
theorem n3 : ¬ (("_take" : Str) = "_times") := by decide +kernel
theorem tf_eq (b t m : Int) : tf b t m = ([("_base", V.int b), ("_take", V.int t), ("_times", V.int m)] : List (Str × V)) := by
  have e2 : putF "_take" (V.int t) (putF "_base" (V.int b) []) = ([("_base", V.int b), ("_take", V.int t)] : List (Str × V)) := by
    show (if ("_base" : Str) = "_take" then [(("_base" : Str), V.int t)] else (("_base" : Str), V.int b) :: putF "_take" (V.int t) []) = _
    rw [if_neg n1]
    all_goals rfl
  unfold tf
  rw [e2]
  show (if ("_base" : Str) = "_times" then _ else (("_base" : Str), V.int b) :: (if ("_take" : Str) = "_times" then _ else (("_take" : Str), V.int t) :: putF "_times" (V.int m) [])) = _
  rw [if_neg n2, if_neg n3]
  all_goals rfl
theorem tf_base (b t m : Int) : (tf b t m).lookup ("_base" : Str) = some (.int b) := by
  unfold tf
  rw [lookup_putF, if_neg n2, lookup_putF, if_neg n1, lookup_putF, if_pos rfl]
theorem tf_take (b t m : Int) : (tf b t m).lookup ("_take" : Str) = some (.int t) := by
  unfold tf
  rw [lookup_putF, if_neg n3, lookup_putF, if_pos rfl]
theorem tf_times (b t m : Int) : (tf b t m).lookup ("_times" : Str) = some (.int m) := by
  unfold tf
  rw [lookup_putF, if_pos rfl]
/-- the Trick of these parts stands at p -/
def TrickAt (T : Tx P K mg) (H : Hp) (p : Addr) (b t m : Int) : Prop := (∃ dx, H p = some (.ins T.C_Trick dx (tf b t m))) ∧ 2 ≤ b ∧ b ≤ 16 ∧ 1 ≤ t ∧ t ≤ 2 ∧ -100 ≤ m ∧ m ≤ 100
theorem TrickAt.same {T : Tx P K mg} {H H' : Hp} {p : Addr} {b t m : Int} (h : TrickAt T H p b t m) (s : Same H H') : TrickAt T H' p b t m :=
  let ⟨⟨dx, e⟩, r⟩ := h
  ⟨⟨dx, s _ _ e⟩, r⟩
theorem TrickAt.but {T : Tx P K mg} {H H' : Hp} {p r : Addr} {b t m : Int} (h : TrickAt T H p b t m) (s : But r H H') (n : p ≠ r) : TrickAt T H' p b t m :=
  let ⟨⟨dx, e⟩, q⟩ := h
  ⟨⟨dx, s _ _ e n⟩, q⟩
theorem TrickAt.any {T : Tx P K mg} {H : Hp} {p : Addr} {b t m : Int} (h : TrickAt T H p b t m) : AnyV (OwnT T) H (.ref p) :=
  let ⟨⟨_, e⟩, _⟩ := h
  .ins (by first | exact rfl | exact Or.inl rfl) e
theorem isi_trick (T : Tx P K mg) {H : Hp} {x : V} (a : AnyV (fun _ => False) H x) : ∃ t, TyX K H x t ∧ PySem.W.kitOne K t (.ref T.C_Trick) = some false := by
  cases a with
  | non => exact ⟨_, .base .non, T.kin_Trick_NoneType⟩
  | bl b => exact ⟨_, .base (.bl b), T.kin_Trick_bool⟩
  | int i => exact ⟨_, .base (.int i), T.kin_Trick_int⟩
  | str x => exact ⟨_, .base (.str x), T.kin_Trick_str⟩
  | lst e => exact ⟨_, .base (.lst e), T.kin_Trick_list⟩
  | tup e => exact ⟨_, .base (.tup e), T.kin_Trick_tuple⟩
  | dct e => exact ⟨_, .base (.dK e), T.kin_Trick_dict⟩
  | ins t e => exact t.elim

/-- Trick(b, t, m) of good parts: a new object; nothing that stood is changed -/
def spTrickI (T : Tx P K mg) : Sp := fun vs H Q _ => ∃ (p dx : Addr) (b t m : Int), vs = [.ref p, .int b, .int t, .int m] ∧ H p = some (.ins T.C_Trick dx []) ∧ 2 ≤ b ∧ b ≤ 16 ∧ 1 ≤ t ∧ t ≤ 2 ∧ -100 ≤ m ∧ m ≤ 100 ∧
  ∀ H', TrickAt T H' p b t m → (∀ c o, H c = some o → c ≠ p → H' c = some o) → Q .non H'
theorem ok_Trick___init__ (T : Tx P K mg) : FnOk P w K mg base CX0 lv_Trick___init__ T.a_Trick___init__ T.d_Trick___init__ ["self", "base", "take", "times"] (spTrickI T) := by
  refine T.F_Trick___init__.ok sc_Trick___init__ (fun vs H Q E h => ?_) (fun cdv A outer s H vs Q E hr h => ?_)
  · obtain ⟨p, dx, b, t, m, rfl, _⟩ := h
    rfl
  · obtain ⟨p, dx, b, t, m, rfl, hp, b1, b2, t1, t2, m1, m2, k⟩ := h
    refine ⟨_, (pss_cons (ps_expr (pe_call (ok_check_base T) (hr.mono (by decide)) rfl T.g_check_base T.F_check_base.kp T.b_check_base .nil passL (pa_cons (pv 1) pa_nil)))
      (pss_cons (ps_expr (pe_call (ok_check_take T) (hr.mono (by decide)) rfl T.g_check_take T.F_check_take.kp T.b_check_take .nil passL (pa_cons (pv 2) pa_nil)))
      (pss_cons (ps_if (pt_not (pt_val (pe_call (ok_is_integer T) (hr.mono (by decide)) rfl T.g_is_integer T.F_is_integer.kp T.b_is_integer .nil pass0 (pa_cons (pv 3) (pa_cons (pe_un un_neg (pe_glob (v := .int 100) rfl T.c_GREATEST_TIMES ⟨_, rfl⟩)) (pa_cons (pe_glob (v := .int 100) rfl T.c_GREATEST_TIMES ⟨_, rfl⟩) pa_nil)))))) (pss_one ps_never) pss_nil)
      (pss_cons (ps_fld (pv 0) (pv 1) rfl)
      (pss_cons (ps_fld (pv 0) (pv 2) rfl)
      (pss_one (ps_fld (pv 0) (pv 3) rfl))))))), ?_⟩
    refine ⟨_, rfl, _, rfl, .int b, fun _ => ?_, fun z => Bool.noConfusion ((intIn_of b1 b2).symm.trans z)⟩
    refine ⟨_, rfl, _, rfl, .int t, fun _ => ?_, fun z => Bool.noConfusion ((intIn_of t1 t2).symm.trans z)⟩
    refine ⟨_, rfl, _, rfl, _, _, _, rfl, .int m, _, rfl, ?_⟩
    rw [intIn_of m1 m2]
    refine iteF ?_
    refine ⟨_, rfl, _, rfl, p, _, dx, _, rfl, hp, T.cl_Trick, T.na_Trick_base, (by show 0 < 1000; decide), ?_⟩
    refine ⟨_, rfl, _, rfl, p, _, dx, _, rfl, upd_same, T.cl_Trick, T.na_Trick_take, (by show 1 < 1000; decide), ?_⟩
    refine ⟨_, rfl, _, rfl, p, _, dx, _, rfl, upd_same, T.cl_Trick, T.na_Trick_times, (by show 2 < 1000; decide), ?_⟩
    refine k _ ⟨⟨dx, upd_same⟩, b1, b2, t1, t2, m1, m2⟩ fun c o e hc => ?_
    rw [upd_ne hc, upd_ne hc, upd_ne hc]
    exact e
/-- a Trick of good parts is made -/
theorem mk_trick {T : Tx P K mg} {H1 : Hp} {p dx : Addr} {b t m : Int} {R : Hp → Prop} {E : XK} (np : H1 p = none) (nd : H1 dx = none) (b1 : 2 ≤ b) (b2 : b ≤ 16) (t1 : 1 ≤ t) (t2 : t ≤ 2) (m1 : -100 ≤ m) (m2 : m ≤ 100)
    (k : ∀ H2, TrickAt T H2 p b t m → Same H1 H2 → R H2) : spTrickI T (.ref p :: ([.int b, .int t, .int m] ++ [])) (upd (upd H1 dx (.own p)) p (.ins T.C_Trick dx [])) (fun v H2 => v = .non ∧ R H2) E :=
  ⟨p, dx, b, t, m, rfl, upd_same, b1, b2, t1, t2, m1, m2, fun H2 hT kp => ⟨rfl, k H2 hT (Same.made np nd kp)⟩⟩

/-- what is a Trick, or the error -/
def isTrick (T : Tx P K mg) (H : Hp) (x : V) : Prop := ∃ p b t m, x = .ref p ∧ TrickAt T H p b t m
def spChkTrick (T : Tx P K mg) : Sp := fun vs H Q E => ∃ x : V, vs = [x] ∧ ((∃ p dx fs, x = .ref p ∧ H p = some (.ins T.C_Trick dx fs) ∧ Q .non H) ∨ (AnyV (fun _ => False) H x ∧ E (.ref T.C_BadTrick) none H))
theorem ok_check_trick (T : Tx P K mg) : FnOk P w K mg base (L2.CX P w) lv_check_trick T.a_check_trick T.d_check_trick ["trick"] (spChkTrick T) := by
  refine T.F_check_trick.okX sc_check_trick (fun vs H Q E h => ?_) (fun cdv A outer s H vs Q E hr h => ?_)
  · obtain ⟨x, rfl, _⟩ := h
    rfl
  · obtain ⟨x, rfl, h⟩ := h
    refine ⟨_, (pss_one (ps_if (pt_not (pt_val (pe_callB call_isi (by rfl) T.n_isinstance (by decide +kernel) (pa_cons (pv 0) (pa_cons (pe_glob (v := .ref T.C_Trick) rfl T.g_Trick rfl) pa_nil))))) (pss_one (ps_raise rfl (takes_of rfl rfl rfl rfl) (pmk_own PySem.F.excBase_ValueError T.x_BadTrick T.g_BadTrick T.k_BadTrick (raises_own T.s_BadTrick T.t_BadTrick) rfl))) pss_nil)), ?_⟩
    rcases h with ⟨p, dx, fs, rfl, e, k⟩ | ⟨a, k⟩
    · exact ⟨_, rfl, _, _, _, _, _, rfl, .own _, .base (T.ins_Trick _ _ _ _ e), T.kis_Trick, _, rfl, iteF k⟩
    · obtain ⟨t, ty, e⟩ := isi_trick T a
      exact ⟨_, rfl, _, _, _, _, _, rfl, .own _, ty, e, _, rfl, iteT k⟩

/-! ### chains of tricks -/
abbrev Prt : Type := Int × Int × Int
/-- the values are tricks of these parts -/
def Trs (T : Tx P K mg) (H : Hp) : List V → List Prt → Prop
  | [], [] => True
  | v :: vs, z :: l => (∃ p, v = .ref p ∧ TrickAt T H p z.1 z.2.1 z.2.2) ∧ Trs T H vs l
  | _, _ => False
theorem Trs.of {T : Tx P K mg} {H H' : Hp} (e : ∀ p b t m, TrickAt T H p b t m → TrickAt T H' p b t m) : ∀ {vs : List V} {l : List Prt}, Trs T H vs l → Trs T H' vs l
  | [], [], _ => trivial
  | _ :: _, _ :: _, ⟨⟨q, h1, h2⟩, h3⟩ => ⟨⟨q, h1, e _ _ _ _ h2⟩, h3.of e⟩
  | [], _ :: _, h => h.elim
  | _ :: _, [], h => h.elim
theorem Trs.same {T : Tx P K mg} {H H' : Hp} {vs : List V} {l : List Prt} (h : Trs T H vs l) (S : Same H H') : Trs T H' vs l := h.of fun _ _ _ _ e => e.same S
theorem Trs.but {T : Tx P K mg} {H H' : Hp} {r : Addr} {ys : List V} {vs : List V} {l : List Prt} (h : Trs T H vs l) (hr : H r = some (.lst ys)) (B : But r H H') : Trs T H' vs l :=
  h.of fun p _ _ _ e => e.but B fun z => by
    obtain ⟨⟨dx, e1⟩, _⟩ := e
    rw [z, hr] at e1
    cases e1
theorem Trs.len {T : Tx P K mg} {H : Hp} : ∀ {vs : List V} {l : List Prt}, Trs T H vs l → vs.length = l.length
  | [], [], _ => rfl
  | _ :: _, _ :: _, ⟨_, h3⟩ => congrArg Nat.succ h3.len
  | [], _ :: _, h => h.elim
  | _ :: _, [], h => h.elim
theorem Trs.at {T : Tx P K mg} {H : Hp} : ∀ {vs : List V} {l : List Prt}, Trs T H vs l → ∀ {i : Nat} {y : V}, vs[i]? = some y → ∃ p z, y = .ref p ∧ l[i]? = some z ∧ TrickAt T H p z.1 z.2.1 z.2.2
  | [], [], _, i, y, h => by cases h
  | _ :: _, z :: _, ⟨⟨q, h1, h2⟩, _⟩, 0, y, h => by
    cases h
    exact ⟨q, z, h1, rfl, h2⟩
  | _ :: _, _ :: _, ⟨_, h3⟩, i + 1, y, h => h3.at (i := i) h
  | [], _ :: _, h, _, _, _ => h.elim
  | _ :: _, [], h, _, _, _ => h.elim
theorem Trs.snoc {T : Tx P K mg} {H : Hp} {q : Addr} {z : Prt} (hq : TrickAt T H q z.1 z.2.1 z.2.2) : ∀ {vs : List V} {l : List Prt}, Trs T H vs l → Trs T H (vs ++ [.ref q]) (l ++ [z])
  | [], [], _ => ⟨⟨q, rfl, hq⟩, trivial⟩
  | _ :: _, _ :: _, ⟨h1, h3⟩ => ⟨h1, h3.snoc hq⟩
  | [], _ :: _, h => h.elim
  | _ :: _, [], h => h.elim
theorem Trs.take {T : Tx P K mg} {H : Hp} : ∀ {vs : List V} {l : List Prt} (k : Nat), Trs T H vs l → Trs T H (vs.take k) (l.take k)
  | [], [], k, _ => by rw [List.take_nil, List.take_nil]; trivial
  | _ :: _, _ :: _, 0, _ => trivial
  | _ :: _, _ :: _, k + 1, ⟨h1, h3⟩ => ⟨h1, h3.take k⟩
  | [], _ :: _, _, h => h.elim
  | _ :: _, [], _, h => h.elim
/-- is a Trick -/
def isT (T : Tx P K mg) (H : Hp) (y : V) : Prop := ∃ p dx fs, y = .ref p ∧ H p = some (.ins T.C_Trick dx fs)
theorem isT.same {T : Tx P K mg} {H H' : Hp} {y : V} (h : isT T H y) (S : Same H H') : isT T H' y :=
  let ⟨p, dx, fs, e, hp⟩ := h
  ⟨p, dx, fs, e, S _ _ hp⟩
theorem Trs.isT {T : Tx P K mg} {H : Hp} {vs : List V} {l : List Prt} (h : Trs T H vs l) {i : Nat} {y : V} (hy : vs[i]? = some y) : isT T H y := by
  obtain ⟨p, z, e, _, ⟨dx, hp⟩, _⟩ := h.at hy
  exact ⟨p, dx, _, e, hp⟩
def errN (T : Tx P K mg) (E : XK) (C : Addr) (f : Str) (H : Hp) (v : V) : Prop := ∀ H2 d, Same H H2 → H2 d = none → E (.ref C) (some d) (upd H2 d (.xd [(f, v)]))
/-- a list or tuple of 1 to 4 tricks, or the error -/
def spTricks (T : Tx P K mg) : Sp := fun vs H Q E => ∃ x : V, vs = [x] ∧
  ((AnyV (OwnT T) H x ∧ isTup 1 4 (seqOf H x) = false ∧ errN T E T.C_BadTricks "index" H .non) ∨
   ∃ (c : Addr) (ys : List V) (lim : Nat), x = .ref c ∧ SqA H c ys ∧ 1 ≤ ys.length ∧ ys.length ≤ 4 ∧ lim ≤ ys.length ∧ (∀ (j : Nat) (z : V), j < lim → ys[j]? = some z → isT T H z) ∧
     (lim < ys.length → ∃ y, ys[lim]? = some y ∧ AnyV (fun _ => False) H y ∧ errN T E T.C_BadTricks "index" H (.int (lim : Nat))) ∧ (lim = ys.length → ∀ H2, Same H H2 → Q .non H2))
theorem SqA.any {T : Addr → Prop} {H : Hp} {c : Addr} {ys : List V} (h : SqA H c ys) : AnyV T H (.ref c) := h.elim .lst .tup
theorem isTup_len {lo hi : Nat} {H : Hp} {c : Addr} {ys : List V} (h : SqA H c ys) (l1 : lo ≤ ys.length) (l2 : ys.length ≤ hi) : isTup lo hi (seqOf H (.ref c)) = true := by
  rw [seqOf_at h]
  show (decide ((lo : Int) ≤ (ys.length : Int)) && decide ((ys.length : Int) ≤ (hi : Int))) = true
  rw [Bool.and_eq_true, decide_eq_true_eq, decide_eq_true_eq]
  omega
theorem ok_check_tricks (T : Tx P K mg) : FnOk P w K mg base (L2.CX P w) lv_check_tricks T.a_check_tricks T.d_check_tricks ["tricks"] (spTricks T) := by
  refine T.F_check_tricks.okX sc_check_tricks (fun vs H Q E h => ?_) (fun cdv A outer s H vs Q E hr h => ?_)
  · obtain ⟨x, rfl, _⟩ := h
    rfl
  · obtain ⟨x, rfl, h⟩ := h
    refine ⟨_, (pss_cons (ps_if (pt_not (pt_val (pe_call (ok_is_list_or_tuple T) (hr.mono (by decide)) rfl T.g_is_list_or_tuple T.F_is_list_or_tuple.kp T.b_is_list_or_tuple .nil pass0 (pa_cons (pv 0) (pa_cons pe_int (pa_cons (pe_glob (v := .int 4) rfl T.c_MOST_TRICKS ⟨_, rfl⟩) pa_nil)))))) (pss_one (ps_raiseF T.x_BadTricks ar_BadTricks rfl hr (takes_of rfl rfl rfl rfl) (pa_cons pe_non pa_nil))) pss_nil)
      (pss_one (ps_for (passes_of rfl) rfl (pi_enumA (by rfl) T.n_enumerate (pa_cons (pv 0) pa_nil)) (pg_tup rfl (pgs_cons (pg_name (i := 1) sc_check_tricks.nd rfl (Or.inl rfl)) (pgs_cons (pg_name (i := 2) sc_check_tricks.nd rfl (Or.inl rfl)) pgs_nil))) (pss_one (ps_if (pt_not (pt_val (pe_callB call_isi (by rfl) T.n_isinstance (by decide +kernel) (pa_cons (pv 2) (pa_cons (pe_glob (v := .ref T.C_Trick) rfl T.g_Trick rfl) pa_nil))))) (pss_one (ps_raiseF T.x_BadTricks ar_BadTricks rfl hr (takes_of rfl rfl rfl rfl) (pa_cons (pv 1) pa_nil))) pss_nil))))), ?_⟩
    rcases h with ⟨a, g, e⟩ | ⟨c, ys, lim, rfl, hc, l1, l2, hl, hi, e, k⟩
    · refine ⟨_, rfl, x, 1, 4, rfl, a, fun H1 S1 => ⟨_, rfl, ?_⟩⟩
      rw [g]
      exact iteT ⟨_, rfl, .inl rfl, fun d hd => e H1 d S1 hd⟩
    · refine ⟨_, rfl, .ref c, 1, 4, rfl, SqA.any hc, fun H1 S1 => ⟨_, rfl, ?_⟩⟩
      rw [show isTup 1 4 (seqOf H (.ref c)) = true from isTup_len (lo := 1) (hi := 4) hc l1 l2]
      refine iteF (enumA_of rfl (hc.same S1) fun J G wk hG => ?_)
      refine for_it wk (fun i σ H2 => ∃ v1 v2 : Option V, Same H1 H2 ∧ i ≤ lim ∧ σ = [some (.ref c), v1, v2]) ⟨none, none, Same.refl H1, Nat.zero_le _, rfl⟩ (fun i σ H2 _ ⟨_, _, S, _, _⟩ => hG H2 S) ?_ ?_
      · rintro i x' σ H2 H3 hin ⟨v1, v2, S, hlim, rfl⟩ ⟨p, x2, y, rfl, np, rfl, e2', hy'⟩
        cases e2'
        have hy' : ys[i]? = some y := hy'
        refine ⟨p, _, rfl, SqT.of upd_same, rfl, _, _, rfl, _, _, rfl, rfl, ?_⟩
        have S3 := (S1.trans S).trans (same_upd (o := .tup [.int (i : Nat), y]) np)
        rcases Nat.lt_or_ge i lim with q | q
        · obtain ⟨p2, dx, fs, rfl, hp⟩ := (hi i y q hy').same S3
          exact ⟨_, rfl, _, _, _, _, _, rfl, .own _, .base (T.ins_Trick _ _ _ _ hp), T.kis_Trick, _, rfl, iteF ⟨_, _, S.trans (same_upd np), by omega, rfl⟩⟩
        · have ei : i = lim := by omega
          subst ei
          obtain ⟨y2, hy2, ay, er⟩ := e hin
          rw [hy'] at hy2
          cases hy2
          obtain ⟨t, ty, ek⟩ := isi_trick T (ay.mono S3)
          have sm : ((i : Int)).natAbs.log2 < 1920 := Nat.lt_of_le_of_lt (Nat.log2_le_self _) (by omega)
          exact ⟨_, rfl, _, _, _, _, _, rfl, .own _, ty, ek, _, rfl, iteT ⟨_, rfl, _, rfl, .inr ⟨_, rfl, sm⟩, fun d hd => er _ d S3 hd⟩⟩
      · rintro σ H2 ⟨v1, v2, S, hlim, rfl⟩
        exact k (by omega) H2 (S1.trans S)

/-! ### weights -/
abbrev wVerd (lo : Nat) (H : Hp) (x : V) : Option V := verdict lo 12 (-(10 ^ 6)) (10 ^ 6) (tupOf H x)
def spWeights (T : Tx P K mg) : Sp := fun vs H Q E => ∃ (x : V) (lo : Nat), vs = [x, .int (lo : Int)] ∧ AnyV (OwnT T) H x ∧ ItemsAny (OwnT T) H x ∧ (wVerd lo H x = none → ∀ H2, Same H H2 → Q .non H2) ∧
  ∀ v, wVerd lo H x = some v → ∀ H2 d, Same H H2 → H2 d = none → E (.ref T.C_BadWeights) (some d) (upd H2 d (.xd [(("index" : Str), v)]))
theorem ok_check_weights (T : Tx P K mg) : FnOk P w K mg base (L2.CX P w) lv_check_weights T.a_check_weights T.d_check_weights ["told", "fewest"] (spWeights T) := by
  refine T.F_check_weights.okX sc_check_weights (fun vs H Q E h => ?_) (fun cdv A outer s H vs Q E hr h => ?_)
  · obtain ⟨x, lo, rfl, _⟩ := h
    rfl
  · obtain ⟨x, lo, rfl, a, ia, k1, k2⟩ := h
    refine ⟨_, (pss_cons (ps_if (pt_not (pt_val (pe_call (ok_is_tuple T) (hr.mono (by decide)) rfl T.g_is_tuple T.F_is_tuple.kp T.b_is_tuple .nil pass0 (pa_cons (pv 0) (pa_cons (pv 1) (pa_cons (pe_glob (v := .int 12) rfl T.c_MOST_WEIGHTS ⟨_, rfl⟩) pa_nil)))))) (pss_one (ps_raiseF T.x_BadWeights ar_BadWeights rfl hr (takes_of rfl rfl rfl rfl) (pa_cons pe_non pa_nil))) pss_nil)
      (pss_cons (ps_set (i := 2) sc_check_weights.nd rfl (Or.inl rfl) (pe_call (ok_first_wrong T) (hr.mono (by decide)) rfl T.g_first_wrong T.F_first_wrong.kp T.b_first_wrong .nil pass0 (pa_cons (pv 0) (pa_cons (pe_un un_neg (pe_glob (v := .int 1000000) rfl T.c_GREATEST_WEIGHT ⟨_, rfl⟩)) (pa_cons (pe_glob (v := .int 1000000) rfl T.c_GREATEST_WEIGHT ⟨_, rfl⟩) pa_nil)))))
      (pss_one (ps_if (pt_cmpR op_notN (pv 2) pe_non (nomark _)) (pss_one (ps_raiseF T.x_BadWeights ar_BadWeights rfl hr (takes_of rfl rfl rfl rfl) (pa_cons (pv 2) pa_nil))) pss_nil)))), ?_⟩
    refine ⟨_, rfl, _, rfl, x, (lo : Int), 12, rfl, a, _, rfl, ?_⟩
    cases e : tupOf H x with
    | none =>
      have ev : wVerd lo H x = some .non := by unfold wVerd; rw [e]; rfl
      exact iteT ⟨_, rfl, .inl rfl, fun d hd => k2 _ ev H d (Same.refl H) hd⟩
    | some ys =>
      obtain ⟨c, rfl, hc⟩ := tupOf_some e
      show if (!(decide ((lo : Int) ≤ (ys.length : Int)) && decide ((ys.length : Int) ≤ 12))) = true then _ else _
      by_cases l : lo ≤ ys.length ∧ ys.length ≤ 12
      · rw [show (decide ((lo : Int) ≤ (ys.length : Int)) && decide ((ys.length : Int) ≤ 12)) = true from by rw [Bool.and_eq_true, decide_eq_true_eq, decide_eq_true_eq]; omega]
        have ev : wVerd lo H (.ref c) = (firstW (-(10 ^ 6)) (10 ^ 6) ys).map fun i => .int (i : Nat) := by
          unfold wVerd
          rw [e, verdict_some]
          exact if_pos l
        rw [ev] at k1 k2
        refine iteF ⟨_, rfl, _, rfl, c, ys, -(10 ^ 6), 10 ^ 6, rfl, hc, by omega, fun y hy => ia ys e y hy, fun H2 S2 => ?_⟩
        cases ef : firstW (-(10 ^ 6)) (10 ^ 6) ys with
        | none =>
          rw [ef] at k1
          refine ⟨_, rfl, rfl, _, rfl, ?_⟩
          rw [show decide (optN none = V.non) = true from decide_eq_true rfl]
          exact iteF (k1 rfl H2 S2)
        | some i =>
          have li : i < ys.length := by
            have := firstW_lt ef
            exact this
          rw [ef] at k2
          refine ⟨_, rfl, rfl, _, rfl, ?_⟩
          rw [show decide (optN (some i) = V.non) = false from decide_eq_false (fun z => nomatch z)]
          have sm : ((i : Int)).natAbs.log2 < 1920 := Nat.lt_of_le_of_lt (Nat.log2_le_self _) (by omega)
          exact iteT ⟨_, rfl, _, rfl, .inr ⟨_, rfl, sm⟩, fun d hd => k2 _ rfl H2 d S2 hd⟩
      · have ev : wVerd lo H (.ref c) = some .non := by
          unfold wVerd
          rw [e, verdict_some]
          exact if_neg l
        rw [show (decide ((lo : Int) ≤ (ys.length : Int)) && decide ((ys.length : Int) ≤ 12)) = false from by rw [Bool.and_eq_false_iff, decide_eq_false_iff_not, decide_eq_false_iff_not]; omega]
        exact iteT ⟨_, rfl, .inl rfl, fun d hd => k2 _ ev H d (Same.refl H) hd⟩

/-! ### sums -/
def sfl (x y u v : V) : List (Str × V) := putF "_loop" v (putF "_first" u (putF "_take" y (putF "_base" x [])))
theorem sn1 : ¬ (("_base" : Str) = "_take") := by decide +kernel
theorem sn2 : ¬ (("_base" : Str) = "_first") := by decide +kernel
theorem sn3 : ¬ (("_base" : Str) = "_loop") := by decide +kernel
theorem sn4 : ¬ (("_take" : Str) = "_first") := by decide +kernel
theorem sn5 : ¬ (("_take" : Str) = "_loop") := by decide +kernel
theorem sn6 : ¬ (("_first" : Str) = "_loop") := by decide +kernel
theorem sfl_base (x y u v : V) : (sfl x y u v).lookup ("_base" : Str) = some x := by
  unfold sfl
  rw [lookup_putF, if_neg sn3, lookup_putF, if_neg sn2, lookup_putF, if_neg sn1, lookup_putF, if_pos rfl]
theorem sfl_take (x y u v : V) : (sfl x y u v).lookup ("_take" : Str) = some y := by
  unfold sfl
  rw [lookup_putF, if_neg sn5, lookup_putF, if_neg sn4, lookup_putF, if_pos rfl]
theorem sfl_first (x y u v : V) : (sfl x y u v).lookup ("_first" : Str) = some u := by
  unfold sfl
  rw [lookup_putF, if_neg sn6, lookup_putF, if_pos rfl]
theorem sfl_loop (x y u v : V) : (sfl x y u v).lookup ("_loop" : Str) = some v := by
  unfold sfl
  rw [lookup_putF, if_pos rfl]
/-- weights -/
def Wts (lo : Nat) (ns : List Int) : Prop := lo ≤ ns.length ∧ ns.length ≤ 12 ∧ ∀ z ∈ ns, -(10 ^ 6) ≤ z ∧ z ≤ 10 ^ 6
/-- the Sum of these parts stands at p -/
def SumAt (T : Tx P K mg) (H : Hp) (p : Addr) (b t : Int) (fs ls : List Int) : Prop := ∃ (dx f l : Addr), H p = some (.ins T.C_Sum dx (sfl (.int b) (.int t) (.ref f) (.ref l))) ∧ H f = some (.tup (fs.map V.int)) ∧ H l = some (.tup (ls.map V.int)) ∧ 2 ≤ b ∧ b ≤ 16 ∧ 1 ≤ t ∧ t ≤ 2 ∧ Wts 0 fs ∧ Wts 1 ls
theorem SumAt.same {T : Tx P K mg} {H H' : Hp} {p : Addr} {b t : Int} {fs ls : List Int} (h : SumAt T H p b t fs ls) (s : Same H H') : SumAt T H' p b t fs ls :=
  let ⟨dx, f, l, e1, e2, e3, r⟩ := h
  ⟨dx, f, l, s _ _ e1, s _ _ e2, s _ _ e3, r⟩
theorem SumAt.but {T : Tx P K mg} {H H' : Hp} {p r : Addr} {ys : List V} {b t : Int} {fs ls : List Int} (h : SumAt T H p b t fs ls) (hr : H r = some (.lst ys)) (s : But r H H') : SumAt T H' p b t fs ls :=
  let ⟨dx, f, l, e1, e2, e3, q⟩ := h
  ⟨dx, f, l, s _ _ e1 (ne_of e1 hr (by intro z; cases z)), s _ _ e2 (ne_of e2 hr (by intro z; cases z)), s _ _ e3 (ne_of e3 hr (by intro z; cases z)), q⟩
theorem wVerd_good {H : Hp} {c : Addr} {lo : Nat} {ns : List Int} (h : H c = some (.tup (ns.map V.int))) (w : Wts lo ns) : wVerd lo H (.ref c) = none := by
  unfold wVerd
  rw [tupOf_ref h]
  refine verdict_good (by rw [List.length_map]; exact w.1) (by rw [List.length_map]; exact w.2.1) fun y hy => ?_
  obtain ⟨z, hz, rfl⟩ := List.mem_map.mp hy
  exact intIn_of (w.2.2 z hz).1 (w.2.2 z hz).2
/-- Sum(base, take, first, loop), of any values -/
def spSumI (T : Tx P K mg) : Sp := fun vs H Q E => ∃ (p dx : Addr) (x y u v : V), vs = [.ref p, x, y, u, v] ∧ H p = some (.ins T.C_Sum dx []) ∧ AnyV (OwnT T) H x ∧ AnyV (OwnT T) H y ∧ AnyV (OwnT T) H u ∧ AnyV (OwnT T) H v ∧ ItemsAny (OwnT T) H u ∧ ItemsAny (OwnT T) H v ∧
  (intIn x 2 16 = false → E (.ref T.C_BadBase) none H) ∧ (intIn x 2 16 = true → intIn y 1 2 = false → E (.ref T.C_BadTake) none H) ∧
  (intIn x 2 16 = true → intIn y 1 2 = true → ∀ w, wVerd 0 H u = some w → ∀ H2 d, Same H H2 → H2 d = none → E (.ref T.C_BadWeights) (some d) (upd H2 d (.xd [(("index" : Str), w)]))) ∧
  (intIn x 2 16 = true → intIn y 1 2 = true → wVerd 0 H u = none → ∀ w, wVerd 1 H v = some w → ∀ H2 d, Same H H2 → H2 d = none → E (.ref T.C_BadWeights) (some d) (upd H2 d (.xd [(("index" : Str), w)]))) ∧
  (intIn x 2 16 = true → intIn y 1 2 = true → wVerd 0 H u = none → wVerd 1 H v = none → ∀ H', H' p = some (.ins T.C_Sum dx (sfl x y u v)) → (∀ c o, H c = some o → c ≠ p → H' c = some o) → Q .non H')
theorem ok_Sum___init__ (T : Tx P K mg) : FnOk P w K mg base (L2.CX P w) lv_Sum___init__ T.a_Sum___init__ T.d_Sum___init__ ["self", "base", "take", "first", "loop"] (spSumI T) := by
  refine T.F_Sum___init__.okX sc_Sum___init__ (fun vs H Q E h => ?_) (fun cdv A outer s H vs Q E hr h => ?_)
  · obtain ⟨p, dx, x, y, u, v, rfl, _⟩ := h
    rfl
  · obtain ⟨p, dx, x, y, u, v, rfl, hp, ax, ay, au, av, iu, iv, e1, e2, e3, e4, k⟩ := h
    refine ⟨_, (pss_cons (ps_expr (pe_call (ok_check_base T) (hr.mono (by decide)) rfl T.g_check_base T.F_check_base.kp T.b_check_base .nil (passes_call (takes_of rfl rfl rfl rfl) fun _ _ _ _ h => h) (pa_cons (pv 1) pa_nil)))
      (pss_cons (ps_expr (pe_call (ok_check_take T) (hr.mono (by decide)) rfl T.g_check_take T.F_check_take.kp T.b_check_take .nil (passes_call (takes_of rfl rfl rfl rfl) fun _ _ _ _ h => h) (pa_cons (pv 2) pa_nil)))
      (pss_cons (ps_expr (pe_call (ok_check_weights T) (hr.mono (by decide)) rfl T.g_check_weights T.F_check_weights.kp T.b_check_weights .nil (passes_call (takes_of rfl rfl rfl rfl) fun _ _ _ _ h => h) (pa_cons (pv 3) (pa_cons pe_int pa_nil))))
      (pss_cons (ps_expr (pe_call (ok_check_weights T) (hr.mono (by decide)) rfl T.g_check_weights T.F_check_weights.kp T.b_check_weights .nil (passes_call (takes_of rfl rfl rfl rfl) fun _ _ _ _ h => h) (pa_cons (pv 4) (pa_cons pe_int pa_nil))))
      (pss_cons (ps_fld (pv 0) (pv 1) rfl)
      (pss_cons (ps_fld (pv 0) (pv 2) rfl)
      (pss_cons (ps_fld (pv 0) (pv 3) rfl)
      (pss_one (ps_fld (pv 0) (pv 4) rfl))))))))), ?_⟩
    refine ⟨_, rfl, x, rfl, ax, fun g1 => ?_, e1⟩
    refine ⟨_, rfl, y, rfl, ay, fun g2 => ?_, e2 g1⟩
    refine ⟨_, rfl, u, 0, rfl, au, iu, fun g3 H1 S1 => ?_, fun w hw => e3 g1 g2 w hw⟩
    have ev : wVerd 1 H1 v = wVerd 1 H v := by
      unfold wVerd
      rw [tupOf_same av S1]
    refine ⟨_, rfl, v, 1, rfl, av.mono S1, iv.same av S1, fun g4 H2 S2 => ?_, fun w hw H2 d S2 hd => e4 g1 g2 g3 w (ev ▸ hw) H2 d (S1.trans S2) hd⟩
    have S := S1.trans S2
    have hp2 := S _ _ hp
    refine ⟨_, rfl, _, rfl, p, _, dx, _, rfl, hp2, T.cl_Sum, T.na_Sum_base, (by show 0 < 1000; decide), ?_⟩
    refine ⟨_, rfl, _, rfl, p, _, dx, _, rfl, upd_same, T.cl_Sum, T.na_Sum_take, (by show 1 < 1000; decide), ?_⟩
    refine ⟨_, rfl, _, rfl, p, _, dx, _, rfl, upd_same, T.cl_Sum, T.na_Sum_first, (by show 2 < 1000; decide), ?_⟩
    refine ⟨_, rfl, _, rfl, p, _, dx, _, rfl, upd_same, T.cl_Sum, T.na_Sum_loop, (by show 3 < 1000; decide), ?_⟩
    refine k g1 g2 g3 (ev ▸ g4) _ upd_same fun c o e hc => ?_
    rw [upd_ne hc, upd_ne hc, upd_ne hc, upd_ne hc]
    exact S _ _ e
/-- a Sum of good parts is made -/
theorem mk_sum {T : Tx P K mg} {H1 : Hp} {p dx f l : Addr} {b t : Int} {fs ls : List Int} {R : Hp → Prop} {E : XK} (np : H1 p = none) (nd : H1 dx = none) (hf : H1 f = some (.tup (fs.map V.int))) (hl : H1 l = some (.tup (ls.map V.int))) (b1 : 2 ≤ b) (b2 : b ≤ 16) (t1 : 1 ≤ t) (t2 : t ≤ 2) (w1 : Wts 0 fs) (w2 : Wts 1 ls)
    (k : ∀ H2, SumAt T H2 p b t fs ls → Same H1 H2 → R H2) : spSumI T (.ref p :: ([.int b, .int t, .ref f, .ref l] ++ [])) (upd (upd H1 dx (.own p)) p (.ins T.C_Sum dx [])) (fun v H2 => v = .non ∧ R H2) E := by
  have S : Same H1 (upd (upd H1 dx (.own p)) p (.ins T.C_Sum dx [])) := fun c o e => by
    rw [upd_ne (ne_of_none e np), upd_ne (ne_of_none e nd)]
    exact e
  have hf2 := S _ _ hf
  have hl2 := S _ _ hl
  have nf : ∀ {v : V} {lo hi : Int} {G : Prop}, intIn v lo hi = true → intIn v lo hi = false → G := fun p q => Bool.noConfusion (p.symm.trans q)
  have g3 := wVerd_good hf2 w1
  have g4 := wVerd_good hl2 w2
  refine ⟨p, dx, .int b, .int t, .ref f, .ref l, rfl, upd_same, .int b, .int t, .tup hf2, .tup hl2, .ints hf2, .ints hl2, nf (intIn_of b1 b2), fun _ => nf (intIn_of t1 t2), fun _ _ w hw => ?_, fun _ _ _ w hw => ?_, fun _ _ _ _ H2 h2 kp => ⟨rfl, ?_⟩⟩
  · rw [g3] at hw
    cases hw
  · rw [g4] at hw
    cases hw
  · exact k H2 ⟨dx, f, l, h2, kp _ _ hf2 (ne_of_none hf np), kp _ _ hl2 (ne_of_none hl np), b1, b2, t1, t2, w1, w2⟩ (Same.made np nd kp)
/-! ### its parts -/
def spGetS (T : Tx P K mg) (g : V → V → V → V → V) : Sp := fun vs H Q _ => ∃ (p dx : Addr) (x y u v : V), vs = [.ref p] ∧ H p = some (.ins T.C_Sum dx (sfl x y u v)) ∧ Q (g x y u v) H
theorem ok_Sum_base (T : Tx P K mg) : FnOk P w K mg base CX0 lv_Sum_base T.a_Sum_base T.d_Sum_base ["self"] (spGetS T fun x _ _ _ => x) := by
  refine T.F_Sum_base.ok sc_Sum_base (fun vs H Q E h => ?_) (fun cdv A outer s H vs Q E hr h => ?_)
  · obtain ⟨p, dx, x, y, u, v, rfl, _⟩ := h
    rfl
  · obtain ⟨p, dx, x, y, u, v, rfl, e, k⟩ := h
    exact ⟨_, (pss_one (ps_ret (pe_fld (pv 0) rfl))), _, rfl, p, _, dx, _, _, rfl, e, T.cl_Sum, T.na_Sum_base, sfl_base x y u v, k⟩
theorem ok_Sum_take (T : Tx P K mg) : FnOk P w K mg base CX0 lv_Sum_take T.a_Sum_take T.d_Sum_take ["self"] (spGetS T fun _ y _ _ => y) := by
  refine T.F_Sum_take.ok sc_Sum_take (fun vs H Q E h => ?_) (fun cdv A outer s H vs Q E hr h => ?_)
  · obtain ⟨p, dx, x, y, u, v, rfl, _⟩ := h
    rfl
  · obtain ⟨p, dx, x, y, u, v, rfl, e, k⟩ := h
    exact ⟨_, (pss_one (ps_ret (pe_fld (pv 0) rfl))), _, rfl, p, _, dx, _, _, rfl, e, T.cl_Sum, T.na_Sum_take, sfl_take x y u v, k⟩
theorem ok_Sum_first (T : Tx P K mg) : FnOk P w K mg base CX0 lv_Sum_first T.a_Sum_first T.d_Sum_first ["self"] (spGetS T fun _ _ u _ => u) := by
  refine T.F_Sum_first.ok sc_Sum_first (fun vs H Q E h => ?_) (fun cdv A outer s H vs Q E hr h => ?_)
  · obtain ⟨p, dx, x, y, u, v, rfl, _⟩ := h
    rfl
  · obtain ⟨p, dx, x, y, u, v, rfl, e, k⟩ := h
    exact ⟨_, (pss_one (ps_ret (pe_fld (pv 0) rfl))), _, rfl, p, _, dx, _, _, rfl, e, T.cl_Sum, T.na_Sum_first, sfl_first x y u v, k⟩
theorem ok_Sum_loop (T : Tx P K mg) : FnOk P w K mg base CX0 lv_Sum_loop T.a_Sum_loop T.d_Sum_loop ["self"] (spGetS T fun _ _ _ v => v) := by
  refine T.F_Sum_loop.ok sc_Sum_loop (fun vs H Q E h => ?_) (fun cdv A outer s H vs Q E hr h => ?_)
  · obtain ⟨p, dx, x, y, u, v, rfl, _⟩ := h
    rfl
  · obtain ⟨p, dx, x, y, u, v, rfl, e, k⟩ := h
    exact ⟨_, (pss_one (ps_ret (pe_fld (pv 0) rfl))), _, rfl, p, _, dx, _, _, rfl, e, T.cl_Sum, T.na_Sum_loop, sfl_loop x y u v, k⟩
/-- what is a Sum, or the error -/
theorem isi_sum (T : Tx P K mg) {H : Hp} {x : V} (a : AnyV (fun _ => False) H x) : ∃ t, TyX K H x t ∧ PySem.W.kitOne K t (.ref T.C_Sum) = some false := by
  cases a with
  | non => exact ⟨_, .base .non, T.kin_Sum_NoneType⟩
  | bl b => exact ⟨_, .base (.bl b), T.kin_Sum_bool⟩
  | int i => exact ⟨_, .base (.int i), T.kin_Sum_int⟩
  | str x => exact ⟨_, .base (.str x), T.kin_Sum_str⟩
  | lst e => exact ⟨_, .base (.lst e), T.kin_Sum_list⟩
  | tup e => exact ⟨_, .base (.tup e), T.kin_Sum_tuple⟩
  | dct e => exact ⟨_, .base (.dK e), T.kin_Sum_dict⟩
  | ins t e => exact t.elim
def spChkSum (T : Tx P K mg) : Sp := fun vs H Q E => ∃ x : V, vs = [x] ∧ ((∃ p dx fs, x = .ref p ∧ H p = some (.ins T.C_Sum dx fs) ∧ Q .non H) ∨ (AnyV (fun _ => False) H x ∧ E (.ref T.C_BadSum) none H))
theorem ok_check_sum (T : Tx P K mg) : FnOk P w K mg base (L2.CX P w) lv_check_sum T.a_check_sum T.d_check_sum ["told"] (spChkSum T) := by
  refine T.F_check_sum.okX sc_check_sum (fun vs H Q E h => ?_) (fun cdv A outer s H vs Q E hr h => ?_)
  · obtain ⟨x, rfl, _⟩ := h
    rfl
  · obtain ⟨x, rfl, h⟩ := h
    refine ⟨_, (pss_one (ps_if (pt_not (pt_val (pe_callB call_isi (by rfl) T.n_isinstance (by decide +kernel) (pa_cons (pv 0) (pa_cons (pe_glob (v := .ref T.C_Sum) rfl T.g_Sum rfl) pa_nil))))) (pss_one (ps_raise rfl (takes_of rfl rfl rfl rfl) (pmk_own PySem.F.excBase_ValueError T.x_BadSum T.g_BadSum T.k_BadSum (raises_own T.s_BadSum T.t_BadSum) rfl))) pss_nil)), ?_⟩
    rcases h with ⟨p, dx, fs, rfl, e, k⟩ | ⟨a, k⟩
    · exact ⟨_, rfl, _, _, _, _, _, rfl, .own _, .base (T.ins_Sum _ _ _ _ e), T.kis_Sum, _, rfl, iteF k⟩
    · obtain ⟨t, ty, e⟩ := isi_sum T a
      exact ⟨_, rfl, _, _, _, _, _, rfl, .own _, ty, e, _, rfl, iteT k⟩

/-! ### values that are no numbers, refused -/
def refN (T : Tx P K mg) (E : XK) (H : Hp) (y : V) : Prop := ∀ H2 d, Same H H2 → H2 d = none → E (.ref T.C_BadNumber) (some d) (upd H2 d (.xd [(("n" : Str), y)]))
def spTN2 (T : Tx P K mg) : Sp := fun vs H Q E => ∃ (p dx : Addr) (fs : List (Str × V)) (y : V), vs = [.ref p, y] ∧ H p = some (.ins T.C_Trick dx fs) ∧ AnyV (OwnT T) H y ∧ intIn y (-(10 ^ 40)) (10 ^ 40) = false ∧ refN T E H y
def spTN3 (T : Tx P K mg) (hi : Int) : Sp := fun vs H Q E => ∃ (p dx : Addr) (fs : List (Str × V)) (y z : V), vs = [.ref p, y, z] ∧ H p = some (.ins T.C_Trick dx fs) ∧ AnyV (OwnT T) H y ∧
  ((intIn y (-(10 ^ 40)) (10 ^ 40) = false ∧ refN T E H y) ∨ (intIn y (-(10 ^ 40)) (10 ^ 40) = true ∧ AnyV (OwnT T) H z ∧ intIn z 0 hi = false ∧ refN T E H z))
theorem nf {b : Bool} {G : Prop} (p : b = true) (q : b = false) : G := Bool.noConfusion (p.symm.trans q)
theorem ok_ring_of (T : Tx P K mg) : FnOk P w K mg base (L2.CX P w) lv_ring_of T.a_ring_of T.d_ring_of ["trick", "n"] (spTN2 T) := by
  refine T.F_ring_of.okX sc_ring_of (fun vs H Q E h => ?_) (fun cdv A outer s H vs Q E hr h => ?_)
  · obtain ⟨p, dx, fs, y, rfl, _⟩ := h
    rfl
  · obtain ⟨p, dx, fs, y, rfl, hp, a, g, k⟩ := h
    refine ⟨_, (pss_cons (ps_expr (pe_call (ok_check_trick T) (hr.mono (by decide)) rfl T.g_check_trick T.F_check_trick.kp T.b_check_trick .nil (passes_call (takes_of rfl rfl rfl rfl) fun _ _ _ _ h => h) (pa_cons (pv 0) pa_nil)))
      (pss_cons (ps_expr (pe_call (ok_check_number T) (hr.mono (by decide)) rfl T.g_check_number T.F_check_number.kp T.b_check_number .nil (passes_call (takes_of rfl rfl rfl rfl) fun _ _ _ _ h => h) (pa_cons (pv 1) pa_nil)))
      pss_nev)), ?_⟩
    exact ⟨_, rfl, _, rfl, .inl ⟨p, dx, fs, rfl, hp, _, rfl, y, rfl, a, fun z => nf z g, fun _ d hd => k H d (Same.refl H) hd⟩⟩
theorem ok_ahead (T : Tx P K mg) : FnOk P w K mg base (L2.CX P w) lv_ahead T.a_ahead T.d_ahead ["trick", "n"] (spTN2 T) := by
  refine T.F_ahead.okX sc_ahead (fun vs H Q E h => ?_) (fun cdv A outer s H vs Q E hr h => ?_)
  · obtain ⟨p, dx, fs, y, rfl, _⟩ := h
    rfl
  · obtain ⟨p, dx, fs, y, rfl, hp, a, g, k⟩ := h
    refine ⟨_, (pss_cons (ps_expr (pe_call (ok_check_trick T) (hr.mono (by decide)) rfl T.g_check_trick T.F_check_trick.kp T.b_check_trick .nil (passes_call (takes_of rfl rfl rfl rfl) fun _ _ _ _ h => h) (pa_cons (pv 0) pa_nil)))
      (pss_cons (ps_expr (pe_call (ok_check_number T) (hr.mono (by decide)) rfl T.g_check_number T.F_check_number.kp T.b_check_number .nil (passes_call (takes_of rfl rfl rfl rfl) fun _ _ _ _ h => h) (pa_cons (pv 1) pa_nil)))
      pss_nev)), ?_⟩
    exact ⟨_, rfl, _, rfl, .inl ⟨p, dx, fs, rfl, hp, _, rfl, y, rfl, a, fun z => nf z g, fun _ d hd => k H d (Same.refl H) hd⟩⟩
theorem ok_done (T : Tx P K mg) : FnOk P w K mg base (L2.CX P w) lv_done T.a_done T.d_done ["trick", "n"] (spTN2 T) := by
  refine T.F_done.okX sc_done (fun vs H Q E h => ?_) (fun cdv A outer s H vs Q E hr h => ?_)
  · obtain ⟨p, dx, fs, y, rfl, _⟩ := h
    rfl
  · obtain ⟨p, dx, fs, y, rfl, hp, a, g, k⟩ := h
    refine ⟨_, (pss_cons (ps_expr (pe_call (ok_check_trick T) (hr.mono (by decide)) rfl T.g_check_trick T.F_check_trick.kp T.b_check_trick .nil (passes_call (takes_of rfl rfl rfl rfl) fun _ _ _ _ h => h) (pa_cons (pv 0) pa_nil)))
      (pss_cons (ps_expr (pe_call (ok_check_number T) (hr.mono (by decide)) rfl T.g_check_number T.F_check_number.kp T.b_check_number .nil (passes_call (takes_of rfl rfl rfl rfl) fun _ _ _ _ h => h) (pa_cons (pv 1) pa_nil)))
      pss_nev)), ?_⟩
    exact ⟨_, rfl, _, rfl, .inl ⟨p, dx, fs, rfl, hp, _, rfl, y, rfl, a, fun z => nf z g, fun _ d hd => k H d (Same.refl H) hd⟩⟩
theorem ok_rounds (T : Tx P K mg) : FnOk P w K mg base (L2.CX P w) lv_rounds T.a_rounds T.d_rounds ["trick", "n", "low"] (spTN3 T (10 ^ 40)) := by
  refine T.F_rounds.okX sc_rounds (fun vs H Q E h => ?_) (fun cdv A outer s H vs Q E hr h => ?_)
  · obtain ⟨p, dx, fs, y, z, rfl, _⟩ := h
    rfl
  · obtain ⟨p, dx, fs, y, z, rfl, hp, a, h⟩ := h
    refine ⟨_, (pss_cons (ps_expr (pe_call (ok_check_trick T) (hr.mono (by decide)) rfl T.g_check_trick T.F_check_trick.kp T.b_check_trick .nil (passes_call (takes_of rfl rfl rfl rfl) fun _ _ _ _ h => h) (pa_cons (pv 0) pa_nil)))
      (pss_cons (ps_expr (pe_call (ok_check_number T) (hr.mono (by decide)) rfl T.g_check_number T.F_check_number.kp T.b_check_number .nil (passes_call (takes_of rfl rfl rfl rfl) fun _ _ _ _ h => h) (pa_cons (pv 1) pa_nil)))
      (pss_cons (ps_expr (pe_call (ok_check_stretch T) (hr.mono (by decide)) rfl T.g_check_stretch T.F_check_stretch.kp T.b_check_stretch .nil (passes_call (takes_of rfl rfl rfl rfl) fun _ _ _ _ h => h) (pa_cons (pv 2) (pa_cons pe_int (pa_cons (pe_glob (v := .int 10000000000000000000000000000000000000000) rfl T.c_GREATEST_NUMBER ⟨_, rfl⟩) pa_nil)))))
      pss_nev))), ?_⟩
    refine ⟨_, rfl, _, rfl, .inl ⟨p, dx, fs, rfl, hp, _, rfl, y, rfl, a, fun g => ?_, fun g d hd => ?_⟩⟩
    · rcases h with ⟨g2, k⟩ | ⟨g2, az, gz, k⟩
      · exact nf g g2
      · exact ⟨_, rfl, z, 0, 10 ^ 40, rfl, az, fun g3 => nf g3 gz, fun _ d hd => k H d (Same.refl H) hd⟩
    · rcases h with ⟨g2, k⟩ | ⟨g2, az, gz, k⟩
      · exact k H d (Same.refl H) hd
      · exact nf g2 g
theorem ok_trail (T : Tx P K mg) : FnOk P w K mg base (L2.CX P w) lv_trail T.a_trail T.d_trail ["trick", "n", "rounds"] (spTN3 T (200)) := by
  refine T.F_trail.okX sc_trail (fun vs H Q E h => ?_) (fun cdv A outer s H vs Q E hr h => ?_)
  · obtain ⟨p, dx, fs, y, z, rfl, _⟩ := h
    rfl
  · obtain ⟨p, dx, fs, y, z, rfl, hp, a, h⟩ := h
    refine ⟨_, (pss_cons (ps_expr (pe_call (ok_check_trick T) (hr.mono (by decide)) rfl T.g_check_trick T.F_check_trick.kp T.b_check_trick .nil (passes_call (takes_of rfl rfl rfl rfl) fun _ _ _ _ h => h) (pa_cons (pv 0) pa_nil)))
      (pss_cons (ps_expr (pe_call (ok_check_number T) (hr.mono (by decide)) rfl T.g_check_number T.F_check_number.kp T.b_check_number .nil (passes_call (takes_of rfl rfl rfl rfl) fun _ _ _ _ h => h) (pa_cons (pv 1) pa_nil)))
      (pss_cons (ps_expr (pe_call (ok_check_stretch T) (hr.mono (by decide)) rfl T.g_check_stretch T.F_check_stretch.kp T.b_check_stretch .nil (passes_call (takes_of rfl rfl rfl rfl) fun _ _ _ _ h => h) (pa_cons (pv 2) (pa_cons pe_int (pa_cons (pe_glob (v := .int 200) rfl T.c_MOST_ROUNDS ⟨_, rfl⟩) pa_nil)))))
      pss_nev))), ?_⟩
    refine ⟨_, rfl, _, rfl, .inl ⟨p, dx, fs, rfl, hp, _, rfl, y, rfl, a, fun g => ?_, fun g d hd => ?_⟩⟩
    · rcases h with ⟨g2, k⟩ | ⟨g2, az, gz, k⟩
      · exact nf g g2
      · exact ⟨_, rfl, z, 0, 200, rfl, az, fun g3 => nf g3 gz, fun _ d hd => k H d (Same.refl H) hd⟩
    · rcases h with ⟨g2, k⟩ | ⟨g2, az, gz, k⟩
      · exact k H d (Same.refl H) hd
      · exact nf g2 g
theorem ok_Reckoner___init__ (T : Tx P K mg) : FnOk P w K mg base (L2.CX P w) lv_Reckoner___init__ T.a_Reckoner___init__ T.d_Reckoner___init__ ["self", "n"] (fun vs H Q E => ∃ (p dx : Addr) (y : V), vs = [.ref p, y] ∧ H p = some (.ins T.C_Reckoner dx []) ∧ AnyV (OwnT T) H y ∧ intIn y (-(10 ^ 40)) (10 ^ 40) = false ∧ refN T E H y) := by
  refine T.F_Reckoner___init__.okX sc_Reckoner___init__ (fun vs H Q E h => ?_) (fun cdv A outer s H vs Q E hr h => ?_)
  · obtain ⟨p, dx, y, rfl, _⟩ := h
    rfl
  · obtain ⟨p, dx, y, rfl, hp, a, g, k⟩ := h
    refine ⟨_, (pss_cons (ps_expr (pe_call (ok_check_number T) (hr.mono (by decide)) rfl T.g_check_number T.F_check_number.kp T.b_check_number .nil (passes_call (takes_of rfl rfl rfl rfl) fun _ _ _ _ h => h) (pa_cons (pv 1) pa_nil)))
      pss_nev), ?_⟩
    exact ⟨_, rfl, y, rfl, a, fun z => nf z g, fun _ d hd => k H d (Same.refl H) hd⟩
abbrev sp_Sum___init__ (T : Tx P K mg) : Sp := spSumI T
def sp_total (T : Tx P K mg) : Sp := fun vs H Q E => ∃ (p dx : Addr) (fs : List (Str × V)) (y : V), vs = [.ref p, y] ∧ H p = some (.ins T.C_Sum dx fs) ∧ AnyV (OwnT T) H y ∧ intIn y 0 (10 ^ 40) = false ∧ refN T E H y
theorem ok_total (T : Tx P K mg) : FnOk P w K mg base (L2.CX P w) lv_total T.a_total T.d_total ["told", "n"] (sp_total T) := by
  refine T.F_total.okX sc_total (fun vs H Q E h => ?_) (fun cdv A outer s H vs Q E hr h => ?_)
  · obtain ⟨p, dx, fs, y, rfl, _⟩ := h
    rfl
  · obtain ⟨p, dx, fs, y, rfl, hp, a, g, k⟩ := h
    refine ⟨_, (pss_cons (ps_expr (pe_call (ok_check_sum T) (hr.mono (by decide)) rfl T.g_check_sum T.F_check_sum.kp T.b_check_sum .nil (passes_call (takes_of rfl rfl rfl rfl) fun _ _ _ _ h => h) (pa_cons (pv 0) pa_nil)))
      (pss_cons (ps_expr (pe_call (ok_check_stretch T) (hr.mono (by decide)) rfl T.g_check_stretch T.F_check_stretch.kp T.b_check_stretch .nil (passes_call (takes_of rfl rfl rfl rfl) fun _ _ _ _ h => h) (pa_cons (pv 1) (pa_cons pe_int (pa_cons (pe_glob (v := .int 10000000000000000000000000000000000000000) rfl T.c_GREATEST_NUMBER ⟨_, rfl⟩) pa_nil)))))
      pss_nev)), ?_⟩
    exact ⟨_, rfl, _, rfl, .inl ⟨p, dx, fs, rfl, hp, _, rfl, y, 0, 10 ^ 40, rfl, a, fun z => nf z g, fun _ d hd => k H d (Same.refl H) hd⟩⟩
theorem ok_chained (T : Tx P K mg) : FnOk P w K mg base (L2.CX P w) lv_chained T.a_chained T.d_chained ["tricks", "n"] (fun vs H Q E => ∃ (c : Addr) (ys : List V) (y : V), vs = [.ref c, y] ∧ SqA H c ys ∧ 1 ≤ ys.length ∧ ys.length ≤ 4 ∧ (∀ z ∈ ys, isT T H z) ∧ AnyV (OwnT T) H y ∧ intIn y (-(10 ^ 40)) (10 ^ 40) = false ∧ refN T E H y) := by
  refine T.F_chained.okX sc_chained (fun vs H Q E h => ?_) (fun cdv A outer s H vs Q E hr h => ?_)
  · obtain ⟨c, ys, y, rfl, _⟩ := h
    rfl
  · obtain ⟨c, ys, y, rfl, hc, l1, l2, ht, a, g, k⟩ := h
    refine ⟨_, (pss_cons (ps_expr (pe_call (ok_check_tricks T) (hr.mono (by decide)) rfl T.g_check_tricks T.F_check_tricks.kp T.b_check_tricks .nil (passes_call (takes_of rfl rfl rfl rfl) fun _ _ _ _ h => h) (pa_cons (pv 0) pa_nil)))
      (pss_cons (ps_expr (pe_call (ok_check_number T) (hr.mono (by decide)) rfl T.g_check_number T.F_check_number.kp T.b_check_number .nil (passes_call (takes_of rfl rfl rfl rfl) fun _ _ _ _ h => h) (pa_cons (pv 1) pa_nil)))
      pss_nev)), ?_⟩
    refine ⟨_, rfl, _, rfl, .inr ⟨c, ys, ys.length, rfl, hc, l1, l2, Nat.le_refl _, fun j z _ hz => ht z (List.mem_of_getElem? hz), fun z => by omega, fun _ H2 S2 => ?_⟩⟩
    exact ⟨_, rfl, y, rfl, a.mono S2, fun z => nf z g, fun _ d hd => k H2 d S2 hd⟩

/-! ### the law's draws: what is drawn lies in its range; nothing but the row of the draws changes -/
theorem fmod_bd (x : Int) {m : Int} (h : 0 < m) : 0 ≤ x.fmod m ∧ x.fmod m < m := by
  rw [Int.fmod_eq_emod_of_nonneg x (by omega)]
  exact ⟨Int.emod_nonneg x (by omega), Int.emod_lt_of_pos x h⟩
abbrev rowL (a : Addr) (i s c : Int) : List V := [.ref a, .int i, .int s, .int c]
/-- the script at a: locked, or of the top's own -/
def Scr (K : PySem.W.Frag) (H : Hp) (a : Addr) (xs : List V) : Prop := (∃ o, H a = some (.frz o (.lst xs))) ∨ SqL K (fun _ => none) a xs
theorem scr_of {H : Hp} {a : Addr} {xs : List V} (hO : ∀ b, H b = none ∨ ∃ o xs, H b = some (.frz o (.lst xs))) (h : SqL K H a xs) : Scr K H a xs := by
  rcases h with (h | h) | h
  · rcases hO a with z | ⟨o, ys, z⟩
    · rw [z] at h; cases h
    · rw [z] at h; cases h
  · exact .inl h
  · exact .inr (.inr h)
theorem Scr.seq {H : Hp} {a : Addr} {xs : List V} (h : Scr K H a xs) : SqL K H a xs := by
  rcases h with h | (h | ⟨o, h⟩) | h
  · exact .inl (.inr h)
  · cases h
  · cases h
  · exact .inr h
theorem Scr.mono {H H' : Hp} {a : Addr} {xs : List V} (h : Scr K H a xs) (k : ∀ b o u, H b = some (.frz o u) → H' b = some (.frz o u)) : Scr K H' a xs := by
  rcases h with ⟨o, h⟩ | h
  · exact .inl ⟨o, k _ _ _ h⟩
  · exact .inr h
/-- at r the row of the draws over the script at a -/
def RowAt (K : PySem.W.Frag) (H : Hp) (r a : Addr) (ns : List Int) : Prop := ∃ i s c : Int, H r = some (.lst (rowL a i s c)) ∧ 0 ≤ i ∧ 0 ≤ c ∧ Scr K H a (ns.map V.int) ∧ ns.length ≤ 63
theorem RowAt.same {H H' : Hp} {r a : Addr} {ns : List Int} (h : RowAt K H r a ns) (e : Same H H') : RowAt K H' r a ns :=
  let ⟨i, s, c, h1, h2, h3, h4, h5⟩ := h
  ⟨i, s, c, e _ _ h1, h2, h3, h4.mono fun _ _ _ z => e _ _ z, h5⟩
/-- another list is changed -/
theorem RowAt.put {H : Hp} {r a q : Addr} {ns : List Int} {ys : List V} {o : HO} (h : RowAt K H r a ns) (hq : H q = some (.lst ys)) (n : q ≠ r) : RowAt K (upd H q o) r a ns :=
  let ⟨i, s, c, h1, h2, h3, h4, h5⟩ := h
  ⟨i, s, c, by rw [upd_ne (Ne.symm n)]; exact h1, h2, h3, h4.mono fun b o' u z => by rw [upd_ne (ne_of z hq (by intro y; cases y))]; exact z, h5⟩
/-- the row as the law lays it -/
theorem RowAt.start {H : Hp} {r a : Addr} {ns : List Int} {i s c : Int} (hr : H r = none) (hS : Scr K H a (ns.map V.int)) (hl : ns.length ≤ 63) (hi : 0 ≤ i) (hc : 0 ≤ c) : RowAt K (upd H r (.lst (rowL a i s c))) r a ns :=
  ⟨i, s, c, upd_same, hi, hc, hS.mono fun b o u z => by rw [upd_ne (ne_of_none z hr)]; exact z, hl⟩
def spTaken (K : PySem.W.Frag) : Sp := fun vs H Q _ => ∃ (r a : Addr) (ns : List Int) (m : Int), vs = [.ref r, .int m] ∧ 0 < m ∧ m ≤ 10 ^ 41 ∧ RowAt K H r a ns ∧
  ∀ (v : Int) (H' : Hp), 0 ≤ v → v < m → RowAt K H' r a ns → But r H H' → Q (.int v) H'
theorem ok__law_taken (T : Tx P K mg) : FnOk P w K mg base CX0 lv__law_taken T.a__law_taken T.d__law_taken ["_law_row", "_law_many"] (spTaken K) := by
  refine T.F__law_taken.ok sc__law_taken (fun vs H Q E h => ?_) (fun cdv A outer s H vs Q E hr h => ?_)
  · obtain ⟨r, a, ns, m, rfl, _⟩ := h
    rfl
  · obtain ⟨r, a, ns, m, rfl, m0, m1, ⟨i, s, c, hR, i0, c0, hK, hlen⟩, k⟩ := h
    have hKB : ∀ H', But r H H' → Scr K H' a (ns.map V.int) := fun H' b => hK.mono fun c o u z => b c _ z (ne_of z hR (by intro y; cases y))
    have hdv : ∀ x : Int, CDivW x m := fun x => wide_div m0 (b := 140) (by omega) (by decide) (by decide)
    have back : ∀ (v : Int) (i' s' c' : Int) (H' : Hp), 0 ≤ v → v < m → 0 ≤ i' → 0 ≤ c' → H' r = some (.lst (rowL a i' s' c')) → But r H H' → Q (.int v) H' := fun v i' s' c' H' v0 v1 z1 z2 e b =>
      k v H' v0 v1 ⟨i', s', c', e, z1, z2, hKB _ b, hlen⟩ b
    refine ⟨_, (pss_cons (ps_if (pt_cmpR op_gt (pe_ix ix_list (pv 0) pe_int (fun _ _ => rfl)) pe_int (nomark _)) (pss_cons (ps_set (i := 2) sc__law_taken.nd rfl (Or.inl rfl) (pe_op op_modN (pe_callTy call_int1 (by rfl) T.n_int (by decide +kernel) (pa_cons (pe_ix ix_list (pv 0) pe_int (fun _ _ => rfl)) pa_nil)) (pv 1)))
      (pss_cons (ps_asg (pe_op op_fdivW (pe_ix ix_list (pv 0) pe_int (fun _ _ => rfl)) (pv 1)) (pg_sub (pv 0) pe_int set_list))
      (pss_one (ps_ret (pv 2))))) pss_nil)
      (pss_cons (ps_asg (pe_op op_add (pe_ix ix_list (pv 0) pe_int (fun _ _ => rfl)) pe_int) (pg_sub (pv 0) pe_int set_list))
      (pss_cons (ps_if (pt_cmpR op_gt (pe_ix ix_list (pv 0) pe_int (fun _ _ => rfl)) (pe_callB call_len_seq (by rfl) T.n_len (by decide +kernel) (pa_cons (pe_ix ix_list (pv 0) pe_int (fun _ _ => rfl)) pa_nil)) (nomark _)) (pss_cons (ps_asg (pe_op op_modN (pe_callTy call_int1 (by rfl) T.n_int (by decide +kernel) (pa_cons (pe_op op_add (pe_op op_mul (pe_ix ix_list (pv 0) pe_int (fun _ _ => rfl)) pe_int) pe_int) pa_nil)) pe_int) (pg_sub (pv 0) pe_int set_list))
      (pss_one (ps_ret (pe_op op_modN (pe_callTy call_int1 (by rfl) T.n_int (by decide +kernel) (pa_cons (pe_op op_fdivW (pe_ix ix_list (pv 0) pe_int (fun _ _ => rfl)) pe_int) pa_nil)) (pv 1))))) pss_nil)
      (pss_cons (ps_set (i := 3) sc__law_taken.nd rfl (Or.inl rfl) (pe_ix ix_list (pe_ix ix_list (pv 0) pe_int (fun _ _ => rfl)) (pe_op op_sub (pe_ix ix_list (pv 0) pe_int (fun _ _ => rfl)) pe_int) (fun _ _ => rfl)))
      (pss_cons (ps_asg (pe_op op_modN (pe_callTy call_int1 (by rfl) T.n_int (by decide +kernel) (pa_cons (pe_op op_add (pe_op op_add (pe_op op_mul (pe_ix ix_list (pv 0) pe_int (fun _ _ => rfl)) pe_int) (pv 3)) pe_int) pa_nil)) pe_int) (pg_sub (pv 0) pe_int set_list))
      (pss_cons (ps_if (pt_cmpR op_ge (pv 3) (pe_op op_pow pe_int pe_int) (nomark _)) (pss_one (ps_asg (pe_op op_fdivW (pv 3) (pv 1)) (pg_sub (pv 0) pe_int set_list))) pss_nil)
      (pss_one (ps_ret (pe_op op_modN (pe_callTy call_int1 (by rfl) T.n_int (by decide +kernel) (pa_cons (pv 3) pa_nil)) (pv 1)))))))))), ?_⟩
    refine ⟨_, rfl, r, _, _, _, rfl, rfl, SqL.of hR, rfl, _, _, rfl, rfl, _, rfl, ?_⟩
    refine ite2 (fun g => ?_) (fun g => ?_)
    · -- a great cell's digits
      obtain ⟨v0, v1⟩ := fmod_bd c m0
      refine ⟨_, rfl, r, _, _, _, rfl, rfl, SqL.of hR, rfl, .inl ⟨_, rfl, _, rfl, _, _, rfl, rfl, by omega, ?_⟩⟩
      refine ⟨_, rfl, r, _, _, _, rfl, rfl, SqL.of hR, rfl, _, rfl, _, _, rfl, rfl, hdv c, _, rfl, r, _, _, _, rfl, rfl, hR, rfl, ?_⟩
      exact ⟨_, rfl, back _ i s (c / m) _ v0 v1 i0 (Int.ediv_nonneg c0 (by omega)) upd_same But.put⟩
    · refine ⟨_, rfl, r, _, _, _, rfl, rfl, SqL.of hR, rfl, _, _, rfl, rfl, _, rfl, r, _, _, _, rfl, rfl, hR, rfl, ?_⟩
      -- behind the script's end?
      have hR1 : upd H r (.lst (rowL a (i + 1) s c)) r = some (.lst (rowL a (i + 1) s c)) := upd_same
      have hB1 : But r H (upd H r (.lst (rowL a (i + 1) s c))) := But.put
      have hS1 : SqL K (upd H r (.lst (rowL a (i + 1) s c))) a (ns.map V.int) := (hKB _ hB1).seq
      refine ⟨_, rfl, r, _, _, _, rfl, rfl, SqL.of hR1, rfl, _, rfl, r, _, _, _, rfl, rfl, SqL.of hR1, rfl, a, _, rfl, .inl hS1, _, _, rfl, rfl, _, rfl, ?_⟩
      refine ite2 (fun g2 => ?_) (fun g2 => ?_)
      · refine ⟨_, rfl, r, _, _, _, rfl, rfl, SqL.of hR1, rfl, _, _, rfl, rfl, .inr ⟨by decide, by decide⟩, _, _, rfl, rfl, .inl ⟨_, rfl, _, _, rfl, rfl, (show (2147483647 : Int) ≠ 0 by decide), ?_⟩⟩
        refine ⟨_, rfl, r, _, _, _, rfl, rfl, hR1, rfl, ?_⟩
        refine ⟨_, rfl, r, _, _, _, rfl, rfl, SqL.of upd_same, rfl, _, _, rfl, rfl, wide_div (by decide) (b := 3) (by decide) (by decide) (by decide), .inl ⟨_, rfl, _, rfl, _, _, rfl, rfl, by omega, ?_⟩⟩
        obtain ⟨v0, v1⟩ := fmod_bd ((s * 48271 + 11).fmod 2147483647 / 7) m0
        exact back _ (i + 1) _ c _ v0 v1 (by omega) c0 upd_same (hB1.trans But.put)
      · have g3 : i + 1 ≤ (ns.length : Int) := by
          simp only [decide_eq_true_eq, List.length_map] at g2
          omega
        obtain ⟨z, hz⟩ : ∃ z, ns[i.toNat]? = some z := ⟨ns[i.toNat]'(by omega), List.getElem?_eq_getElem (by omega)⟩
        have hz1 : atI (ns.map V.int) (i + 1 - 1) = some (V.int z) := at_of (j := i.toNat) (by omega) (by rw [List.getElem?_map, hz]; rfl)
        refine ⟨_, rfl, r, _, _, _, rfl, rfl, SqL.of hR1, rfl, _, rfl, r, _, _, _, rfl, rfl, SqL.of hR1, rfl, _, _, rfl, rfl, a, _, _, _, rfl, rfl, hS1, hz1, ?_⟩
        refine ⟨_, rfl, r, _, _, _, rfl, rfl, SqL.of hR1, rfl, _, _, rfl, rfl, .inr ⟨by decide, by decide⟩, _, rfl, _, _, rfl, rfl, _, _, rfl, rfl, .inl ⟨_, rfl, _, _, rfl, rfl, (show (2147483647 : Int) ≠ 0 by decide), ?_⟩⟩
        refine ⟨_, rfl, r, _, _, _, rfl, rfl, hR1, rfl, ?_⟩
        have hR2 : upd (upd H r (.lst (rowL a (i + 1) s c))) r (.lst (rowL a (i + 1) ((s * 48271 + z + 11).fmod 2147483647) c)) r = some (.lst (rowL a (i + 1) ((s * 48271 + z + 11).fmod 2147483647) c)) := upd_same
        have hB2 : But r H (upd (upd H r (.lst (rowL a (i + 1) s c))) r (.lst (rowL a (i + 1) ((s * 48271 + z + 11).fmod 2147483647) c))) := hB1.trans But.put
        obtain ⟨v0, v1⟩ := fmod_bd z m0
        refine ⟨_, rfl, _, _, rfl, rfl, ⟨by decide, by decide, by decide⟩, _, _, rfl, rfl, _, rfl, ?_⟩
        refine ite2 (fun g4 => ?_) (fun g4 => ?_)
        · refine ⟨_, rfl, _, rfl, _, _, rfl, rfl, hdv z, _, rfl, r, _, _, _, rfl, rfl, hR2, rfl, ?_⟩
          have z0 : 0 ≤ z := by
            have g5 : (10 : Int) ^ 18 ≤ z := by simpa using g4
            exact Int.le_trans (by decide) g5
          refine ⟨_, rfl, .inl ⟨_, rfl, _, rfl, _, _, rfl, rfl, by omega, ?_⟩⟩
          exact back _ (i + 1) _ (z / m) _ v0 v1 (by omega) (Int.ediv_nonneg z0 (by omega)) upd_same (hB2.trans But.put)
        · refine ⟨_, rfl, .inl ⟨_, rfl, _, rfl, _, _, rfl, rfl, by omega, ?_⟩⟩
          exact back _ (i + 1) _ c _ v0 v1 (by omega) c0 hR2 hB2

/-! ### a menu: an item of a written list at a drawn place -/
theorem RowAt.new {H : Hp} {r a p : Addr} {ns : List Int} {o : HO} (h : RowAt K H r a ns) (hp : H p = none) : RowAt K (upd H p o) r a ns := h.same (same_upd hp)
theorem RowAt.ne {H : Hp} {r a p : Addr} {ns : List Int} (h : RowAt K H r a ns) (hp : H p = none) : p ≠ r :=
  let ⟨_, _, _, h1, _⟩ := h
  (ne_of_none h1 hp).symm
theorem But.new {H H1 : Hp} {r p : Addr} {o : HO} (b : But r H H1) (hp : H1 p = none) : But r H (upd H1 p o) := b.trans (Same.but (same_upd hp))
theorem But.free {H H1 : Hp} {r p : Addr} (b : But r H H1) (n : p ≠ r) (hp : H1 p = none) : H p = none := by
  cases q : H p with
  | none => rfl
  | some o =>
    rw [b p o q n] at hp
    cases hp
/-- an item of the list laid at p, at a place that is drawn -/
theorem menu {H1 : Hp} {r a p : Addr} {ns items : List Int} {m : Int} (Pr : Int → Prop) (hP : ∀ z ∈ items, Pr z) (hl : (items.length : Int) = m) (R1 : RowAt K H1 r a ns) (hp : H1 p = none) {Q : VK}
    (k : ∀ (z : Int) (H2 : Hp), Pr z → RowAt K H2 r a ns → But r H1 H2 → H2 p = some (.lst (items.map V.int)) → Q (.int z) H2) (h0 : 0 < m) (h1 : m ≤ 10 ^ 41) :
    spTaken K ([.ref r, .int m] ++ []) (upd H1 p (.lst (items.map V.int))) (fun y H2 => rIxL K (.ref p) y H2 Q) E0 := by
  refine ⟨r, a, ns, m, rfl, h0, h1, R1.new hp, fun w H2 w0 w1 R2 B2 => ?_⟩
  obtain ⟨z, hz, he⟩ := at_some Pr hP w0 (by omega)
  have npr := R1.ne hp
  exact ⟨p, _, _, _, rfl, rfl, SqL.of (B2 _ _ upd_same npr), he, k z H2 hz R2 ((Same.but (same_upd hp)).trans B2) (B2 _ _ upd_same npr)⟩
theorem at_someV (Pr : V → Prop) {xs : List V} (h : ∀ z ∈ xs, Pr z) {i : Int} (h0 : 0 ≤ i) (h1 : i < xs.length) : ∃ z, Pr z ∧ atI xs i = some z := by
  obtain ⟨z, hz⟩ : ∃ z, xs[i.toNat]? = some z := ⟨xs[i.toNat]'(by omega), List.getElem?_eq_getElem (by omega)⟩
  exact ⟨z, h z (List.mem_of_getElem? hz), at_of (j := i.toNat) (by omega) hz⟩
theorem menuV {H1 : Hp} {r a p : Addr} {ns : List Int} {items : List V} {m : Int} (Pr : V → Prop) (hP : ∀ z ∈ items, Pr z) (hl : (items.length : Int) = m) (R1 : RowAt K H1 r a ns) (hp : H1 p = none) {Q : VK}
    (k : ∀ (z : V) (H2 : Hp), Pr z → RowAt K H2 r a ns → But r H1 H2 → H2 p = some (.lst items) → Q z H2) (h0 : 0 < m) (h1 : m ≤ 10 ^ 41) :
    spTaken K ([.ref r, .int m] ++ []) (upd H1 p (.lst items)) (fun y H2 => rIxL K (.ref p) y H2 Q) E0 := by
  refine ⟨r, a, ns, m, rfl, h0, h1, R1.new hp, fun w H2 w0 w1 R2 B2 => ?_⟩
  obtain ⟨z, hz, he⟩ := at_someV Pr hP w0 (by omega)
  have npr := R1.ne hp
  exact ⟨p, _, _, _, rfl, rfl, SqL.of (B2 _ _ upd_same npr), he, k z H2 hz R2 ((Same.but (same_upd hp)).trans B2) (B2 _ _ upd_same npr)⟩
/-- a plain value: None, a bool, an int, a text -/
def flatA : V → Bool
  | .non => true | .bl _ => true | .int _ => true | .str _ => true | _ => false
theorem any_flat {T : Addr → Prop} {H : Hp} {v : V} (h : flatA v = true) : AnyV T H v := by
  cases v with
  | non => exact .non
  | bl b => exact .bl b
  | int i => exact .int i
  | str x => exact .str x
  | _ => cases h

/-! ### the row is a list -/
theorem RowAt.lst {H : Hp} {r a : Addr} {ns : List Int} (h : RowAt K H r a ns) : ∃ ys, H r = some (.lst ys) := let ⟨_, _, _, h1, _⟩ := h; ⟨_, h1⟩

/-! ### lists of one plain value -/
def datF : V → PyData
  | .bl b => .bool b
  | .int i => .int i
  | .str x => .str x
  | _ => .none
theorem dp_flat {H : Hp} {x : V} (h : flatA x = true) : Dp K H x (datF x) := by
  cases x with
  | non => exact .non
  | bl b => exact .bl b
  | int i => exact .int i
  | str x => exact .str x
  | _ => cases h
theorem dp_flat1 {H : Hp} {a : Addr} {x : V} (h : flatA x = true) (hs : SqL K H a [x]) : Dp K H (.ref a) (.list [datF x]) := .lst hs (.cons (dp_flat h) .nil)
theorem eqv_datF (x : V) : PyData.eqv (datF x) (datF x) = true := by
  cases x <;> simp [datF, PyData.eqv]
theorem eqv_flat1 (x : V) : PyData.eqv (.list [datF x]) (.list [datF x]) = true := by
  show (PyData.eqv (datF x) (datF x) && true) = true
  rw [eqv_datF, Bool.and_true]
/-- a plain value whose list of one is compared at once -/
def flatS (x : V) : Prop := flatA x = true ∧ SeqAt.shaped (.list [datF x]) = true
/-- the same of a list of two, a text first -/
def flatN (x : V) : Prop := flatA x = true ∧ SeqAt.shaped (.list [.str "number", datF x]) = true
theorem dp_num1 {H : Hp} {a : Addr} {x : V} (h : flatA x = true) (hs : SqL K H a [.str "number", x]) : Dp K H (.ref a) (.list [.str "number", datF x]) := .lst hs (.cons (.str _) (.cons (dp_flat h) .nil))
theorem eqv_num1 (x : V) : PyData.eqv (.list [.str "number", datF x]) (.list [.str "number", datF x]) = true := by
  show (PyData.eqv (.str "number") (.str "number") && (PyData.eqv (datF x) (datF x) && true)) = true
  rw [eqv_datF, Bool.and_true, Bool.and_true]
  simp [PyData.eqv]

/-! ### values that are no numbers -/
/-- a value that is no number: a plain one, or a tuple, a dict -/
inductive Odd (H : Hp) : V → Prop where
  | flat {x : V} (f : flatS x) (i : intIn x (-(10 ^ 40)) (10 ^ 40) = false) : Odd H x
  | tup {a : Addr} {xs : List V} (e : H a = some (.tup xs)) : Odd H (.ref a)
  | dct {a : Addr} (e : H a = some (.dK [])) : Odd H (.ref a)
theorem Odd.same {H H' : Hp} {v : V} (h : Odd H v) (S : Same H H') : Odd H' v := by
  cases h with
  | flat f i => exact .flat f i
  | tup e => exact .tup (S _ _ e)
  | dct e => exact .dct (S _ _ e)
theorem Odd.but {H H' : Hp} {r : Addr} {ys : List V} {v : V} (h : Odd H v) (hr : H r = some (.lst ys)) (B : But r H H') : Odd H' v := by
  cases h with
  | flat f i => exact .flat f i
  | tup e => exact .tup (B _ _ e (ne_of e hr (by intro z; cases z)))
  | dct e => exact .dct (B _ _ e (ne_of e hr (by intro z; cases z)))
theorem Odd.any {T : Addr → Prop} {H : Hp} {v : V} (h : Odd H v) : AnyV T H v := by
  cases h with
  | flat f i => exact any_flat f.1
  | tup e => exact .tup e
  | dct e => exact .dct e
theorem Odd.no {H : Hp} {v : V} (h : Odd H v) : intIn v (-(10 ^ 40)) (10 ^ 40) = false := by
  cases h with
  | flat f i => exact i
  | tup e => rfl
  | dct e => rfl
/-- two lists of it are equal -/
theorem Odd.ne1 {H : Hp} {v : V} {a b : Addr} {Q : VK} (h : Odd H v) (ha : H a = some (.lst [v])) (hb : H b = some (.lst [v])) (q : Q (.bl false) H) : rNe1 K (.ref a) (.ref b) H Q := by
  cases h with
  | flat f i => exact .inr ⟨_, _, dp_flat1 f.1 (SqL.of ha), dp_flat1 f.1 (SqL.of hb), f.2, f.2, by rw [eqv_flat1]; exact q⟩
  | tup e => exact .inl ⟨a, b, _, rfl, rfl, SqL.of ha, SqL.of hb, q⟩
  | dct e => exact .inl ⟨a, b, _, rfl, rfl, SqL.of ha, SqL.of hb, q⟩
theorem flat_ne1 {H : Hp} {v : V} {a b : Addr} {Q : VK} (f : flatS v) (ha : H a = some (.lst [v])) (hb : H b = some (.lst [v])) (q : Q (.bl false) H) : rNe1 K (.ref a) (.ref b) H Q :=
  .inr ⟨_, _, dp_flat1 f.1 (SqL.of ha), dp_flat1 f.1 (SqL.of hb), f.2, f.2, by rw [eqv_flat1]; exact q⟩
def spOdd (K : PySem.W.Frag) : Sp := fun vs H Q _ => ∃ (r a : Addr) (ns : List Int), vs = [.ref r] ∧ RowAt K H r a ns ∧ ∀ (v : V) (H' : Hp), Odd H' v → RowAt K H' r a ns → But r H H' → Q v H'
theorem ok__law_odd_number (T : Tx P K mg) : FnOk P w K mg base CX0 lv__law_odd_number T.a__law_odd_number T.d__law_odd_number ["_law_row"] (spOdd K) := by
  refine T.F__law_odd_number.ok sc__law_odd_number (fun vs H Q E h => ?_) (fun cdv A outer s H vs Q E hr h => ?_)
  · obtain ⟨r, a, ns, rfl, _⟩ := h
    rfl
  · obtain ⟨r, a, ns, rfl, R0, k⟩ := h
    refine ⟨_, (pss_one (ps_ret (pe_ix ix_list (pe_lst (pa_cons pe_non (pa_cons (pe_op op_add (pe_op op_pow pe_int pe_int) pe_int) (pa_cons (pe_op op_sub (pe_un un_neg (pe_op op_pow pe_int pe_int)) pe_int) (pa_cons pe_bl (pa_cons pe_str (pa_cons (pe_tup (pa_cons pe_int pa_nil)) (pa_cons pe_dnewK pa_nil)))))))) (pe_call (ok__law_taken T) (hr.mono (by decide)) rfl T.g__law_taken T.F__law_taken.kp T.b__law_taken .nil pass0 (pa_cons (pv 0) (pa_cons pe_int pa_nil))) (fun _ _ => rfl)))), ?_⟩
    refine ⟨_, _, rfl, rfl, ⟨by decide, by decide, by decide⟩, _, _, rfl, rfl, _, _, rfl, rfl, ⟨by decide, by decide, by decide⟩, _, rfl, _, _, rfl, rfl, by show 1 ≤ sizeLine; decide, fun p hp => ?_⟩
    intro q hq
    refine ⟨by show 7 ≤ sizeLine; decide, fun l hl => ⟨_, rfl, ?_⟩⟩
    have npr := R0.ne hp
    have R1 := R0.new (o := .tup [.int 7]) hp
    have nqr := R1.ne hq
    have R2 := R1.new (o := .dK []) hq
    have hpq : upd (upd H p (.tup [.int 7])) q (.dK []) p = some (.tup [.int 7]) := same_upd hq _ _ upd_same
    refine menuV (items := [.non, .int (10 ^ (40 : Int).toNat + 1), .int (-(10 ^ (40 : Int).toNat) - 1), .bl true, .str "7", .ref p, .ref q]) (fun z => z ∈ ([.non, .int (10 ^ (40 : Int).toNat + 1), .int (-(10 ^ (40 : Int).toNat) - 1), .bl true, .str "7", .ref p, .ref q] : List V)) (fun z h => h) rfl R2 hl (fun z H6 hz R6 B6 _ => ?_) (by show (0 : Int) < 7; decide) (by show (7 : Int) ≤ 10 ^ 41; decide)
    refine k z H6 ?_ R6 ((Same.but ((same_upd hp).trans (same_upd hq))).trans B6)
    have hp6 := B6 _ _ hpq npr
    have hq6 := B6 _ _ (upd_same (a := q)) nqr
    simp only [List.mem_cons, List.not_mem_nil, or_false] at hz
    rcases hz with rfl | rfl | rfl | rfl | rfl | rfl | rfl
    · exact .flat ⟨rfl, by decide +kernel⟩ (by decide +kernel)
    · exact .flat ⟨rfl, by decide +kernel⟩ (by decide +kernel)
    · exact .flat ⟨rfl, by decide +kernel⟩ (by decide +kernel)
    · exact .flat ⟨rfl, by decide +kernel⟩ (by decide +kernel)
    · exact .flat ⟨rfl, by decide +kernel⟩ (by decide +kernel)
    · exact .tup hp6
    · exact .dct hq6

/-! ### a call with a value for a number -/
def famR (T : Tx P K mg) : Addr → Sp → Prop := fun f sp => (f = T.a_ring_of ∨ f = T.a_ahead ∨ f = T.a_done) ∧ sp = spTN2 T
theorem famR_ok (T : Tx P K mg) : ∀ f sp, famR T f sp → HeldX P w K mg base (L2.CX P w) (lv__law_call - 1) f sp := by
  rintro f sp ⟨rfl | rfl | rfl, rfl⟩
  · exact ⟨_, _, _, by decide, ok_ring_of T, T.F_ring_of.kp, T.b_ring_of⟩
  · exact ⟨_, _, _, by decide, ok_ahead T, T.F_ahead.kp, T.b_ahead⟩
  · exact ⟨_, _, _, by decide, ok_done T, T.F_done.kp, T.b_done⟩
theorem Odd.plain {H : Hp} {z : V} (h : Odd H z) : PlainV H z := by
  cases h with
  | flat f _ =>
    have f1 := f.1
    cases z with
    | non => exact .nil
    | bl b => exact .bl b
    | int i => exact .int i
    | str x => exact .str x
    | _ => cases f1
  | tup e => exact .tup e
  | dct e => exact .dct e
theorem Odd.no0 {H : Hp} {z : V} {hi : Int} (h : Odd H z) (hh : hi ≤ 10 ^ 40) : intIn z 0 hi = false := by
  have g := h.no
  cases e : intIn z 0 hi with
  | false => rfl
  | true =>
    obtain ⟨i, rfl, i1, i2⟩ := intIn_int' e
    rw [intIn_of (show -(10 ^ 40) ≤ i by omega) (by omega)] at g
    cases g
/-- the value that is refused -/
def dueV (n : Nat) (z : V) : V := if eqI z (10 ^ 40 + 1) = true then (if n = 8 then .int (-1) else if n = 9 then .int 201 else z) else z
def sp__law_call (T : Tx P K mg) : Sp := fun vs H Q E => ∃ (n : Nat) (z : V), vs = [.int (n : Nat), z] ∧ n < 10 ∧ Odd H z ∧ refN T E H (dueV n z)
theorem eqI_int {z : V} {i : Int} (h : eqI z i = true) (hi : 1 < i) : z = .int i := by
  cases z with
  | int j => rw [show j = i from by simpa [eqI] using h]
  | bl b =>
    have : (if b = true then (1 : Int) else 0) = i := by simpa [eqI] using h
    cases b
    · rw [if_neg Bool.false_ne_true] at this
      omega
    · rw [if_pos rfl] at this
      omega
  | _ => cases h
theorem ok__law_call (T : Tx P K mg) : FnOk P w K mg base (L2.CX P w) lv__law_call T.a__law_call T.d__law_call ["_law_kind", "_law_value"] (sp__law_call T) := by
  refine T.F__law_call.okX sc__law_call (fun vs H Q E h => ?_) (fun cdv A outer s H vs Q E hr h => ?_)
  · obtain ⟨n, z, rfl, _⟩ := h
    rfl
  · obtain ⟨n, z, rfl, n10, oz, k⟩ := h
    refine ⟨_, (pss_cons (ps_set (i := 2) sc__law_call.nd rfl (Or.inl rfl) (pe_make T.mk_Trick (ok_Trick___init__ T) (hr.mono (by decide)) rfl T.g_Trick T.b_Trick___init__ .nil pass0 (pa_cons pe_int (pa_cons pe_int (pa_cons (pe_un un_neg pe_int) pa_nil)))))
      (pss_one (ps_if (pt_cmpR op_lt (pv 0) pe_int (nomark _)) (pss_one (ps_expr (pe_callE (fam := famR T) (famR_ok T) hr (pe_ix ix_list (pe_lst (pa_cons (pe_glob (v := .ref T.a_ring_of) rfl T.g_ring_of rfl) (pa_cons (pe_glob (v := .ref T.a_ahead) rfl T.g_ahead rfl) (pa_cons (pe_glob (v := .ref T.a_done) rfl T.g_done rfl) pa_nil)))) (pv 0) (fun _ _ => rfl)) (passes_call (takes_of rfl rfl rfl rfl) fun _ _ _ _ h => h) (pa_cons (pv 2) (pa_cons (pv 1) pa_nil))))) (pss_one (ps_if (pt_cmpR op_eq (pv 0) pe_int (nomark _)) (pss_one (ps_expr (pe_call (ok_rounds T) (hr.mono (by decide)) rfl T.g_rounds T.F_rounds.kp T.b_rounds .nil (passes_call (takes_of rfl rfl rfl rfl) fun _ _ _ _ h => h) (pa_cons (pv 2) (pa_cons (pv 1) (pa_cons pe_non pa_nil)))))) (pss_one (ps_if (pt_cmpR op_eq (pv 0) pe_int (nomark _)) (pss_one (ps_expr (pe_call (ok_trail T) (hr.mono (by decide)) rfl T.g_trail T.F_trail.kp T.b_trail .nil (passes_call (takes_of rfl rfl rfl rfl) fun _ _ _ _ h => h) (pa_cons (pv 2) (pa_cons (pv 1) (pa_cons pe_non pa_nil)))))) (pss_one (ps_if (pt_cmpR op_eq (pv 0) pe_int (nomark _)) (pss_one (ps_expr (pe_make T.mk_Reckoner (ok_Reckoner___init__ T) (hr.mono (by decide)) rfl T.g_Reckoner T.b_Reckoner___init__ .nil (passes_call (takes_of rfl rfl rfl rfl) fun _ _ _ _ h => h) (pa_cons (pv 1) pa_nil)))) (pss_one (ps_if (pt_cmpR op_eq (pv 0) pe_int (nomark _)) (pss_one (ps_expr (pe_call (ok_chained T) (hr.mono (by decide)) rfl T.g_chained T.F_chained.kp T.b_chained .nil (passes_call (takes_of rfl rfl rfl rfl) fun _ _ _ _ h => h) (pa_cons (pe_lst (pa_cons (pv 2) pa_nil)) (pa_cons (pv 1) pa_nil))))) (pss_one (ps_if (pt_cmpR op_eq (pv 0) pe_int (nomark _)) (pss_one (ps_expr (pe_call (ok_total T) (hr.mono (by decide)) rfl T.g_total T.F_total.kp T.b_total .nil (passes_call (takes_of rfl rfl rfl rfl) fun _ _ _ _ h => h) (pa_cons (pe_make T.mk_Sum (ok_Sum___init__ T) (hr.mono (by decide)) rfl T.g_Sum T.b_Sum___init__ .nil (passes_call (takes_of rfl rfl rfl rfl) fun _ _ _ _ h => h) (pa_cons pe_int (pa_cons pe_int (pa_cons (pe_tup pa_nil) (pa_cons (pe_tup (pa_cons pe_int pa_nil)) pa_nil))))) (pa_cons (pv 1) pa_nil))))) (pss_one (ps_if (pt_cmpR op_eq (pv 0) pe_int (nomark _)) (pss_one (ps_expr (pe_call (ok_rounds T) (hr.mono (by decide)) rfl T.g_rounds T.F_rounds.kp T.b_rounds .nil (passes_call (takes_of rfl rfl rfl rfl) fun _ _ _ _ h => h) (pa_cons (pv 2) (pa_cons pe_int (pa_cons (pe_ifExp (pt_cmpR (op_eqI hr.units) (pv 1) (pe_op op_add (pe_op op_pow pe_int pe_int) pe_int) (nomark _)) (pe_un un_neg pe_int) (pv 1)) pa_nil)))))) (pss_one (ps_expr (pe_call (ok_trail T) (hr.mono (by decide)) rfl T.g_trail T.F_trail.kp T.b_trail .nil (passes_call (takes_of rfl rfl rfl rfl) fun _ _ _ _ h => h) (pa_cons (pv 2) (pa_cons pe_int (pa_cons (pe_ifExp (pt_cmpR (op_eqI hr.units) (pv 1) (pe_op op_add (pe_op op_pow pe_int pe_int) pe_int) (nomark _)) pe_int (pv 1)) pa_nil))))))))))))))))))))), ?_⟩
    refine ⟨_, rfl, fun p dx np nd ne => mk_trick np nd (by decide) (by decide) (by decide) (by decide) (by decide) (by decide) fun H1 hp S => ?_⟩
    replace oz := oz.same S
    replace k : refN T E H1 (dueV n z) := fun H2 d S2 hd => k H2 d (S.trans S2) hd
    obtain ⟨⟨dt, ep⟩, _⟩ := id hp
    have az : AnyV (OwnT T) H1 z := oz.any
    have gz := oz.no
    have k1 : n ≠ 8 → n ≠ 9 → refN T E H1 z := fun h8 h9 => by
      have e : dueV n z = z := by
        unfold dueV
        rw [if_neg h8, if_neg h9, ite_self]
      rwa [e] at k
    by_cases n3 : n < 3
    · refine ⟨_, rfl, _, _, rfl, rfl, _, rfl, ?_⟩
      refine ite2 (fun g => ?_) (fun g => ?_)
      · refine ⟨by show 3 ≤ sizeLine; decide, fun l hl => ⟨_, rfl, ?_⟩⟩
        have S2 := same_upd (o := .lst [.ref T.a_ring_of, .ref T.a_ahead, .ref T.a_done]) hl
        obtain ⟨z', ⟨f, rfl, hf⟩, hz⟩ := at_someV (xs := [.ref T.a_ring_of, .ref T.a_ahead, .ref T.a_done]) (i := (n : Int)) (fun z => ∃ f, z = .ref f ∧ (f = T.a_ring_of ∨ f = T.a_ahead ∨ f = T.a_done)) (by
          intro z hz
          simp only [List.mem_cons, List.not_mem_nil, or_false] at hz
          rcases hz with rfl | rfl | rfl
          · exact ⟨_, rfl, .inl rfl⟩
          · exact ⟨_, rfl, .inr (.inl rfl)⟩
          · exact ⟨_, rfl, .inr (.inr rfl)⟩) (by omega) (by show (n : Int) < 3; omega)
        exact ⟨l, _, _, _, rfl, rfl, SqL.of upd_same, hz, f, _, rfl, ⟨hf, rfl⟩, _, rfl, _, rfl, p, dt, _, z, rfl, S2 _ _ ep, az.mono S2, gz, fun H2 d S3 hd => k1 (by omega) (by omega) H2 d (S2.trans S3) hd⟩
      · have g1 : ¬ ((n : Int) < 3) := by simpa using g
        omega
    obtain rfl | rfl | rfl | rfl | rfl | rfl | rfl : n = 3 ∨ n = 4 ∨ n = 5 ∨ n = 6 ∨ n = 7 ∨ n = 8 ∨ n = 9 := by omega
    · refine ⟨_, rfl, _, _, rfl, rfl, _, rfl, iteF ⟨_, rfl, rfl, _, rfl, iteT ?_⟩⟩
      exact ⟨_, rfl, _, rfl, p, dt, _, z, .non, rfl, ep, az, .inl ⟨gz, k1 (by decide) (by decide)⟩⟩
    · refine ⟨_, rfl, _, _, rfl, rfl, _, rfl, iteF ⟨_, rfl, rfl, _, rfl, iteF ⟨_, rfl, rfl, _, rfl, iteT ?_⟩⟩⟩
      exact ⟨_, rfl, _, rfl, p, dt, _, z, .non, rfl, ep, az, .inl ⟨gz, k1 (by decide) (by decide)⟩⟩
    · refine ⟨_, rfl, _, _, rfl, rfl, _, rfl, iteF ⟨_, rfl, rfl, _, rfl, iteF ⟨_, rfl, rfl, _, rfl, iteF ⟨_, rfl, rfl, _, rfl, iteT ?_⟩⟩⟩⟩
      refine ⟨_, rfl, fun q dq nq nd2 ne2 => ?_⟩
      have S2 : Same H1 (upd (upd H1 dq (.own q)) q (.ins T.C_Reckoner dq [])) := Same.made nq nd2 fun _ _ e _ => e
      exact ⟨q, dq, z, rfl, upd_same, az.mono S2, gz, fun H2 d S3 hd => k1 (by decide) (by decide) H2 d (S2.trans S3) hd⟩
    · refine ⟨_, rfl, _, _, rfl, rfl, _, rfl, iteF ⟨_, rfl, rfl, _, rfl, iteF ⟨_, rfl, rfl, _, rfl, iteF ⟨_, rfl, rfl, _, rfl, iteF ⟨_, rfl, rfl, _, rfl, iteT ?_⟩⟩⟩⟩⟩
      refine ⟨_, rfl, by show 1 ≤ sizeLine; decide, fun l hl => ?_⟩
      have S2 := same_upd (o := .lst [.ref p]) hl
      exact ⟨_, rfl, l, [.ref p], z, rfl, .inl upd_same, (by show 1 ≤ 1; decide), (by show 1 ≤ 4; decide), (fun y hy => by rw [List.mem_singleton.mp hy]; exact ⟨p, dt, _, rfl, S2 _ _ ep⟩), az.mono S2, gz, fun H2 d S3 hd => k1 (by decide) (by decide) H2 d (S2.trans S3) hd⟩
    · refine ⟨_, rfl, _, _, rfl, rfl, _, rfl, iteF ⟨_, rfl, rfl, _, rfl, iteF ⟨_, rfl, rfl, _, rfl, iteF ⟨_, rfl, rfl, _, rfl, iteF ⟨_, rfl, rfl, _, rfl, iteF ⟨_, rfl, rfl, _, rfl, iteT ?_⟩⟩⟩⟩⟩⟩
      refine ⟨by show 0 ≤ sizeLine; decide, fun q1 h1 => ⟨by show 1 ≤ sizeLine; decide, fun q2 h2 => fun q dq nq nd2 ne2 => ?_⟩⟩
      have S1 := same_upd (o := .tup []) h1
      have S2 := same_upd (o := .tup [.int 1]) h2
      have S3 : Same (upd (upd H1 q1 (.tup [])) q2 (.tup [.int 1])) (upd (upd (upd (upd H1 q1 (.tup [])) q2 (.tup [.int 1])) dq (.own q)) q (.ins T.C_Sum dq [])) := Same.made nq nd2 fun _ _ e _ => e
      have e1 := S3 _ _ (S2 _ _ (upd_same (H := H1) (a := q1) (o := .tup [])))
      have e2 := S3 _ _ (upd_same (H := upd H1 q1 (.tup [])) (a := q2) (o := .tup [.int 1]))
      have w0 : wVerd 0 (upd (upd (upd (upd H1 q1 (.tup [])) q2 (.tup [.int 1])) dq (.own q)) q (.ins T.C_Sum dq [])) (.ref q1) = none := by
        unfold wVerd
        rw [tupOf_ref e1]
        decide
      have w1 : wVerd 1 (upd (upd (upd (upd H1 q1 (.tup [])) q2 (.tup [.int 1])) dq (.own q)) q (.ins T.C_Sum dq [])) (.ref q2) = none := by
        unfold wVerd
        rw [tupOf_ref e2]
        decide
      refine ⟨q, dq, .int 10, .int 1, .ref q1, .ref q2, rfl, upd_same, .int 10, .int 1, .tup e1, .tup e2, ItemsAny.ints (ns := []) e1, ItemsAny.ints (ns := [1]) e2, fun z => absurd z (by decide), fun _ z => absurd z (by decide), (fun _ _ w hw => by rw [w0] at hw; cases hw), (fun _ _ _ w hw => by rw [w1] at hw; cases hw), fun _ _ _ _ H2 hq kq => ⟨rfl, ?_⟩⟩
      have S4 := (S1.trans S2).trans (Same.made nq nd2 kq)
      exact ⟨_, rfl, q, dq, _, z, rfl, hq, az.mono S4, oz.no0 (by decide), fun H3 d S5 hd => k1 (by decide) (by decide) H3 d (S4.trans S5) hd⟩
    · refine ⟨_, rfl, _, _, rfl, rfl, _, rfl, iteF ⟨_, rfl, rfl, _, rfl, iteF ⟨_, rfl, rfl, _, rfl, iteF ⟨_, rfl, rfl, _, rfl, iteF ⟨_, rfl, rfl, _, rfl, iteF ⟨_, rfl, rfl, _, rfl, iteF ⟨_, rfl, rfl, _, rfl, iteT ?_⟩⟩⟩⟩⟩⟩⟩
      refine ⟨_, rfl, _, rfl, _, _, rfl, rfl, ⟨by decide, by decide, by decide⟩, _, _, rfl, rfl, _, rfl, oz.plain, _, rfl, ?_⟩
      refine ite2 (fun g => ?_) (fun g => ?_)
      · have g1 : eqI z (10 ^ 40 + 1) = true := g
        have e : dueV 8 z = .int (-1) := by
          unfold dueV
          rw [if_pos g1]
          rfl
        rw [e] at k
        exact ⟨_, rfl, p, dt, _, .int 7, .int (-1), rfl, ep, .int 7, .inr ⟨by decide, .int _, by decide, k⟩⟩
      · have g1 : ¬ eqI z (10 ^ 40 + 1) = true := g
        have e : dueV 8 z = z := by
          unfold dueV
          rw [if_neg g1]
        rw [e] at k
        exact ⟨_, rfl, p, dt, _, .int 7, z, rfl, ep, .int 7, .inr ⟨by decide, az, oz.no0 (by decide), k⟩⟩
    · refine ⟨_, rfl, _, _, rfl, rfl, _, rfl, iteF ⟨_, rfl, rfl, _, rfl, iteF ⟨_, rfl, rfl, _, rfl, iteF ⟨_, rfl, rfl, _, rfl, iteF ⟨_, rfl, rfl, _, rfl, iteF ⟨_, rfl, rfl, _, rfl, iteF ⟨_, rfl, rfl, _, rfl, iteF ?_⟩⟩⟩⟩⟩⟩⟩
      refine ⟨_, rfl, _, rfl, _, _, rfl, rfl, ⟨by decide, by decide, by decide⟩, _, _, rfl, rfl, _, rfl, oz.plain, _, rfl, ?_⟩
      refine ite2 (fun g => ?_) (fun g => ?_)
      · have g1 : eqI z (10 ^ 40 + 1) = true := g
        have e : dueV 9 z = .int 201 := by
          unfold dueV
          rw [if_pos g1]
          rfl
        rw [e] at k
        exact ⟨p, dt, _, .int 7, .int 201, rfl, ep, .int 7, .inr ⟨by decide, .int _, by decide, k⟩⟩
      · have g1 : ¬ eqI z (10 ^ 40 + 1) = true := g
        have e : dueV 9 z = z := by
          unfold dueV
          rw [if_neg g1]
        rw [e] at k
        exact ⟨_, rfl, p, dt, _, .int 7, z, rfl, ep, .int 7, .inr ⟨by decide, az, oz.no0 (by decide), k⟩⟩

/-! ### the law -/
theorem due_ne1 {H : Hp} {n : Nat} {z : V} {a b : Addr} {Q : VK} (h : Odd H z) (ha : H a = some (.lst [dueV n z])) (hb : H b = some (.lst [dueV n z])) (q : Q (.bl false) H) : rNe1 K (.ref a) (.ref b) H Q := by
  unfold dueV at ha hb
  by_cases g : eqI z (10 ^ 40 + 1) = true
  · rw [if_pos g] at ha hb
    by_cases g8 : n = 8
    · rw [if_pos g8] at ha hb
      exact flat_ne1 ⟨rfl, by decide +kernel⟩ ha hb q
    · rw [if_neg g8] at ha hb
      by_cases g9 : n = 9
      · rw [if_pos g9] at ha hb
        exact flat_ne1 ⟨rfl, by decide +kernel⟩ ha hb q
      · rw [if_neg g9] at ha hb
        exact h.ne1 ha hb q
  · rw [if_neg g] at ha hb
    exact h.ne1 ha hb q
theorem due_get {n : Nat} {z : V} (g : eqI z (10 ^ 40 + 1) = true) : (valV (mergeK [] [(.inl 8, .int (-1)), (.inl 9, .int 201)]) (.inl (n : Int))).getD z = dueV n z := by
  have e : mergeK [] [((.inl 8 : Key), V.int (-1)), (.inl 9, .int 201)] = [(.inl 8, .int (-1)), (.inl 9, .int 201)] := rfl
  unfold dueV
  rw [if_pos g, e]
  by_cases g8 : n = 8
  · subst g8
    rfl
  · rw [if_neg g8, valV_neg (fun y => g8 (by have := Sum.inl.inj y; omega))]
    by_cases g9 : n = 9
    · subst g9
      rfl
    · rw [if_neg g9, valV_neg (fun y => g9 (by have := Sum.inl.inj y; omega))]
      rfl
abbrev sp__law_taken (T : Tx P K mg) : Sp := spTaken K
def sp_law (K : PySem.W.Frag) : Sp := fun vs H Q _ => ∃ (a : Addr) (ns : List Int), vs = [.ref a] ∧ Scr K H a (ns.map V.int) ∧ ns.length ≤ 63 ∧ ∀ H', Q (.bl true) H'
theorem ok_law (T : Tx P K mg) : FnOk P w K mg base CX0 lv_law T.a_law T.d_law ["_law_script"] (sp_law K) := by
  refine T.F_law.ok sc_law (fun vs H Q E h => ?_) (fun cdv A outer s H vs Q E hr h => ?_)
  · obtain ⟨a, ns, rfl, _⟩ := h
    rfl
  · obtain ⟨a, ns, rfl, hS, hlen, k⟩ := h
    refine ⟨_, (Evl.pss_cut (ps_set (i := 1) sc_law.nd rfl (Or.inl rfl) (pe_lst (pa_cons (pv 0) (pa_cons pe_int (pa_cons pe_int (pa_cons pe_int pa_nil))))))
      (pss_cons (ps_for PassesOwn.never rfl (pi_range1 (by rfl) T.n_range (pa_cons pe_int pa_nil)) (pg_name (i := 2) sc_law.nd rfl (Or.inl rfl)) (Evl.pss_cut (ps_par (i := 3) (j := 4) rfl sc_law.nd rfl rfl (by decide) rfl rfl (pa_cons (pe_call (ok__law_taken T) (hr.mono (by decide)) rfl T.g__law_taken T.F__law_taken.kp T.b__law_taken .nil pass0 (pa_cons (pv 1) (pa_cons pe_int pa_nil))) (pa_cons (pe_call (ok__law_odd_number T) (hr.mono (by decide)) rfl T.g__law_odd_number T.F__law_odd_number.kp T.b__law_odd_number .nil pass0 (pa_cons (pv 1) pa_nil)) pa_nil)) (by rfl))
      (Evl.pss_cut (ps_set (i := 5) sc_law.nd rfl (Or.inl rfl) (pe_ifExp (pt_cmpR (op_eqI hr.units) (pv 4) (pe_op op_add (pe_op op_pow pe_int pe_int) pe_int) (nomark _)) (pe_dget2 (Nat.lt_of_le_of_lt (Nat.add_le_add_left (by decide) _) hr.units) (pe_disp (pps_cons pe_int (pe_un un_neg pe_int) (pps_cons pe_int pe_int pps_nil)) rfl rfl (by decide) (by decide)) (pv 3) (pv 4) ⟨rfl, rfl, rfl, rfl⟩) (pv 4)))
      (Evl.pss_cut (ps_set (i := 6) sc_law.nd rfl (Or.inl rfl) (pe_lst pa_nil))
      (Evl.pss_cut (ps_try_x (tb := fun W => (tDrop (tCallS (sp__law_call T) (WE W) (tCons (tVar 3) (tCons (tVar 4) tNil))))) rfl rfl sc_law.nd takes0 (fun W pn xe tk _ => (pss_one (ps_expr (pe_callS (ok__law_call T) (hr.mono (by decide)) rfl T.g__law_call T.F__law_call.kp T.b__law_call (fun σ => passAt tk σ) (pa_cons (pv 3) (pa_cons (pv 4) pa_nil)))))) (HdsX.as (i := 7) rfl rfl ⟨rfl, by decide, Or.inl T.g_BadNumber⟩ (fun a oe cls d pn hz hf => (pss_one (ps_set (i := 6) sc_law.nd rfl (Or.inl rfl) (pe_lst (pa_cons (pe_errF T.x_BadNumber hz hf (pv 7)) pa_nil))))) HdsX.nil))
      (pss_one (ps_if (pt_cmpR (op_ne1 hr.units) (pv 6) (pe_lst (pa_cons (pv 5) pa_nil)) (nomark _)) (pss_one (ps_ret pe_bl)) pss_nil)))))))
      (Evl.pss_cut (ps_set (i := 6) sc_law.nd rfl (Or.inl rfl) (pe_lst pa_nil))
      (Evl.pss_cut (ps_try_x (tb := fun W => (tDrop (tCallS (sp_total T) (WE W) (tCons (tMake T.C_Sum (sp_Sum___init__ T) [] (fun cls d H => ∀ σ : L2.St, σ.length = 8 → W cls d σ H) (tCons (tC (.int 10)) (tCons (tC (.int 1)) (tCons (tTup tNil) (tCons (tTup (tCons (tC (.int 1)) tNil)) tNil))))) (tCons (tUn (rU fun i => .int (-i)) (tC (.int 1))) tNil))))) rfl rfl sc_law.nd takes0 (fun W pn xe tk _ => (pss_one (ps_expr (pe_callS (ok_total T) (hr.mono (by decide)) rfl T.g_total T.F_total.kp T.b_total (fun σ => passAt tk σ) (pa_cons (pe_make T.mk_Sum (ok_Sum___init__ T) (hr.mono (by decide)) rfl T.g_Sum T.b_Sum___init__ .nil (passN tk) (pa_cons pe_int (pa_cons pe_int (pa_cons (pe_tup pa_nil) (pa_cons (pe_tup (pa_cons pe_int pa_nil)) pa_nil))))) (pa_cons (pe_un un_neg pe_int) pa_nil)))))) (HdsX.as (i := 7) rfl rfl ⟨rfl, by decide, Or.inl T.g_BadNumber⟩ (fun a oe cls d pn hz hf => (pss_one (ps_set (i := 6) sc_law.nd rfl (Or.inl rfl) (pe_lst (pa_cons (pe_errF T.x_BadNumber hz hf (pv 7)) pa_nil))))) HdsX.nil))
      (pss_one (ps_ret (pe_cmpR (op_eqD hr.units) (pv 6) (pe_lst (pa_cons (pe_un un_neg pe_int) pa_nil)) (nomark _)))))))), ?_⟩
    refine ⟨fun σ H1 => ∃ r, RowAt K H1 r a ns ∧ σ = [some (.ref a), some (.ref r), none, none, none, none, none, none], ?_, ?_⟩
    · exact ⟨_, rfl, by show 4 ≤ sizeLine; decide, fun r hr0 => ⟨r, RowAt.start hr0 hS hlen (by decide) (by decide), rfl⟩⟩
    clear hS
    rintro σ H1 ⟨r, R1, rfl⟩
    refine ⟨9, rfl, by decide, by decide, ?_⟩
    refine for_range (lo := 0) (n := 9) (fun i σ H2 => ∃ x2 x3 x4 x5 x6 x7 : Option V, RowAt K H2 r a ns ∧ σ = [some (.ref a), some (.ref r), x2, x3, x4, x5, x6, x7]) ⟨none, none, none, none, none, none, R1, rfl⟩ ?_ ?_
    · clear R1
      rintro i σ H2 hi ⟨x2, x3, x4, x5, x6, x7, R2, rfl⟩
      refine ⟨fun σ H3 => ∃ (n : Nat) (z : V), n < 10 ∧ Odd H3 z ∧ RowAt K H3 r a ns ∧ σ = [some (.ref a), some (.ref r), some (.int (0 + (i : Int))), some (.int (n : Nat)), some z, x5, x6, x7], ?_, ?_⟩
      · refine ⟨_, rfl, r, a, ns, _, rfl, by decide, by decide, R2, fun v H3 v0 v1 R3 B3 => ⟨_, rfl, r, a, ns, rfl, R3, fun z H4 oz R4 B4 => ?_⟩⟩
        obtain ⟨n, rfl⟩ := Int.eq_ofNat_of_zero_le v0
        exact ⟨_, _, rfl, n, z, by omega, oz, R4, rfl⟩
      clear R2
      rintro σ H3 ⟨n, z, n10, oz, R3, rfl⟩
      generalize some (V.int (0 + (i : Int))) = y2
      refine ⟨fun σ H4 => Odd H4 z ∧ RowAt K H4 r a ns ∧ σ = [some (.ref a), some (.ref r), y2, some (.int (n : Nat)), some z, some (dueV n z), x6, x7], ?_, ?_⟩
      · refine ⟨_, rfl, _, _, rfl, rfl, ⟨by decide, by decide, by decide⟩, _, _, rfl, rfl, _, rfl, oz.plain, _, rfl, ?_⟩
        refine ite2 (fun g => ?_) (fun g => ?_)
        · have g1 : eqI z (10 ^ 40 + 1) = true := g
          intro p hp
          refine ⟨_, rfl, ?_⟩
          refine ⟨upd_same, [(.inl 8, .int (-1)), (.inl 9, .int 201)], rfl, by decide, ?_⟩
          refine ⟨p, rfl, .inl ⟨_, .inl upd_same⟩, _, rfl, _, rfl, _, DGet.k (k := .inl (n : Int)) upd_same, ?_⟩
          rw [due_get g1]
          have S : Same H3 (upd (upd H3 p (.dK [])) p (.dK (mergeK [] [(.inl 8, .int (-1)), (.inl 9, .int 201)]))) := fun c o e => by
            rw [upd_ne (ne_of_none e hp), upd_ne (ne_of_none e hp)]
            exact e
          exact ⟨oz.same S, R3.same S, rfl⟩
        · have g1 : ¬ eqI z (10 ^ 40 + 1) = true := g
          refine ⟨_, rfl, oz, R3, ?_⟩
          unfold dueV
          rw [if_neg g1]
          rfl
      clear oz R3
      rintro σ H4 ⟨oz, R4, rfl⟩
      refine ⟨fun σ H5 => Odd H5 z ∧ RowAt K H5 r a ns ∧ ∃ x6, σ = [some (.ref a), some (.ref r), y2, some (.int (n : Nat)), some z, some (dueV n z), x6, x7], ?_, ?_⟩
      · exact ⟨by show 0 ≤ sizeLine; decide, fun F hF => ⟨oz.same (same_upd hF), R4.new hF, _, rfl⟩⟩
      clear oz R4
      rintro σ H5 ⟨oz, R5, x6, rfl⟩
      refine ⟨fun σ H6 => Odd H6 z ∧ RowAt K H6 r a ns ∧ ∃ (F : Addr) (x7 : Option V), H6 F = some (.lst [dueV n z]) ∧ σ = [some (.ref a), some (.ref r), y2, some (.int (n : Nat)), some z, some (dueV n z), some (.ref F), x7], ?_, ?_⟩
      · refine ⟨_, rfl, _, rfl, n, z, rfl, n10, oz, fun H6 d S6 hd => ?_⟩
        have S7 := S6.trans (same_upd (o := .xd [(("n" : Str), dueV n z)]) hd)
        refine ⟨_, T.xm_BadNumber_BadNumber, fun _ c nc => ⟨_, rfl, rfl, rfl, d, _, rfl, upd_same, by show 1 ≤ sizeLine; decide, fun q hq => ?_⟩, fun z => nomatch z⟩
        have S8 := S7.trans (same_upd (o := .lst [dueV n z]) hq)
        exact ⟨oz.same S8, R5.same S8, q, _, upd_same, rfl⟩
      clear oz R5
      rintro σ H6 ⟨oz, R6, F, x7, hF, rfl⟩
      refine ⟨_, rfl, _, rfl, by show 1 ≤ sizeLine; decide, fun q hq => ?_⟩
      have S := same_upd (o := .lst [dueV n z]) hq
      refine due_ne1 (oz.same S) (S _ _ hF) upd_same ?_
      exact ⟨_, rfl, iteF ⟨_, _, _, _, _, _, R6.same S, rfl⟩⟩
    · clear R1
      rintro σ H2 ⟨x2, x3, x4, x5, x6, x7, R2, rfl⟩
      refine ⟨fun σ H5 => ∃ x6, σ = [some (.ref a), some (.ref r), x2, x3, x4, x5, x6, x7], ?_, ?_⟩
      · exact ⟨by show 0 ≤ sizeLine; decide, fun F hF => ⟨_, rfl⟩⟩
      rintro σ H5 ⟨x6, rfl⟩
      refine ⟨fun σ H6 => ∃ (F : Addr) (x7 : Option V), H6 F = some (.lst [.int (-1)]) ∧ σ = [some (.ref a), some (.ref r), x2, x3, x4, x5, some (.ref F), x7], ?_, ?_⟩
      · refine ⟨by show 0 ≤ sizeLine; decide, fun q1 h1 => ⟨by show 1 ≤ sizeLine; decide, fun q2 h2 => fun q dq nq nd2 ne2 => ?_⟩⟩
        have S3 : Same (upd (upd H5 q1 (.tup [])) q2 (.tup [.int 1])) (upd (upd (upd (upd H5 q1 (.tup [])) q2 (.tup [.int 1])) dq (.own q)) q (.ins T.C_Sum dq [])) := Same.made nq nd2 fun _ _ e _ => e
        have e1 := S3 _ _ (same_upd (o := .tup [.int 1]) h2 _ _ (upd_same (H := H5) (a := q1) (o := .tup [])))
        have e2 := S3 _ _ (upd_same (H := upd H5 q1 (.tup [])) (a := q2) (o := .tup [.int 1]))
        have w0 : wVerd 0 (upd (upd (upd (upd H5 q1 (.tup [])) q2 (.tup [.int 1])) dq (.own q)) q (.ins T.C_Sum dq [])) (.ref q1) = none := by
          unfold wVerd
          rw [tupOf_ref e1]
          decide
        have w1 : wVerd 1 (upd (upd (upd (upd H5 q1 (.tup [])) q2 (.tup [.int 1])) dq (.own q)) q (.ins T.C_Sum dq [])) (.ref q2) = none := by
          unfold wVerd
          rw [tupOf_ref e2]
          decide
        refine ⟨q, dq, .int 10, .int 1, .ref q1, .ref q2, rfl, upd_same, .int 10, .int 1, .tup e1, .tup e2, ItemsAny.ints (ns := []) e1, ItemsAny.ints (ns := [1]) e2, fun z => absurd z (by decide), fun _ z => absurd z (by decide), (fun _ _ w hw => by rw [w0] at hw; cases hw), (fun _ _ _ w hw => by rw [w1] at hw; cases hw), fun _ _ _ _ H6 hq kq => ⟨rfl, ?_⟩⟩
        refine ⟨_, rfl, q, dq, _, .int (-1), rfl, hq, .int (-1), by decide, fun H7 d S7 hd => ?_⟩
        exact ⟨_, T.xm_BadNumber_BadNumber, fun _ c nc => ⟨_, rfl, rfl, rfl, d, _, rfl, upd_same, by show 1 ≤ sizeLine; decide, fun f hf => ⟨f, _, upd_same, rfl⟩⟩, fun z => nomatch z⟩
      rintro σ H6 ⟨F, x7, hF, rfl⟩
      refine ⟨_, rfl, _, rfl, by show 1 ≤ sizeLine; decide, fun q hq => ?_⟩
      have f : flatS (V.int (-1)) := ⟨rfl, by decide +kernel⟩
      refine ⟨_, _, dp_flat1 f.1 (SqL.of (same_upd hq _ _ hF)), dp_flat1 f.1 (SqL.of upd_same), f.2, f.2, ?_⟩
      rw [eqv_flat1]
      exact k _

end
/-! ### the end -/
theorem all_mk {l : PySem.W.OpenLaw} {w : World} {K : PySem.W.Frag} {h : Heap} {mg : Str → Option Value} {fa : Addr} (X : K.In h) (G : h.Ns mainGlobals mg) (hfa : mg "law" = some (.ref fa))
    {C_TrickError : Addr}
    {C_BadBase : Addr}
    {C_BadTake : Addr}
    {C_BadTimes : Addr}
    {C_BadTrick : Addr}
    {C_BadSum : Addr}
    {C_BadNumber : Addr}
    {C_BadWeights : Addr}
    {C_BadTricks : Addr}
    {tk_GREATEST_NUMBER : Tok}
    {tk_LEAST_BASE : Tok}
    {tk_GREATEST_BASE : Tok}
    {tk_GREATEST_TAKE : Tok}
    {tk_GREATEST_TIMES : Tok}
    {tk_MOST_ROUNDS : Tok}
    {tk_MOST_TRICKS : Tok}
    {tk_GREATEST_WEIGHT : Tok}
    {tk_MOST_WEIGHTS : Tok}
    {a__wall : Addr} {od__wall an__wall : Option Addr} {sl__wall : Array (Option Value)} {oc__wall kV__wall dc__wall pm__wall cd__wall ct__wall : Value}
    {a_is_integer : Addr} {od_is_integer an_is_integer : Option Addr} {sl_is_integer : Array (Option Value)} {oc_is_integer kV_is_integer dc_is_integer pm_is_integer cd_is_integer ct_is_integer : Value}
    {a_is_tuple : Addr} {od_is_tuple an_is_tuple : Option Addr} {sl_is_tuple : Array (Option Value)} {oc_is_tuple kV_is_tuple dc_is_tuple pm_is_tuple cd_is_tuple ct_is_tuple : Value}
    {a_is_list_or_tuple : Addr} {od_is_list_or_tuple an_is_list_or_tuple : Option Addr} {sl_is_list_or_tuple : Array (Option Value)} {oc_is_list_or_tuple kV_is_list_or_tuple dc_is_list_or_tuple pm_is_list_or_tuple cd_is_list_or_tuple ct_is_list_or_tuple : Value}
    {a_is_number : Addr} {od_is_number an_is_number : Option Addr} {sl_is_number : Array (Option Value)} {oc_is_number kV_is_number dc_is_number pm_is_number cd_is_number ct_is_number : Value}
    {a_first_wrong : Addr} {od_first_wrong an_first_wrong : Option Addr} {sl_first_wrong : Array (Option Value)} {oc_first_wrong kV_first_wrong dc_first_wrong pm_first_wrong cd_first_wrong ct_first_wrong : Value}
    {a_check_base : Addr} {od_check_base an_check_base : Option Addr} {sl_check_base : Array (Option Value)} {oc_check_base kV_check_base dc_check_base pm_check_base cd_check_base ct_check_base : Value}
    {a_check_take : Addr} {od_check_take an_check_take : Option Addr} {sl_check_take : Array (Option Value)} {oc_check_take kV_check_take dc_check_take pm_check_take cd_check_take ct_check_take : Value}
    {a_check_stretch : Addr} {od_check_stretch an_check_stretch : Option Addr} {sl_check_stretch : Array (Option Value)} {oc_check_stretch kV_check_stretch dc_check_stretch pm_check_stretch cd_check_stretch ct_check_stretch : Value}
    {a_check_number : Addr} {od_check_number an_check_number : Option Addr} {sl_check_number : Array (Option Value)} {oc_check_number kV_check_number dc_check_number pm_check_number cd_check_number ct_check_number : Value}
    {a_block_of : Addr} {od_block_of an_block_of : Option Addr} {sl_block_of : Array (Option Value)} {oc_block_of kV_block_of dc_block_of pm_block_of cd_block_of ct_block_of : Value}
    {a_done : Addr} {od_done an_done : Option Addr} {sl_done : Array (Option Value)} {oc_done kV_done dc_done pm_done cd_done ct_done : Value}
    {a_trail : Addr} {od_trail an_trail : Option Addr} {sl_trail : Array (Option Value)} {oc_trail kV_trail dc_trail pm_trail cd_trail ct_trail : Value}
    {a_ahead : Addr} {od_ahead an_ahead : Option Addr} {sl_ahead : Array (Option Value)} {oc_ahead kV_ahead dc_ahead pm_ahead cd_ahead ct_ahead : Value}
    {a_check_trick : Addr} {od_check_trick an_check_trick : Option Addr} {sl_check_trick : Array (Option Value)} {oc_check_trick kV_check_trick dc_check_trick pm_check_trick cd_check_trick ct_check_trick : Value}
    {a_trick_block : Addr} {od_trick_block an_trick_block : Option Addr} {sl_trick_block : Array (Option Value)} {oc_trick_block kV_trick_block dc_trick_block pm_trick_block cd_trick_block ct_trick_block : Value}
    {a_made_of : Addr} {od_made_of an_made_of : Option Addr} {sl_made_of : Array (Option Value)} {oc_made_of kV_made_of dc_made_of pm_made_of cd_made_of ct_made_of : Value}
    {a_made_with : Addr} {od_made_with an_made_with : Option Addr} {sl_made_with : Array (Option Value)} {oc_made_with kV_made_with dc_made_with pm_made_with cd_made_with ct_made_with : Value}
    {a_chained : Addr} {od_chained an_chained : Option Addr} {sl_chained : Array (Option Value)} {oc_chained kV_chained dc_chained pm_chained cd_chained ct_chained : Value}
    {a_check_tricks : Addr} {od_check_tricks an_check_tricks : Option Addr} {sl_check_tricks : Array (Option Value)} {oc_check_tricks kV_check_tricks dc_check_tricks pm_check_tricks cd_check_tricks ct_check_tricks : Value}
    {a_made_of_all : Addr} {od_made_of_all an_made_of_all : Option Addr} {sl_made_of_all : Array (Option Value)} {oc_made_of_all kV_made_of_all dc_made_of_all pm_made_of_all cd_made_of_all ct_made_of_all : Value}
    {a_ring_of : Addr} {od_ring_of an_ring_of : Option Addr} {sl_ring_of : Array (Option Value)} {oc_ring_of kV_ring_of dc_ring_of pm_ring_of cd_ring_of ct_ring_of : Value}
    {a_rounds : Addr} {od_rounds an_rounds : Option Addr} {sl_rounds : Array (Option Value)} {oc_rounds kV_rounds dc_rounds pm_rounds cd_rounds ct_rounds : Value}
    {a_unseen_path : Addr} {od_unseen_path an_unseen_path : Option Addr} {sl_unseen_path : Array (Option Value)} {oc_unseen_path kV_unseen_path dc_unseen_path pm_unseen_path cd_unseen_path ct_unseen_path : Value}
    {a_ring_at_end : Addr} {od_ring_at_end an_ring_at_end : Option Addr} {sl_ring_at_end : Array (Option Value)} {oc_ring_at_end kV_ring_at_end dc_ring_at_end pm_ring_at_end cd_ring_at_end ct_ring_at_end : Value}
    {a_total : Addr} {od_total an_total : Option Addr} {sl_total : Array (Option Value)} {oc_total kV_total dc_total pm_total cd_total ct_total : Value}
    {a_check_weights : Addr} {od_check_weights an_check_weights : Option Addr} {sl_check_weights : Array (Option Value)} {oc_check_weights kV_check_weights dc_check_weights pm_check_weights cd_check_weights ct_check_weights : Value}
    {a_check_sum : Addr} {od_check_sum an_check_sum : Option Addr} {sl_check_sum : Array (Option Value)} {oc_check_sum kV_check_sum dc_check_sum pm_check_sum cd_check_sum ct_check_sum : Value}
    {a_sum_block : Addr} {od_sum_block an_sum_block : Option Addr} {sl_sum_block : Array (Option Value)} {oc_sum_block kV_sum_block dc_sum_block pm_sum_block cd_sum_block ct_sum_block : Value}
    {a_weight_at : Addr} {od_weight_at an_weight_at : Option Addr} {sl_weight_at : Array (Option Value)} {oc_weight_at kV_weight_at dc_weight_at pm_weight_at cd_weight_at ct_weight_at : Value}
    {a__law_taken : Addr} {od__law_taken an__law_taken : Option Addr} {sl__law_taken : Array (Option Value)} {oc__law_taken kV__law_taken dc__law_taken pm__law_taken cd__law_taken ct__law_taken : Value}
    {a__law_odd_number : Addr} {od__law_odd_number an__law_odd_number : Option Addr} {sl__law_odd_number : Array (Option Value)} {oc__law_odd_number kV__law_odd_number dc__law_odd_number pm__law_odd_number cd__law_odd_number ct__law_odd_number : Value}
    {a__law_call : Addr} {od__law_call an__law_call : Option Addr} {sl__law_call : Array (Option Value)} {oc__law_call kV__law_call dc__law_call pm__law_call cd__law_call ct__law_call : Value}
    {a_law : Addr} {od_law an_law : Option Addr} {sl_law : Array (Option Value)} {oc_law kV_law dc_law pm_law cd_law ct_law : Value}
    {C_Trick : Addr}
    {a_Trick___init__ : Addr} {od_Trick___init__ an_Trick___init__ : Option Addr} {sl_Trick___init__ : Array (Option Value)} {oc_Trick___init__ kV_Trick___init__ dc_Trick___init__ pm_Trick___init__ cd_Trick___init__ ct_Trick___init__ : Value}
    {pr_Trick_base : Addr} {rs_Trick_base : List Value}
    {a_Trick_base : Addr} {od_Trick_base an_Trick_base : Option Addr} {sl_Trick_base : Array (Option Value)} {oc_Trick_base kV_Trick_base dc_Trick_base pm_Trick_base cd_Trick_base ct_Trick_base : Value}
    {pr_Trick_take : Addr} {rs_Trick_take : List Value}
    {a_Trick_take : Addr} {od_Trick_take an_Trick_take : Option Addr} {sl_Trick_take : Array (Option Value)} {oc_Trick_take kV_Trick_take dc_Trick_take pm_Trick_take cd_Trick_take ct_Trick_take : Value}
    {pr_Trick_times : Addr} {rs_Trick_times : List Value}
    {a_Trick_times : Addr} {od_Trick_times an_Trick_times : Option Addr} {sl_Trick_times : Array (Option Value)} {oc_Trick_times kV_Trick_times dc_Trick_times pm_Trick_times cd_Trick_times ct_Trick_times : Value}
    {a_Trick___eq__ : Addr} {od_Trick___eq__ an_Trick___eq__ : Option Addr} {sl_Trick___eq__ : Array (Option Value)} {oc_Trick___eq__ kV_Trick___eq__ dc_Trick___eq__ pm_Trick___eq__ cd_Trick___eq__ ct_Trick___eq__ : Value}
    {C_Reckoner : Addr}
    {a_Reckoner___init__ : Addr} {od_Reckoner___init__ an_Reckoner___init__ : Option Addr} {sl_Reckoner___init__ : Array (Option Value)} {oc_Reckoner___init__ kV_Reckoner___init__ dc_Reckoner___init__ pm_Reckoner___init__ cd_Reckoner___init__ ct_Reckoner___init__ : Value}
    {pr_Reckoner_now : Addr} {rs_Reckoner_now : List Value}
    {a_Reckoner_now : Addr} {od_Reckoner_now an_Reckoner_now : Option Addr} {sl_Reckoner_now : Array (Option Value)} {oc_Reckoner_now kV_Reckoner_now dc_Reckoner_now pm_Reckoner_now cd_Reckoner_now ct_Reckoner_now : Value}
    {pr_Reckoner_tricks : Addr} {rs_Reckoner_tricks : List Value}
    {a_Reckoner_tricks : Addr} {od_Reckoner_tricks an_Reckoner_tricks : Option Addr} {sl_Reckoner_tricks : Array (Option Value)} {oc_Reckoner_tricks kV_Reckoner_tricks dc_Reckoner_tricks pm_Reckoner_tricks cd_Reckoner_tricks ct_Reckoner_tricks : Value}
    {a_Reckoner_step : Addr} {od_Reckoner_step an_Reckoner_step : Option Addr} {sl_Reckoner_step : Array (Option Value)} {oc_Reckoner_step kV_Reckoner_step dc_Reckoner_step pm_Reckoner_step cd_Reckoner_step ct_Reckoner_step : Value}
    {a_Reckoner_undo : Addr} {od_Reckoner_undo an_Reckoner_undo : Option Addr} {sl_Reckoner_undo : Array (Option Value)} {oc_Reckoner_undo kV_Reckoner_undo dc_Reckoner_undo pm_Reckoner_undo cd_Reckoner_undo ct_Reckoner_undo : Value}
    {a_Reckoner_copy : Addr} {od_Reckoner_copy an_Reckoner_copy : Option Addr} {sl_Reckoner_copy : Array (Option Value)} {oc_Reckoner_copy kV_Reckoner_copy dc_Reckoner_copy pm_Reckoner_copy cd_Reckoner_copy ct_Reckoner_copy : Value}
    {a_Reckoner___len__ : Addr} {od_Reckoner___len__ an_Reckoner___len__ : Option Addr} {sl_Reckoner___len__ : Array (Option Value)} {oc_Reckoner___len__ kV_Reckoner___len__ dc_Reckoner___len__ pm_Reckoner___len__ cd_Reckoner___len__ ct_Reckoner___len__ : Value}
    {C_Sum : Addr}
    {a_Sum___init__ : Addr} {od_Sum___init__ an_Sum___init__ : Option Addr} {sl_Sum___init__ : Array (Option Value)} {oc_Sum___init__ kV_Sum___init__ dc_Sum___init__ pm_Sum___init__ cd_Sum___init__ ct_Sum___init__ : Value}
    {pr_Sum_base : Addr} {rs_Sum_base : List Value}
    {a_Sum_base : Addr} {od_Sum_base an_Sum_base : Option Addr} {sl_Sum_base : Array (Option Value)} {oc_Sum_base kV_Sum_base dc_Sum_base pm_Sum_base cd_Sum_base ct_Sum_base : Value}
    {pr_Sum_take : Addr} {rs_Sum_take : List Value}
    {a_Sum_take : Addr} {od_Sum_take an_Sum_take : Option Addr} {sl_Sum_take : Array (Option Value)} {oc_Sum_take kV_Sum_take dc_Sum_take pm_Sum_take cd_Sum_take ct_Sum_take : Value}
    {pr_Sum_first : Addr} {rs_Sum_first : List Value}
    {a_Sum_first : Addr} {od_Sum_first an_Sum_first : Option Addr} {sl_Sum_first : Array (Option Value)} {oc_Sum_first kV_Sum_first dc_Sum_first pm_Sum_first cd_Sum_first ct_Sum_first : Value}
    {pr_Sum_loop : Addr} {rs_Sum_loop : List Value}
    {a_Sum_loop : Addr} {od_Sum_loop an_Sum_loop : Option Addr} {sl_Sum_loop : Array (Option Value)} {oc_Sum_loop kV_Sum_loop dc_Sum_loop pm_Sum_loop cd_Sum_loop ct_Sum_loop : Value}
    {a_Sum___eq__ : Addr} {od_Sum___eq__ an_Sum___eq__ : Option Addr} {sl_Sum___eq__ : Array (Option Value)} {oc_Sum___eq__ kV_Sum___eq__ dc_Sum___eq__ pm_Sum___eq__ cd_Sum___eq__ ct_Sum___eq__ : Value}
    {a_BadNumber___init__ cda_BadNumber___init__ cc_BadNumber___init__ N_BadNumber___init__ : Addr} {od_BadNumber___init__ an_BadNumber___init__ cdd_BadNumber___init__ cld_BadNumber___init__ dd_BadNumber___init__ : Option Addr} {sl_BadNumber___init__ ccs_BadNumber___init__ csl_BadNumber___init__ : Array (Option Value)} {oc_BadNumber___init__ dc_BadNumber___init__ pm_BadNumber___init__ ct_BadNumber___init__ ccl_BadNumber___init__ cl_BadNumber___init__ : Value} {vs_BadNumber___init__ : Array Value} {file_BadNumber___init__ nm_BadNumber___init__ qn_BadNumber___init__ : Str} {tf_BadNumber___init__ : Tok} {bs_BadNumber___init__ bm_BadNumber___init__ sub_BadNumber___init__ : List Value} {sn_BadNumber___init__ : List Str} {ab_BadNumber___init__ : Bool} {col_BadNumber___init__ : Option Bool} {k0_BadNumber___init__ k1_BadNumber___init__ k2_BadNumber___init__ k3_BadNumber___init__ k5_BadNumber___init__ : Option Value}
    {a_BadWeights___init__ cda_BadWeights___init__ cc_BadWeights___init__ N_BadWeights___init__ : Addr} {od_BadWeights___init__ an_BadWeights___init__ cdd_BadWeights___init__ cld_BadWeights___init__ dd_BadWeights___init__ : Option Addr} {sl_BadWeights___init__ ccs_BadWeights___init__ csl_BadWeights___init__ : Array (Option Value)} {oc_BadWeights___init__ dc_BadWeights___init__ pm_BadWeights___init__ ct_BadWeights___init__ ccl_BadWeights___init__ cl_BadWeights___init__ : Value} {vs_BadWeights___init__ : Array Value} {file_BadWeights___init__ nm_BadWeights___init__ qn_BadWeights___init__ : Str} {tf_BadWeights___init__ : Tok} {bs_BadWeights___init__ bm_BadWeights___init__ sub_BadWeights___init__ : List Value} {sn_BadWeights___init__ : List Str} {ab_BadWeights___init__ : Bool} {col_BadWeights___init__ : Option Bool} {k0_BadWeights___init__ k1_BadWeights___init__ k2_BadWeights___init__ k3_BadWeights___init__ k5_BadWeights___init__ : Option Value}
    {a_BadTricks___init__ cda_BadTricks___init__ cc_BadTricks___init__ N_BadTricks___init__ : Addr} {od_BadTricks___init__ an_BadTricks___init__ cdd_BadTricks___init__ cld_BadTricks___init__ dd_BadTricks___init__ : Option Addr} {sl_BadTricks___init__ ccs_BadTricks___init__ csl_BadTricks___init__ : Array (Option Value)} {oc_BadTricks___init__ dc_BadTricks___init__ pm_BadTricks___init__ ct_BadTricks___init__ ccl_BadTricks___init__ cl_BadTricks___init__ : Value} {vs_BadTricks___init__ : Array Value} {file_BadTricks___init__ nm_BadTricks___init__ qn_BadTricks___init__ : Str} {tf_BadTricks___init__ : Tok} {bs_BadTricks___init__ bm_BadTricks___init__ sub_BadTricks___init__ : List Value} {sn_BadTricks___init__ : List Str} {ab_BadTricks___init__ : Bool} {col_BadTricks___init__ : Option Bool} {k0_BadTricks___init__ k1_BadTricks___init__ k2_BadTricks___init__ k3_BadTricks___init__ k5_BadTricks___init__ : Option Value}
    (gx_TrickError : PySem.W.nsIn K mainGlobals "TrickError" = some (some (.ref C_TrickError)))
    (x_TrickError : PySem.W.excIn K C_TrickError [.type "ValueError", .type "Exception", .type "BaseException", .type "object"] "ValueError.__new__" = true)
    (k_TrickError : PySem.W.keepIn K (.ref C_TrickError) = true)
    (s_TrickError : PySem.W.subIn K (.ref C_TrickError) (.type "BaseException") = some true)
    (t_TrickError : PySem.W.typeIn K (.ref C_TrickError) = some (.type "type"))
    (gx_BadBase : PySem.W.nsIn K mainGlobals "BadBase" = some (some (.ref C_BadBase)))
    (x_BadBase : PySem.W.excIn K C_BadBase [.type "ValueError", .type "Exception", .type "BaseException", .type "object"] "ValueError.__new__" = true)
    (k_BadBase : PySem.W.keepIn K (.ref C_BadBase) = true)
    (s_BadBase : PySem.W.subIn K (.ref C_BadBase) (.type "BaseException") = some true)
    (t_BadBase : PySem.W.typeIn K (.ref C_BadBase) = some (.type "type"))
    (gx_BadTake : PySem.W.nsIn K mainGlobals "BadTake" = some (some (.ref C_BadTake)))
    (x_BadTake : PySem.W.excIn K C_BadTake [.type "ValueError", .type "Exception", .type "BaseException", .type "object"] "ValueError.__new__" = true)
    (k_BadTake : PySem.W.keepIn K (.ref C_BadTake) = true)
    (s_BadTake : PySem.W.subIn K (.ref C_BadTake) (.type "BaseException") = some true)
    (t_BadTake : PySem.W.typeIn K (.ref C_BadTake) = some (.type "type"))
    (gx_BadTimes : PySem.W.nsIn K mainGlobals "BadTimes" = some (some (.ref C_BadTimes)))
    (x_BadTimes : PySem.W.excIn K C_BadTimes [.type "ValueError", .type "Exception", .type "BaseException", .type "object"] "ValueError.__new__" = true)
    (k_BadTimes : PySem.W.keepIn K (.ref C_BadTimes) = true)
    (s_BadTimes : PySem.W.subIn K (.ref C_BadTimes) (.type "BaseException") = some true)
    (t_BadTimes : PySem.W.typeIn K (.ref C_BadTimes) = some (.type "type"))
    (gx_BadTrick : PySem.W.nsIn K mainGlobals "BadTrick" = some (some (.ref C_BadTrick)))
    (x_BadTrick : PySem.W.excIn K C_BadTrick [.type "ValueError", .type "Exception", .type "BaseException", .type "object"] "ValueError.__new__" = true)
    (k_BadTrick : PySem.W.keepIn K (.ref C_BadTrick) = true)
    (s_BadTrick : PySem.W.subIn K (.ref C_BadTrick) (.type "BaseException") = some true)
    (t_BadTrick : PySem.W.typeIn K (.ref C_BadTrick) = some (.type "type"))
    (gx_BadSum : PySem.W.nsIn K mainGlobals "BadSum" = some (some (.ref C_BadSum)))
    (x_BadSum : PySem.W.excIn K C_BadSum [.type "ValueError", .type "Exception", .type "BaseException", .type "object"] "ValueError.__new__" = true)
    (k_BadSum : PySem.W.keepIn K (.ref C_BadSum) = true)
    (s_BadSum : PySem.W.subIn K (.ref C_BadSum) (.type "BaseException") = some true)
    (t_BadSum : PySem.W.typeIn K (.ref C_BadSum) = some (.type "type"))
    (gx_BadNumber : PySem.W.nsIn K mainGlobals "BadNumber" = some (some (.ref C_BadNumber)))
    (k_BadNumber : PySem.W.keepIn K (.ref C_BadNumber) = true)
    (s_BadNumber : PySem.W.subIn K (.ref C_BadNumber) (.type "BaseException") = some true)
    (t_BadNumber : PySem.W.typeIn K (.ref C_BadNumber) = some (.type "type"))
    (hd_BadNumber : PySem.W.hasDictIn K C_BadNumber = true)
    (gx_BadWeights : PySem.W.nsIn K mainGlobals "BadWeights" = some (some (.ref C_BadWeights)))
    (k_BadWeights : PySem.W.keepIn K (.ref C_BadWeights) = true)
    (s_BadWeights : PySem.W.subIn K (.ref C_BadWeights) (.type "BaseException") = some true)
    (t_BadWeights : PySem.W.typeIn K (.ref C_BadWeights) = some (.type "type"))
    (gx_BadTricks : PySem.W.nsIn K mainGlobals "BadTricks" = some (some (.ref C_BadTricks)))
    (k_BadTricks : PySem.W.keepIn K (.ref C_BadTricks) = true)
    (s_BadTricks : PySem.W.subIn K (.ref C_BadTricks) (.type "BaseException") = some true)
    (t_BadTricks : PySem.W.typeIn K (.ref C_BadTricks) = some (.type "type"))
    (su_TrickError_BadNumber : PySem.W.subIn K (.ref C_TrickError) (.ref C_BadNumber) = some false)
    (su_BadBase_BadNumber : PySem.W.subIn K (.ref C_BadBase) (.ref C_BadNumber) = some false)
    (su_BadTake_BadNumber : PySem.W.subIn K (.ref C_BadTake) (.ref C_BadNumber) = some false)
    (su_BadTimes_BadNumber : PySem.W.subIn K (.ref C_BadTimes) (.ref C_BadNumber) = some false)
    (su_BadTrick_BadNumber : PySem.W.subIn K (.ref C_BadTrick) (.ref C_BadNumber) = some false)
    (su_BadSum_BadNumber : PySem.W.subIn K (.ref C_BadSum) (.ref C_BadNumber) = some false)
    (su_BadNumber_BadNumber : PySem.W.subIn K (.ref C_BadNumber) (.ref C_BadNumber) = some true)
    (su_BadWeights_BadNumber : PySem.W.subIn K (.ref C_BadWeights) (.ref C_BadNumber) = some false)
    (su_BadTricks_BadNumber : PySem.W.subIn K (.ref C_BadTricks) (.ref C_BadNumber) = some false)
    (cx_GREATEST_NUMBER : PySem.W.nsIn K mainGlobals "GREATEST_NUMBER" = some (some (.int 10000000000000000000000000000000000000000 tk_GREATEST_NUMBER)))
    (cx_LEAST_BASE : PySem.W.nsIn K mainGlobals "LEAST_BASE" = some (some (.int 2 tk_LEAST_BASE)))
    (cx_GREATEST_BASE : PySem.W.nsIn K mainGlobals "GREATEST_BASE" = some (some (.int 16 tk_GREATEST_BASE)))
    (cx_GREATEST_TAKE : PySem.W.nsIn K mainGlobals "GREATEST_TAKE" = some (some (.int 2 tk_GREATEST_TAKE)))
    (cx_GREATEST_TIMES : PySem.W.nsIn K mainGlobals "GREATEST_TIMES" = some (some (.int 100 tk_GREATEST_TIMES)))
    (cx_MOST_ROUNDS : PySem.W.nsIn K mainGlobals "MOST_ROUNDS" = some (some (.int 200 tk_MOST_ROUNDS)))
    (cx_MOST_TRICKS : PySem.W.nsIn K mainGlobals "MOST_TRICKS" = some (some (.int 4 tk_MOST_TRICKS)))
    (cx_GREATEST_WEIGHT : PySem.W.nsIn K mainGlobals "GREATEST_WEIGHT" = some (some (.int 1000000 tk_GREATEST_WEIGHT)))
    (cx_MOST_WEIGHTS : PySem.W.nsIn K mainGlobals "MOST_WEIGHTS" = some (some (.int 12 tk_MOST_WEIGHTS)))
    (gf__wall : PySem.W.nsIn K mainGlobals "_wall" = some (some (.ref a__wall)))
    (l__wall : K.lookup a__wall = some ⟨oc__wall, od__wall, .func (PySem.W.fnOf "_wall" "_wall" (defArgs s__wall) (defBody s__wall) (defScope s__wall) .none kV__wall dc__wall pm__wall an__wall cd__wall ct__wall), sl__wall⟩)
    (c__wall : PySem.W.codeIn K cd__wall "_wall" = true)
    (kp__wall : PySem.W.keepIn K (.ref a__wall) = true)
    (gf_is_integer : PySem.W.nsIn K mainGlobals "is_integer" = some (some (.ref a_is_integer)))
    (l_is_integer : K.lookup a_is_integer = some ⟨oc_is_integer, od_is_integer, .func (PySem.W.fnOf "is_integer" "is_integer" (defArgs s_is_integer) (defBody s_is_integer) (defScope s_is_integer) .none kV_is_integer dc_is_integer pm_is_integer an_is_integer cd_is_integer ct_is_integer), sl_is_integer⟩)
    (c_is_integer : PySem.W.codeIn K cd_is_integer "is_integer" = true)
    (kp_is_integer : PySem.W.keepIn K (.ref a_is_integer) = true)
    (gf_is_tuple : PySem.W.nsIn K mainGlobals "is_tuple" = some (some (.ref a_is_tuple)))
    (l_is_tuple : K.lookup a_is_tuple = some ⟨oc_is_tuple, od_is_tuple, .func (PySem.W.fnOf "is_tuple" "is_tuple" (defArgs s_is_tuple) (defBody s_is_tuple) (defScope s_is_tuple) .none kV_is_tuple dc_is_tuple pm_is_tuple an_is_tuple cd_is_tuple ct_is_tuple), sl_is_tuple⟩)
    (c_is_tuple : PySem.W.codeIn K cd_is_tuple "is_tuple" = true)
    (kp_is_tuple : PySem.W.keepIn K (.ref a_is_tuple) = true)
    (gf_is_list_or_tuple : PySem.W.nsIn K mainGlobals "is_list_or_tuple" = some (some (.ref a_is_list_or_tuple)))
    (l_is_list_or_tuple : K.lookup a_is_list_or_tuple = some ⟨oc_is_list_or_tuple, od_is_list_or_tuple, .func (PySem.W.fnOf "is_list_or_tuple" "is_list_or_tuple" (defArgs s_is_list_or_tuple) (defBody s_is_list_or_tuple) (defScope s_is_list_or_tuple) .none kV_is_list_or_tuple dc_is_list_or_tuple pm_is_list_or_tuple an_is_list_or_tuple cd_is_list_or_tuple ct_is_list_or_tuple), sl_is_list_or_tuple⟩)
    (c_is_list_or_tuple : PySem.W.codeIn K cd_is_list_or_tuple "is_list_or_tuple" = true)
    (kp_is_list_or_tuple : PySem.W.keepIn K (.ref a_is_list_or_tuple) = true)
    (gf_is_number : PySem.W.nsIn K mainGlobals "is_number" = some (some (.ref a_is_number)))
    (l_is_number : K.lookup a_is_number = some ⟨oc_is_number, od_is_number, .func (PySem.W.fnOf "is_number" "is_number" (defArgs s_is_number) (defBody s_is_number) (defScope s_is_number) .none kV_is_number dc_is_number pm_is_number an_is_number cd_is_number ct_is_number), sl_is_number⟩)
    (c_is_number : PySem.W.codeIn K cd_is_number "is_number" = true)
    (kp_is_number : PySem.W.keepIn K (.ref a_is_number) = true)
    (gf_first_wrong : PySem.W.nsIn K mainGlobals "first_wrong" = some (some (.ref a_first_wrong)))
    (l_first_wrong : K.lookup a_first_wrong = some ⟨oc_first_wrong, od_first_wrong, .func (PySem.W.fnOf "first_wrong" "first_wrong" (defArgs s_first_wrong) (defBody s_first_wrong) (defScope s_first_wrong) .none kV_first_wrong dc_first_wrong pm_first_wrong an_first_wrong cd_first_wrong ct_first_wrong), sl_first_wrong⟩)
    (c_first_wrong : PySem.W.codeIn K cd_first_wrong "first_wrong" = true)
    (kp_first_wrong : PySem.W.keepIn K (.ref a_first_wrong) = true)
    (gf_check_base : PySem.W.nsIn K mainGlobals "check_base" = some (some (.ref a_check_base)))
    (l_check_base : K.lookup a_check_base = some ⟨oc_check_base, od_check_base, .func (PySem.W.fnOf "check_base" "check_base" (defArgs s_check_base) (defBody s_check_base) (defScope s_check_base) .none kV_check_base dc_check_base pm_check_base an_check_base cd_check_base ct_check_base), sl_check_base⟩)
    (c_check_base : PySem.W.codeIn K cd_check_base "check_base" = true)
    (kp_check_base : PySem.W.keepIn K (.ref a_check_base) = true)
    (gf_check_take : PySem.W.nsIn K mainGlobals "check_take" = some (some (.ref a_check_take)))
    (l_check_take : K.lookup a_check_take = some ⟨oc_check_take, od_check_take, .func (PySem.W.fnOf "check_take" "check_take" (defArgs s_check_take) (defBody s_check_take) (defScope s_check_take) .none kV_check_take dc_check_take pm_check_take an_check_take cd_check_take ct_check_take), sl_check_take⟩)
    (c_check_take : PySem.W.codeIn K cd_check_take "check_take" = true)
    (kp_check_take : PySem.W.keepIn K (.ref a_check_take) = true)
    (gf_check_stretch : PySem.W.nsIn K mainGlobals "check_stretch" = some (some (.ref a_check_stretch)))
    (l_check_stretch : K.lookup a_check_stretch = some ⟨oc_check_stretch, od_check_stretch, .func (PySem.W.fnOf "check_stretch" "check_stretch" (defArgs s_check_stretch) (defBody s_check_stretch) (defScope s_check_stretch) .none kV_check_stretch dc_check_stretch pm_check_stretch an_check_stretch cd_check_stretch ct_check_stretch), sl_check_stretch⟩)
    (c_check_stretch : PySem.W.codeIn K cd_check_stretch "check_stretch" = true)
    (kp_check_stretch : PySem.W.keepIn K (.ref a_check_stretch) = true)
    (gf_check_number : PySem.W.nsIn K mainGlobals "check_number" = some (some (.ref a_check_number)))
    (l_check_number : K.lookup a_check_number = some ⟨oc_check_number, od_check_number, .func (PySem.W.fnOf "check_number" "check_number" (defArgs s_check_number) (defBody s_check_number) (defScope s_check_number) .none kV_check_number dc_check_number pm_check_number an_check_number cd_check_number ct_check_number), sl_check_number⟩)
    (c_check_number : PySem.W.codeIn K cd_check_number "check_number" = true)
    (kp_check_number : PySem.W.keepIn K (.ref a_check_number) = true)
    (gf_block_of : PySem.W.nsIn K mainGlobals "block_of" = some (some (.ref a_block_of)))
    (l_block_of : K.lookup a_block_of = some ⟨oc_block_of, od_block_of, .func (PySem.W.fnOf "block_of" "block_of" (defArgs s_block_of) (defBody s_block_of) (defScope s_block_of) .none kV_block_of dc_block_of pm_block_of an_block_of cd_block_of ct_block_of), sl_block_of⟩)
    (c_block_of : PySem.W.codeIn K cd_block_of "block_of" = true)
    (kp_block_of : PySem.W.keepIn K (.ref a_block_of) = true)
    (gf_done : PySem.W.nsIn K mainGlobals "done" = some (some (.ref a_done)))
    (l_done : K.lookup a_done = some ⟨oc_done, od_done, .func (PySem.W.fnOf "done" "done" (defArgs s_done) (defBody s_done) (defScope s_done) .none kV_done dc_done pm_done an_done cd_done ct_done), sl_done⟩)
    (c_done : PySem.W.codeIn K cd_done "done" = true)
    (kp_done : PySem.W.keepIn K (.ref a_done) = true)
    (gf_trail : PySem.W.nsIn K mainGlobals "trail" = some (some (.ref a_trail)))
    (l_trail : K.lookup a_trail = some ⟨oc_trail, od_trail, .func (PySem.W.fnOf "trail" "trail" (defArgs s_trail) (defBody s_trail) (defScope s_trail) .none kV_trail dc_trail pm_trail an_trail cd_trail ct_trail), sl_trail⟩)
    (c_trail : PySem.W.codeIn K cd_trail "trail" = true)
    (kp_trail : PySem.W.keepIn K (.ref a_trail) = true)
    (gf_ahead : PySem.W.nsIn K mainGlobals "ahead" = some (some (.ref a_ahead)))
    (l_ahead : K.lookup a_ahead = some ⟨oc_ahead, od_ahead, .func (PySem.W.fnOf "ahead" "ahead" (defArgs s_ahead) (defBody s_ahead) (defScope s_ahead) .none kV_ahead dc_ahead pm_ahead an_ahead cd_ahead ct_ahead), sl_ahead⟩)
    (c_ahead : PySem.W.codeIn K cd_ahead "ahead" = true)
    (kp_ahead : PySem.W.keepIn K (.ref a_ahead) = true)
    (gf_check_trick : PySem.W.nsIn K mainGlobals "check_trick" = some (some (.ref a_check_trick)))
    (l_check_trick : K.lookup a_check_trick = some ⟨oc_check_trick, od_check_trick, .func (PySem.W.fnOf "check_trick" "check_trick" (defArgs s_check_trick) (defBody s_check_trick) (defScope s_check_trick) .none kV_check_trick dc_check_trick pm_check_trick an_check_trick cd_check_trick ct_check_trick), sl_check_trick⟩)
    (c_check_trick : PySem.W.codeIn K cd_check_trick "check_trick" = true)
    (kp_check_trick : PySem.W.keepIn K (.ref a_check_trick) = true)
    (gf_trick_block : PySem.W.nsIn K mainGlobals "trick_block" = some (some (.ref a_trick_block)))
    (l_trick_block : K.lookup a_trick_block = some ⟨oc_trick_block, od_trick_block, .func (PySem.W.fnOf "trick_block" "trick_block" (defArgs s_trick_block) (defBody s_trick_block) (defScope s_trick_block) .none kV_trick_block dc_trick_block pm_trick_block an_trick_block cd_trick_block ct_trick_block), sl_trick_block⟩)
    (c_trick_block : PySem.W.codeIn K cd_trick_block "trick_block" = true)
    (kp_trick_block : PySem.W.keepIn K (.ref a_trick_block) = true)
    (gf_made_of : PySem.W.nsIn K mainGlobals "made_of" = some (some (.ref a_made_of)))
    (l_made_of : K.lookup a_made_of = some ⟨oc_made_of, od_made_of, .func (PySem.W.fnOf "made_of" "made_of" (defArgs s_made_of) (defBody s_made_of) (defScope s_made_of) .none kV_made_of dc_made_of pm_made_of an_made_of cd_made_of ct_made_of), sl_made_of⟩)
    (c_made_of : PySem.W.codeIn K cd_made_of "made_of" = true)
    (kp_made_of : PySem.W.keepIn K (.ref a_made_of) = true)
    (gf_made_with : PySem.W.nsIn K mainGlobals "made_with" = some (some (.ref a_made_with)))
    (l_made_with : K.lookup a_made_with = some ⟨oc_made_with, od_made_with, .func (PySem.W.fnOf "made_with" "made_with" (defArgs s_made_with) (defBody s_made_with) (defScope s_made_with) .none kV_made_with dc_made_with pm_made_with an_made_with cd_made_with ct_made_with), sl_made_with⟩)
    (c_made_with : PySem.W.codeIn K cd_made_with "made_with" = true)
    (kp_made_with : PySem.W.keepIn K (.ref a_made_with) = true)
    (gf_chained : PySem.W.nsIn K mainGlobals "chained" = some (some (.ref a_chained)))
    (l_chained : K.lookup a_chained = some ⟨oc_chained, od_chained, .func (PySem.W.fnOf "chained" "chained" (defArgs s_chained) (defBody s_chained) (defScope s_chained) .none kV_chained dc_chained pm_chained an_chained cd_chained ct_chained), sl_chained⟩)
    (c_chained : PySem.W.codeIn K cd_chained "chained" = true)
    (kp_chained : PySem.W.keepIn K (.ref a_chained) = true)
    (gf_check_tricks : PySem.W.nsIn K mainGlobals "check_tricks" = some (some (.ref a_check_tricks)))
    (l_check_tricks : K.lookup a_check_tricks = some ⟨oc_check_tricks, od_check_tricks, .func (PySem.W.fnOf "check_tricks" "check_tricks" (defArgs s_check_tricks) (defBody s_check_tricks) (defScope s_check_tricks) .none kV_check_tricks dc_check_tricks pm_check_tricks an_check_tricks cd_check_tricks ct_check_tricks), sl_check_tricks⟩)
    (c_check_tricks : PySem.W.codeIn K cd_check_tricks "check_tricks" = true)
    (kp_check_tricks : PySem.W.keepIn K (.ref a_check_tricks) = true)
    (gf_made_of_all : PySem.W.nsIn K mainGlobals "made_of_all" = some (some (.ref a_made_of_all)))
    (l_made_of_all : K.lookup a_made_of_all = some ⟨oc_made_of_all, od_made_of_all, .func (PySem.W.fnOf "made_of_all" "made_of_all" (defArgs s_made_of_all) (defBody s_made_of_all) (defScope s_made_of_all) .none kV_made_of_all dc_made_of_all pm_made_of_all an_made_of_all cd_made_of_all ct_made_of_all), sl_made_of_all⟩)
    (c_made_of_all : PySem.W.codeIn K cd_made_of_all "made_of_all" = true)
    (kp_made_of_all : PySem.W.keepIn K (.ref a_made_of_all) = true)
    (gf_ring_of : PySem.W.nsIn K mainGlobals "ring_of" = some (some (.ref a_ring_of)))
    (l_ring_of : K.lookup a_ring_of = some ⟨oc_ring_of, od_ring_of, .func (PySem.W.fnOf "ring_of" "ring_of" (defArgs s_ring_of) (defBody s_ring_of) (defScope s_ring_of) .none kV_ring_of dc_ring_of pm_ring_of an_ring_of cd_ring_of ct_ring_of), sl_ring_of⟩)
    (c_ring_of : PySem.W.codeIn K cd_ring_of "ring_of" = true)
    (kp_ring_of : PySem.W.keepIn K (.ref a_ring_of) = true)
    (gf_rounds : PySem.W.nsIn K mainGlobals "rounds" = some (some (.ref a_rounds)))
    (l_rounds : K.lookup a_rounds = some ⟨oc_rounds, od_rounds, .func (PySem.W.fnOf "rounds" "rounds" (defArgs s_rounds) (defBody s_rounds) (defScope s_rounds) .none kV_rounds dc_rounds pm_rounds an_rounds cd_rounds ct_rounds), sl_rounds⟩)
    (c_rounds : PySem.W.codeIn K cd_rounds "rounds" = true)
    (kp_rounds : PySem.W.keepIn K (.ref a_rounds) = true)
    (gf_unseen_path : PySem.W.nsIn K mainGlobals "unseen_path" = some (some (.ref a_unseen_path)))
    (l_unseen_path : K.lookup a_unseen_path = some ⟨oc_unseen_path, od_unseen_path, .func (PySem.W.fnOf "unseen_path" "unseen_path" (defArgs s_unseen_path) (defBody s_unseen_path) (defScope s_unseen_path) .none kV_unseen_path dc_unseen_path pm_unseen_path an_unseen_path cd_unseen_path ct_unseen_path), sl_unseen_path⟩)
    (c_unseen_path : PySem.W.codeIn K cd_unseen_path "unseen_path" = true)
    (kp_unseen_path : PySem.W.keepIn K (.ref a_unseen_path) = true)
    (gf_ring_at_end : PySem.W.nsIn K mainGlobals "ring_at_end" = some (some (.ref a_ring_at_end)))
    (l_ring_at_end : K.lookup a_ring_at_end = some ⟨oc_ring_at_end, od_ring_at_end, .func (PySem.W.fnOf "ring_at_end" "ring_at_end" (defArgs s_ring_at_end) (defBody s_ring_at_end) (defScope s_ring_at_end) .none kV_ring_at_end dc_ring_at_end pm_ring_at_end an_ring_at_end cd_ring_at_end ct_ring_at_end), sl_ring_at_end⟩)
    (c_ring_at_end : PySem.W.codeIn K cd_ring_at_end "ring_at_end" = true)
    (kp_ring_at_end : PySem.W.keepIn K (.ref a_ring_at_end) = true)
    (gf_total : PySem.W.nsIn K mainGlobals "total" = some (some (.ref a_total)))
    (l_total : K.lookup a_total = some ⟨oc_total, od_total, .func (PySem.W.fnOf "total" "total" (defArgs s_total) (defBody s_total) (defScope s_total) .none kV_total dc_total pm_total an_total cd_total ct_total), sl_total⟩)
    (c_total : PySem.W.codeIn K cd_total "total" = true)
    (kp_total : PySem.W.keepIn K (.ref a_total) = true)
    (gf_check_weights : PySem.W.nsIn K mainGlobals "check_weights" = some (some (.ref a_check_weights)))
    (l_check_weights : K.lookup a_check_weights = some ⟨oc_check_weights, od_check_weights, .func (PySem.W.fnOf "check_weights" "check_weights" (defArgs s_check_weights) (defBody s_check_weights) (defScope s_check_weights) .none kV_check_weights dc_check_weights pm_check_weights an_check_weights cd_check_weights ct_check_weights), sl_check_weights⟩)
    (c_check_weights : PySem.W.codeIn K cd_check_weights "check_weights" = true)
    (kp_check_weights : PySem.W.keepIn K (.ref a_check_weights) = true)
    (gf_check_sum : PySem.W.nsIn K mainGlobals "check_sum" = some (some (.ref a_check_sum)))
    (l_check_sum : K.lookup a_check_sum = some ⟨oc_check_sum, od_check_sum, .func (PySem.W.fnOf "check_sum" "check_sum" (defArgs s_check_sum) (defBody s_check_sum) (defScope s_check_sum) .none kV_check_sum dc_check_sum pm_check_sum an_check_sum cd_check_sum ct_check_sum), sl_check_sum⟩)
    (c_check_sum : PySem.W.codeIn K cd_check_sum "check_sum" = true)
    (kp_check_sum : PySem.W.keepIn K (.ref a_check_sum) = true)
    (gf_sum_block : PySem.W.nsIn K mainGlobals "sum_block" = some (some (.ref a_sum_block)))
    (l_sum_block : K.lookup a_sum_block = some ⟨oc_sum_block, od_sum_block, .func (PySem.W.fnOf "sum_block" "sum_block" (defArgs s_sum_block) (defBody s_sum_block) (defScope s_sum_block) .none kV_sum_block dc_sum_block pm_sum_block an_sum_block cd_sum_block ct_sum_block), sl_sum_block⟩)
    (c_sum_block : PySem.W.codeIn K cd_sum_block "sum_block" = true)
    (kp_sum_block : PySem.W.keepIn K (.ref a_sum_block) = true)
    (gf_weight_at : PySem.W.nsIn K mainGlobals "weight_at" = some (some (.ref a_weight_at)))
    (l_weight_at : K.lookup a_weight_at = some ⟨oc_weight_at, od_weight_at, .func (PySem.W.fnOf "weight_at" "weight_at" (defArgs s_weight_at) (defBody s_weight_at) (defScope s_weight_at) .none kV_weight_at dc_weight_at pm_weight_at an_weight_at cd_weight_at ct_weight_at), sl_weight_at⟩)
    (c_weight_at : PySem.W.codeIn K cd_weight_at "weight_at" = true)
    (kp_weight_at : PySem.W.keepIn K (.ref a_weight_at) = true)
    (gf__law_taken : PySem.W.nsIn K mainGlobals "_law_taken" = some (some (.ref a__law_taken)))
    (l__law_taken : K.lookup a__law_taken = some ⟨oc__law_taken, od__law_taken, .func (PySem.W.fnOf "_law_taken" "_law_taken" (defArgs s__law_taken) (defBody s__law_taken) (defScope s__law_taken) .none kV__law_taken dc__law_taken pm__law_taken an__law_taken cd__law_taken ct__law_taken), sl__law_taken⟩)
    (c__law_taken : PySem.W.codeIn K cd__law_taken "_law_taken" = true)
    (kp__law_taken : PySem.W.keepIn K (.ref a__law_taken) = true)
    (gf__law_odd_number : PySem.W.nsIn K mainGlobals "_law_odd_number" = some (some (.ref a__law_odd_number)))
    (l__law_odd_number : K.lookup a__law_odd_number = some ⟨oc__law_odd_number, od__law_odd_number, .func (PySem.W.fnOf "_law_odd_number" "_law_odd_number" (defArgs s__law_odd_number) (defBody s__law_odd_number) (defScope s__law_odd_number) .none kV__law_odd_number dc__law_odd_number pm__law_odd_number an__law_odd_number cd__law_odd_number ct__law_odd_number), sl__law_odd_number⟩)
    (c__law_odd_number : PySem.W.codeIn K cd__law_odd_number "_law_odd_number" = true)
    (kp__law_odd_number : PySem.W.keepIn K (.ref a__law_odd_number) = true)
    (gf__law_call : PySem.W.nsIn K mainGlobals "_law_call" = some (some (.ref a__law_call)))
    (l__law_call : K.lookup a__law_call = some ⟨oc__law_call, od__law_call, .func (PySem.W.fnOf "_law_call" "_law_call" (defArgs s__law_call) (defBody s__law_call) (defScope s__law_call) .none kV__law_call dc__law_call pm__law_call an__law_call cd__law_call ct__law_call), sl__law_call⟩)
    (c__law_call : PySem.W.codeIn K cd__law_call "_law_call" = true)
    (kp__law_call : PySem.W.keepIn K (.ref a__law_call) = true)
    (gf_law : PySem.W.nsIn K mainGlobals "law" = some (some (.ref a_law)))
    (l_law : K.lookup a_law = some ⟨oc_law, od_law, .func (PySem.W.fnOf "law" "law" (defArgs s_law) (defBody s_law) (defScope s_law) .none kV_law dc_law pm_law an_law cd_law ct_law), sl_law⟩)
    (c_law : PySem.W.codeIn K cd_law "law" = true)
    (kp_law : PySem.W.keepIn K (.ref a_law) = true)
    (gx_Trick : PySem.W.nsIn K mainGlobals "Trick" = some (some (.ref C_Trick)))
    (pg_Trick : PySem.W.plainGet K C_Trick Str.empty = true)
    (hd_Trick : PySem.W.hasDictIn K C_Trick = true)
    (po_Trick : PySem.W.plainOver K C_Trick = true)
    (sa_Trick : PySem.W.findIn K (.ref C_Trick) "__setattr__" = some (some (.builtin "object.__setattr__")))
    (mk_Trick : PySem.W.makesIn K C_Trick = true)
    (kc_Trick : PySem.W.keepIn K (.ref C_Trick) = true)
    (cc_Trick : PySem.W.findIn K (.ref C_Trick) "__class__" = some (some (.builtin "object.__class__")))
    (mo_Trick : PySem.W.mroIn K C_Trick (.type "object") = some true)
    (sp_cls : PySem.W.specialIn K (.builtin "object.__class__") "__get__" = some (some (.builtin "getset_descriptor.__get__")))
    (tk_cls : PySem.W.takesIn K (.builtin "object.__class__") = some true)
    (ki_Trick_int : PySem.W.kitOne K (.ref C_Trick) (.type "int") = some false)
    (ki_Trick_bool : PySem.W.kitOne K (.ref C_Trick) (.type "bool") = some false)
    (ki_Trick_tuple : PySem.W.kitOne K (.ref C_Trick) (.type "tuple") = some false)
    (ki_Trick_list : PySem.W.kitOne K (.ref C_Trick) (.type "list") = some false)
    (nf_Trick_tuple : PySem.W.subIn K (.type "tuple") (.ref C_Trick) = some false)
    (kis_Trick : PySem.W.kitOne K (.ref C_Trick) (.ref C_Trick) = some true)
    (kin_Trick_int : PySem.W.kitOne K (.type "int") (.ref C_Trick) = some false)
    (kin_Trick_bool : PySem.W.kitOne K (.type "bool") (.ref C_Trick) = some false)
    (kin_Trick_tuple : PySem.W.kitOne K (.type "tuple") (.ref C_Trick) = some false)
    (kin_Trick_list : PySem.W.kitOne K (.type "list") (.ref C_Trick) = some false)
    (kin_Trick_NoneType : PySem.W.kitOne K (.type "NoneType") (.ref C_Trick) = some false)
    (kin_Trick_str : PySem.W.kitOne K (.type "str") (.ref C_Trick) = some false)
    (kin_Trick_dict : PySem.W.kitOne K (.type "dict") (.ref C_Trick) = some false)
    (na_Trick_base : PySem.W.findIn K (.ref C_Trick) "_base" = some none)
    (na_Trick_take : PySem.W.findIn K (.ref C_Trick) "_take" = some none)
    (na_Trick_times : PySem.W.findIn K (.ref C_Trick) "_times" = some none)
    (gf_Trick___init__ : PySem.W.findIn K (.ref C_Trick) "__init__" = some (some (.ref a_Trick___init__)))
    (l_Trick___init__ : K.lookup a_Trick___init__ = some ⟨oc_Trick___init__, od_Trick___init__, .func (PySem.W.fnOf "__init__" "Trick.__init__" (defArgs s_Trick___init__) (defBody s_Trick___init__) (defScope s_Trick___init__) .none kV_Trick___init__ dc_Trick___init__ pm_Trick___init__ an_Trick___init__ cd_Trick___init__ ct_Trick___init__), sl_Trick___init__⟩)
    (c_Trick___init__ : PySem.W.codeIn K cd_Trick___init__ "Trick.__init__" = true)
    (kp_Trick___init__ : PySem.W.keepIn K (.ref a_Trick___init__) = true)
    (isf_Trick___init__ : PySem.W.isFn K (.ref a_Trick___init__) = true)
    (pa_Trick_base : PySem.W.findIn K (.ref C_Trick) "base" = some (some (.ref pr_Trick_base)))
    (pg_Trick_base : PySem.W.specialIn K (.ref pr_Trick_base) "__get__" = some (some (.builtin "property.__get__")))
    (pt_Trick_base : PySem.W.takesIn K (.ref pr_Trick_base) = some true)
    (prr_Trick_base : PySem.W.recIn K pr_Trick_base "property" = some (.ref a_Trick_base :: rs_Trick_base))
    (l_Trick_base : K.lookup a_Trick_base = some ⟨oc_Trick_base, od_Trick_base, .func (PySem.W.fnOf "base" "Trick.base" (defArgs s_Trick_base) (defBody s_Trick_base) (defScope s_Trick_base) .none kV_Trick_base dc_Trick_base pm_Trick_base an_Trick_base cd_Trick_base ct_Trick_base), sl_Trick_base⟩)
    (c_Trick_base : PySem.W.codeIn K cd_Trick_base "Trick.base" = true)
    (kp_Trick_base : PySem.W.keepIn K (.ref a_Trick_base) = true)
    (pa_Trick_take : PySem.W.findIn K (.ref C_Trick) "take" = some (some (.ref pr_Trick_take)))
    (pg_Trick_take : PySem.W.specialIn K (.ref pr_Trick_take) "__get__" = some (some (.builtin "property.__get__")))
    (pt_Trick_take : PySem.W.takesIn K (.ref pr_Trick_take) = some true)
    (prr_Trick_take : PySem.W.recIn K pr_Trick_take "property" = some (.ref a_Trick_take :: rs_Trick_take))
    (l_Trick_take : K.lookup a_Trick_take = some ⟨oc_Trick_take, od_Trick_take, .func (PySem.W.fnOf "take" "Trick.take" (defArgs s_Trick_take) (defBody s_Trick_take) (defScope s_Trick_take) .none kV_Trick_take dc_Trick_take pm_Trick_take an_Trick_take cd_Trick_take ct_Trick_take), sl_Trick_take⟩)
    (c_Trick_take : PySem.W.codeIn K cd_Trick_take "Trick.take" = true)
    (kp_Trick_take : PySem.W.keepIn K (.ref a_Trick_take) = true)
    (pa_Trick_times : PySem.W.findIn K (.ref C_Trick) "times" = some (some (.ref pr_Trick_times)))
    (pg_Trick_times : PySem.W.specialIn K (.ref pr_Trick_times) "__get__" = some (some (.builtin "property.__get__")))
    (pt_Trick_times : PySem.W.takesIn K (.ref pr_Trick_times) = some true)
    (prr_Trick_times : PySem.W.recIn K pr_Trick_times "property" = some (.ref a_Trick_times :: rs_Trick_times))
    (l_Trick_times : K.lookup a_Trick_times = some ⟨oc_Trick_times, od_Trick_times, .func (PySem.W.fnOf "times" "Trick.times" (defArgs s_Trick_times) (defBody s_Trick_times) (defScope s_Trick_times) .none kV_Trick_times dc_Trick_times pm_Trick_times an_Trick_times cd_Trick_times ct_Trick_times), sl_Trick_times⟩)
    (c_Trick_times : PySem.W.codeIn K cd_Trick_times "Trick.times" = true)
    (kp_Trick_times : PySem.W.keepIn K (.ref a_Trick_times) = true)
    (gf_Trick___eq__ : PySem.W.findIn K (.ref C_Trick) "__eq__" = some (some (.ref a_Trick___eq__)))
    (l_Trick___eq__ : K.lookup a_Trick___eq__ = some ⟨oc_Trick___eq__, od_Trick___eq__, .func (PySem.W.fnOf "__eq__" "Trick.__eq__" (defArgs s_Trick___eq__) (defBody s_Trick___eq__) (defScope s_Trick___eq__) .none kV_Trick___eq__ dc_Trick___eq__ pm_Trick___eq__ an_Trick___eq__ cd_Trick___eq__ ct_Trick___eq__), sl_Trick___eq__⟩)
    (c_Trick___eq__ : PySem.W.codeIn K cd_Trick___eq__ "Trick.__eq__" = true)
    (kp_Trick___eq__ : PySem.W.keepIn K (.ref a_Trick___eq__) = true)
    (isf_Trick___eq__ : PySem.W.isFn K (.ref a_Trick___eq__) = true)
    (gx_Reckoner : PySem.W.nsIn K mainGlobals "Reckoner" = some (some (.ref C_Reckoner)))
    (pg_Reckoner : PySem.W.plainGet K C_Reckoner Str.empty = true)
    (hd_Reckoner : PySem.W.hasDictIn K C_Reckoner = true)
    (po_Reckoner : PySem.W.plainOver K C_Reckoner = true)
    (sa_Reckoner : PySem.W.findIn K (.ref C_Reckoner) "__setattr__" = some (some (.builtin "object.__setattr__")))
    (mk_Reckoner : PySem.W.makesIn K C_Reckoner = true)
    (kc_Reckoner : PySem.W.keepIn K (.ref C_Reckoner) = true)
    (cc_Reckoner : PySem.W.findIn K (.ref C_Reckoner) "__class__" = some (some (.builtin "object.__class__")))
    (mo_Reckoner : PySem.W.mroIn K C_Reckoner (.type "object") = some true)
    (ki_Reckoner_int : PySem.W.kitOne K (.ref C_Reckoner) (.type "int") = some false)
    (ki_Reckoner_bool : PySem.W.kitOne K (.ref C_Reckoner) (.type "bool") = some false)
    (ki_Reckoner_tuple : PySem.W.kitOne K (.ref C_Reckoner) (.type "tuple") = some false)
    (ki_Reckoner_list : PySem.W.kitOne K (.ref C_Reckoner) (.type "list") = some false)
    (kis_Reckoner : PySem.W.kitOne K (.ref C_Reckoner) (.ref C_Reckoner) = some true)
    (kin_Reckoner_int : PySem.W.kitOne K (.type "int") (.ref C_Reckoner) = some false)
    (kin_Reckoner_bool : PySem.W.kitOne K (.type "bool") (.ref C_Reckoner) = some false)
    (kin_Reckoner_tuple : PySem.W.kitOne K (.type "tuple") (.ref C_Reckoner) = some false)
    (kin_Reckoner_list : PySem.W.kitOne K (.type "list") (.ref C_Reckoner) = some false)
    (kin_Reckoner_NoneType : PySem.W.kitOne K (.type "NoneType") (.ref C_Reckoner) = some false)
    (kin_Reckoner_str : PySem.W.kitOne K (.type "str") (.ref C_Reckoner) = some false)
    (kin_Reckoner_dict : PySem.W.kitOne K (.type "dict") (.ref C_Reckoner) = some false)
    (na_Reckoner_numbers : PySem.W.findIn K (.ref C_Reckoner) "_numbers" = some none)
    (na_Reckoner_tricks : PySem.W.findIn K (.ref C_Reckoner) "_tricks" = some none)
    (gf_Reckoner___init__ : PySem.W.findIn K (.ref C_Reckoner) "__init__" = some (some (.ref a_Reckoner___init__)))
    (l_Reckoner___init__ : K.lookup a_Reckoner___init__ = some ⟨oc_Reckoner___init__, od_Reckoner___init__, .func (PySem.W.fnOf "__init__" "Reckoner.__init__" (defArgs s_Reckoner___init__) (defBody s_Reckoner___init__) (defScope s_Reckoner___init__) .none kV_Reckoner___init__ dc_Reckoner___init__ pm_Reckoner___init__ an_Reckoner___init__ cd_Reckoner___init__ ct_Reckoner___init__), sl_Reckoner___init__⟩)
    (c_Reckoner___init__ : PySem.W.codeIn K cd_Reckoner___init__ "Reckoner.__init__" = true)
    (kp_Reckoner___init__ : PySem.W.keepIn K (.ref a_Reckoner___init__) = true)
    (isf_Reckoner___init__ : PySem.W.isFn K (.ref a_Reckoner___init__) = true)
    (pa_Reckoner_now : PySem.W.findIn K (.ref C_Reckoner) "now" = some (some (.ref pr_Reckoner_now)))
    (pg_Reckoner_now : PySem.W.specialIn K (.ref pr_Reckoner_now) "__get__" = some (some (.builtin "property.__get__")))
    (pt_Reckoner_now : PySem.W.takesIn K (.ref pr_Reckoner_now) = some true)
    (prr_Reckoner_now : PySem.W.recIn K pr_Reckoner_now "property" = some (.ref a_Reckoner_now :: rs_Reckoner_now))
    (l_Reckoner_now : K.lookup a_Reckoner_now = some ⟨oc_Reckoner_now, od_Reckoner_now, .func (PySem.W.fnOf "now" "Reckoner.now" (defArgs s_Reckoner_now) (defBody s_Reckoner_now) (defScope s_Reckoner_now) .none kV_Reckoner_now dc_Reckoner_now pm_Reckoner_now an_Reckoner_now cd_Reckoner_now ct_Reckoner_now), sl_Reckoner_now⟩)
    (c_Reckoner_now : PySem.W.codeIn K cd_Reckoner_now "Reckoner.now" = true)
    (kp_Reckoner_now : PySem.W.keepIn K (.ref a_Reckoner_now) = true)
    (pa_Reckoner_tricks : PySem.W.findIn K (.ref C_Reckoner) "tricks" = some (some (.ref pr_Reckoner_tricks)))
    (pg_Reckoner_tricks : PySem.W.specialIn K (.ref pr_Reckoner_tricks) "__get__" = some (some (.builtin "property.__get__")))
    (pt_Reckoner_tricks : PySem.W.takesIn K (.ref pr_Reckoner_tricks) = some true)
    (prr_Reckoner_tricks : PySem.W.recIn K pr_Reckoner_tricks "property" = some (.ref a_Reckoner_tricks :: rs_Reckoner_tricks))
    (l_Reckoner_tricks : K.lookup a_Reckoner_tricks = some ⟨oc_Reckoner_tricks, od_Reckoner_tricks, .func (PySem.W.fnOf "tricks" "Reckoner.tricks" (defArgs s_Reckoner_tricks) (defBody s_Reckoner_tricks) (defScope s_Reckoner_tricks) .none kV_Reckoner_tricks dc_Reckoner_tricks pm_Reckoner_tricks an_Reckoner_tricks cd_Reckoner_tricks ct_Reckoner_tricks), sl_Reckoner_tricks⟩)
    (c_Reckoner_tricks : PySem.W.codeIn K cd_Reckoner_tricks "Reckoner.tricks" = true)
    (kp_Reckoner_tricks : PySem.W.keepIn K (.ref a_Reckoner_tricks) = true)
    (gf_Reckoner_step : PySem.W.findIn K (.ref C_Reckoner) "step" = some (some (.ref a_Reckoner_step)))
    (l_Reckoner_step : K.lookup a_Reckoner_step = some ⟨oc_Reckoner_step, od_Reckoner_step, .func (PySem.W.fnOf "step" "Reckoner.step" (defArgs s_Reckoner_step) (defBody s_Reckoner_step) (defScope s_Reckoner_step) .none kV_Reckoner_step dc_Reckoner_step pm_Reckoner_step an_Reckoner_step cd_Reckoner_step ct_Reckoner_step), sl_Reckoner_step⟩)
    (c_Reckoner_step : PySem.W.codeIn K cd_Reckoner_step "Reckoner.step" = true)
    (kp_Reckoner_step : PySem.W.keepIn K (.ref a_Reckoner_step) = true)
    (isf_Reckoner_step : PySem.W.isFn K (.ref a_Reckoner_step) = true)
    (gf_Reckoner_undo : PySem.W.findIn K (.ref C_Reckoner) "undo" = some (some (.ref a_Reckoner_undo)))
    (l_Reckoner_undo : K.lookup a_Reckoner_undo = some ⟨oc_Reckoner_undo, od_Reckoner_undo, .func (PySem.W.fnOf "undo" "Reckoner.undo" (defArgs s_Reckoner_undo) (defBody s_Reckoner_undo) (defScope s_Reckoner_undo) .none kV_Reckoner_undo dc_Reckoner_undo pm_Reckoner_undo an_Reckoner_undo cd_Reckoner_undo ct_Reckoner_undo), sl_Reckoner_undo⟩)
    (c_Reckoner_undo : PySem.W.codeIn K cd_Reckoner_undo "Reckoner.undo" = true)
    (kp_Reckoner_undo : PySem.W.keepIn K (.ref a_Reckoner_undo) = true)
    (isf_Reckoner_undo : PySem.W.isFn K (.ref a_Reckoner_undo) = true)
    (gf_Reckoner_copy : PySem.W.findIn K (.ref C_Reckoner) "copy" = some (some (.ref a_Reckoner_copy)))
    (l_Reckoner_copy : K.lookup a_Reckoner_copy = some ⟨oc_Reckoner_copy, od_Reckoner_copy, .func (PySem.W.fnOf "copy" "Reckoner.copy" (defArgs s_Reckoner_copy) (defBody s_Reckoner_copy) (defScope s_Reckoner_copy) .none kV_Reckoner_copy dc_Reckoner_copy pm_Reckoner_copy an_Reckoner_copy cd_Reckoner_copy ct_Reckoner_copy), sl_Reckoner_copy⟩)
    (c_Reckoner_copy : PySem.W.codeIn K cd_Reckoner_copy "Reckoner.copy" = true)
    (kp_Reckoner_copy : PySem.W.keepIn K (.ref a_Reckoner_copy) = true)
    (isf_Reckoner_copy : PySem.W.isFn K (.ref a_Reckoner_copy) = true)
    (gf_Reckoner___len__ : PySem.W.findIn K (.ref C_Reckoner) "__len__" = some (some (.ref a_Reckoner___len__)))
    (l_Reckoner___len__ : K.lookup a_Reckoner___len__ = some ⟨oc_Reckoner___len__, od_Reckoner___len__, .func (PySem.W.fnOf "__len__" "Reckoner.__len__" (defArgs s_Reckoner___len__) (defBody s_Reckoner___len__) (defScope s_Reckoner___len__) .none kV_Reckoner___len__ dc_Reckoner___len__ pm_Reckoner___len__ an_Reckoner___len__ cd_Reckoner___len__ ct_Reckoner___len__), sl_Reckoner___len__⟩)
    (c_Reckoner___len__ : PySem.W.codeIn K cd_Reckoner___len__ "Reckoner.__len__" = true)
    (kp_Reckoner___len__ : PySem.W.keepIn K (.ref a_Reckoner___len__) = true)
    (isf_Reckoner___len__ : PySem.W.isFn K (.ref a_Reckoner___len__) = true)
    (gx_Sum : PySem.W.nsIn K mainGlobals "Sum" = some (some (.ref C_Sum)))
    (pg_Sum : PySem.W.plainGet K C_Sum Str.empty = true)
    (hd_Sum : PySem.W.hasDictIn K C_Sum = true)
    (po_Sum : PySem.W.plainOver K C_Sum = true)
    (sa_Sum : PySem.W.findIn K (.ref C_Sum) "__setattr__" = some (some (.builtin "object.__setattr__")))
    (mk_Sum : PySem.W.makesIn K C_Sum = true)
    (kc_Sum : PySem.W.keepIn K (.ref C_Sum) = true)
    (cc_Sum : PySem.W.findIn K (.ref C_Sum) "__class__" = some (some (.builtin "object.__class__")))
    (mo_Sum : PySem.W.mroIn K C_Sum (.type "object") = some true)
    (ki_Sum_int : PySem.W.kitOne K (.ref C_Sum) (.type "int") = some false)
    (ki_Sum_bool : PySem.W.kitOne K (.ref C_Sum) (.type "bool") = some false)
    (ki_Sum_tuple : PySem.W.kitOne K (.ref C_Sum) (.type "tuple") = some false)
    (ki_Sum_list : PySem.W.kitOne K (.ref C_Sum) (.type "list") = some false)
    (nf_Sum_tuple : PySem.W.subIn K (.type "tuple") (.ref C_Sum) = some false)
    (kis_Sum : PySem.W.kitOne K (.ref C_Sum) (.ref C_Sum) = some true)
    (kin_Sum_int : PySem.W.kitOne K (.type "int") (.ref C_Sum) = some false)
    (kin_Sum_bool : PySem.W.kitOne K (.type "bool") (.ref C_Sum) = some false)
    (kin_Sum_tuple : PySem.W.kitOne K (.type "tuple") (.ref C_Sum) = some false)
    (kin_Sum_list : PySem.W.kitOne K (.type "list") (.ref C_Sum) = some false)
    (kin_Sum_NoneType : PySem.W.kitOne K (.type "NoneType") (.ref C_Sum) = some false)
    (kin_Sum_str : PySem.W.kitOne K (.type "str") (.ref C_Sum) = some false)
    (kin_Sum_dict : PySem.W.kitOne K (.type "dict") (.ref C_Sum) = some false)
    (na_Sum_base : PySem.W.findIn K (.ref C_Sum) "_base" = some none)
    (na_Sum_first : PySem.W.findIn K (.ref C_Sum) "_first" = some none)
    (na_Sum_loop : PySem.W.findIn K (.ref C_Sum) "_loop" = some none)
    (na_Sum_take : PySem.W.findIn K (.ref C_Sum) "_take" = some none)
    (gf_Sum___init__ : PySem.W.findIn K (.ref C_Sum) "__init__" = some (some (.ref a_Sum___init__)))
    (l_Sum___init__ : K.lookup a_Sum___init__ = some ⟨oc_Sum___init__, od_Sum___init__, .func (PySem.W.fnOf "__init__" "Sum.__init__" (defArgs s_Sum___init__) (defBody s_Sum___init__) (defScope s_Sum___init__) .none kV_Sum___init__ dc_Sum___init__ pm_Sum___init__ an_Sum___init__ cd_Sum___init__ ct_Sum___init__), sl_Sum___init__⟩)
    (c_Sum___init__ : PySem.W.codeIn K cd_Sum___init__ "Sum.__init__" = true)
    (kp_Sum___init__ : PySem.W.keepIn K (.ref a_Sum___init__) = true)
    (isf_Sum___init__ : PySem.W.isFn K (.ref a_Sum___init__) = true)
    (pa_Sum_base : PySem.W.findIn K (.ref C_Sum) "base" = some (some (.ref pr_Sum_base)))
    (pg_Sum_base : PySem.W.specialIn K (.ref pr_Sum_base) "__get__" = some (some (.builtin "property.__get__")))
    (pt_Sum_base : PySem.W.takesIn K (.ref pr_Sum_base) = some true)
    (prr_Sum_base : PySem.W.recIn K pr_Sum_base "property" = some (.ref a_Sum_base :: rs_Sum_base))
    (l_Sum_base : K.lookup a_Sum_base = some ⟨oc_Sum_base, od_Sum_base, .func (PySem.W.fnOf "base" "Sum.base" (defArgs s_Sum_base) (defBody s_Sum_base) (defScope s_Sum_base) .none kV_Sum_base dc_Sum_base pm_Sum_base an_Sum_base cd_Sum_base ct_Sum_base), sl_Sum_base⟩)
    (c_Sum_base : PySem.W.codeIn K cd_Sum_base "Sum.base" = true)
    (kp_Sum_base : PySem.W.keepIn K (.ref a_Sum_base) = true)
    (pa_Sum_take : PySem.W.findIn K (.ref C_Sum) "take" = some (some (.ref pr_Sum_take)))
    (pg_Sum_take : PySem.W.specialIn K (.ref pr_Sum_take) "__get__" = some (some (.builtin "property.__get__")))
    (pt_Sum_take : PySem.W.takesIn K (.ref pr_Sum_take) = some true)
    (prr_Sum_take : PySem.W.recIn K pr_Sum_take "property" = some (.ref a_Sum_take :: rs_Sum_take))
    (l_Sum_take : K.lookup a_Sum_take = some ⟨oc_Sum_take, od_Sum_take, .func (PySem.W.fnOf "take" "Sum.take" (defArgs s_Sum_take) (defBody s_Sum_take) (defScope s_Sum_take) .none kV_Sum_take dc_Sum_take pm_Sum_take an_Sum_take cd_Sum_take ct_Sum_take), sl_Sum_take⟩)
    (c_Sum_take : PySem.W.codeIn K cd_Sum_take "Sum.take" = true)
    (kp_Sum_take : PySem.W.keepIn K (.ref a_Sum_take) = true)
    (pa_Sum_first : PySem.W.findIn K (.ref C_Sum) "first" = some (some (.ref pr_Sum_first)))
    (pg_Sum_first : PySem.W.specialIn K (.ref pr_Sum_first) "__get__" = some (some (.builtin "property.__get__")))
    (pt_Sum_first : PySem.W.takesIn K (.ref pr_Sum_first) = some true)
    (prr_Sum_first : PySem.W.recIn K pr_Sum_first "property" = some (.ref a_Sum_first :: rs_Sum_first))
    (l_Sum_first : K.lookup a_Sum_first = some ⟨oc_Sum_first, od_Sum_first, .func (PySem.W.fnOf "first" "Sum.first" (defArgs s_Sum_first) (defBody s_Sum_first) (defScope s_Sum_first) .none kV_Sum_first dc_Sum_first pm_Sum_first an_Sum_first cd_Sum_first ct_Sum_first), sl_Sum_first⟩)
    (c_Sum_first : PySem.W.codeIn K cd_Sum_first "Sum.first" = true)
    (kp_Sum_first : PySem.W.keepIn K (.ref a_Sum_first) = true)
    (pa_Sum_loop : PySem.W.findIn K (.ref C_Sum) "loop" = some (some (.ref pr_Sum_loop)))
    (pg_Sum_loop : PySem.W.specialIn K (.ref pr_Sum_loop) "__get__" = some (some (.builtin "property.__get__")))
    (pt_Sum_loop : PySem.W.takesIn K (.ref pr_Sum_loop) = some true)
    (prr_Sum_loop : PySem.W.recIn K pr_Sum_loop "property" = some (.ref a_Sum_loop :: rs_Sum_loop))
    (l_Sum_loop : K.lookup a_Sum_loop = some ⟨oc_Sum_loop, od_Sum_loop, .func (PySem.W.fnOf "loop" "Sum.loop" (defArgs s_Sum_loop) (defBody s_Sum_loop) (defScope s_Sum_loop) .none kV_Sum_loop dc_Sum_loop pm_Sum_loop an_Sum_loop cd_Sum_loop ct_Sum_loop), sl_Sum_loop⟩)
    (c_Sum_loop : PySem.W.codeIn K cd_Sum_loop "Sum.loop" = true)
    (kp_Sum_loop : PySem.W.keepIn K (.ref a_Sum_loop) = true)
    (gf_Sum___eq__ : PySem.W.findIn K (.ref C_Sum) "__eq__" = some (some (.ref a_Sum___eq__)))
    (l_Sum___eq__ : K.lookup a_Sum___eq__ = some ⟨oc_Sum___eq__, od_Sum___eq__, .func (PySem.W.fnOf "__eq__" "Sum.__eq__" (defArgs s_Sum___eq__) (defBody s_Sum___eq__) (defScope s_Sum___eq__) .none kV_Sum___eq__ dc_Sum___eq__ pm_Sum___eq__ an_Sum___eq__ cd_Sum___eq__ ct_Sum___eq__), sl_Sum___eq__⟩)
    (c_Sum___eq__ : PySem.W.codeIn K cd_Sum___eq__ "Sum.__eq__" = true)
    (kp_Sum___eq__ : PySem.W.keepIn K (.ref a_Sum___eq__) = true)
    (isf_Sum___eq__ : PySem.W.isFn K (.ref a_Sum___eq__) = true)
    (z_int : PySem.W.nsIn K mainGlobals "int" = some none)
    (z_bool : PySem.W.nsIn K mainGlobals "bool" = some none)
    (z_len : PySem.W.nsIn K mainGlobals "len" = some none)
    (z_range : PySem.W.nsIn K mainGlobals "range" = some none)
    (z_isinstance : PySem.W.nsIn K mainGlobals "isinstance" = some none)
    (z_tuple : PySem.W.nsIn K mainGlobals "tuple" = some none)
    (z_list : PySem.W.nsIn K mainGlobals "list" = some none)
    (z_sorted : PySem.W.nsIn K mainGlobals "sorted" = some none)
    (z_enumerate : PySem.W.nsIn K mainGlobals "enumerate" = some none)
    (z_abs : PySem.W.nsIn K mainGlobals "abs" = some none)
    (z_min : PySem.W.nsIn K mainGlobals "min" = some none)
    (z_super : PySem.W.nsIn K mainGlobals "super" = some none)
    (z_ValueError : PySem.W.nsIn K mainGlobals "ValueError" = some none)
    (xl_BadNumber___init__ : K.lookup C_BadNumber = some (PySem.excClassObj nm_BadNumber___init__ qn_BadNumber___init__ C_BadNumber N_BadNumber___init__ bs_BadNumber___init__ bm_BadNumber___init__ true sn_BadNumber___init__ sub_BadNumber___init__ ab_BadNumber___init__ col_BadNumber___init__ dd_BadNumber___init__ k0_BadNumber___init__ k1_BadNumber___init__ k2_BadNumber___init__ k3_BadNumber___init__ k5_BadNumber___init__ "ValueError.__new__"))
    (xrb_BadNumber___init__ : PySem.HandSPX.refsVE bm_BadNumber___init__ = true)
    (xsa_BadNumber___init__ : PySem.W.findIn K (.ref C_BadNumber) "__setattr__" = some (some (.builtin "object.__setattr__")))
    (xga_BadNumber___init__ : PySem.W.findIn K (.ref C_BadNumber) "__getattribute__" = some (some (.builtin "BaseException.__getattribute__")))
    (xgg_BadNumber___init__ : PySem.W.findIn K (.ref C_BadNumber) "__getattr__" = some none)
    (xnf_BadNumber___init__ : PySem.W.findIn K (.ref C_BadNumber) "n" = some none)
    (xic_BadNumber___init__ : PySem.W.findIn K (.ref C_BadNumber) "__init__" = some (some (.ref a_BadNumber___init__)))
    (xtc_BadNumber___init__ : PySem.W.typeIn K (.ref a_BadNumber___init__) = some (.type "function"))
    (xhd_BadNumber___init__ : PySem.W.hasDictIn K C_BadNumber = true)
    (xup_BadNumber___init__ : PySem.W.ks_superIn K C_BadNumber C_BadNumber "__init__" = some (some (.builtin "ValueError.__init__")))
    (xan_BadNumber___init__ : PySem.W.nsIn K PySem.cStatics "thirdparty.any" = some none)
    (xve_BadNumber___init__ : PySem.W.subIn K (.ref C_BadNumber) (.type "ValueError") = some true)
    (xow_BadNumber___init__ : PySem.W.mroIn K C_BadNumber (.ref C_BadNumber) = some true)
    (rmn_BadNumber___init__ : (l.prog.main.scope.names.lookup ("super" : Str)).isSome = false)
    (xfn_BadNumber___init__ : K.lookup a_BadNumber___init__ = some ⟨oc_BadNumber___init__, od_BadNumber___init__, .func (PySem.W.ksFn "__init__" "BadNumber.__init__" (defArgs s_BadNumber___init__) (defBody s_BadNumber___init__) (defScope s_BadNumber___init__) .none .none dc_BadNumber___init__ pm_BadNumber___init__ an_BadNumber___init__ (.ref cda_BadNumber___init__) ct_BadNumber___init__ cc_BadNumber___init__), sl_BadNumber___init__⟩)
    (xco_BadNumber___init__ : PySem.W.codeIn K (.ref cda_BadNumber___init__) "BadNumber.__init__" = true)
    (xcd_BadNumber___init__ : K.lookup cda_BadNumber___init__ = some ⟨ccl_BadNumber___init__, cdd_BadNumber___init__, .fields vs_BadNumber___init__, ccs_BadNumber___init__⟩)
    (rvs_BadNumber___init__ : vs_BadNumber___init__[2]? = some (.str file_BadNumber___init__ tf_BadNumber___init__))
    (rfi_BadNumber___init__ : ((l.prog.main.file : Str) == file_BadNumber___init__) = true)
    (xcc_BadNumber___init__ : K.lookup cc_BadNumber___init__ = some ⟨cl_BadNumber___init__, cld_BadNumber___init__, .cell (some (.ref C_BadNumber)), csl_BadNumber___init__⟩)
    (xl_BadWeights___init__ : K.lookup C_BadWeights = some (PySem.excClassObj nm_BadWeights___init__ qn_BadWeights___init__ C_BadWeights N_BadWeights___init__ bs_BadWeights___init__ bm_BadWeights___init__ true sn_BadWeights___init__ sub_BadWeights___init__ ab_BadWeights___init__ col_BadWeights___init__ dd_BadWeights___init__ k0_BadWeights___init__ k1_BadWeights___init__ k2_BadWeights___init__ k3_BadWeights___init__ k5_BadWeights___init__ "ValueError.__new__"))
    (xrb_BadWeights___init__ : PySem.HandSPX.refsVE bm_BadWeights___init__ = true)
    (xsa_BadWeights___init__ : PySem.W.findIn K (.ref C_BadWeights) "__setattr__" = some (some (.builtin "object.__setattr__")))
    (xga_BadWeights___init__ : PySem.W.findIn K (.ref C_BadWeights) "__getattribute__" = some (some (.builtin "BaseException.__getattribute__")))
    (xgg_BadWeights___init__ : PySem.W.findIn K (.ref C_BadWeights) "__getattr__" = some none)
    (xnf_BadWeights___init__ : PySem.W.findIn K (.ref C_BadWeights) "index" = some none)
    (xic_BadWeights___init__ : PySem.W.findIn K (.ref C_BadWeights) "__init__" = some (some (.ref a_BadWeights___init__)))
    (xtc_BadWeights___init__ : PySem.W.typeIn K (.ref a_BadWeights___init__) = some (.type "function"))
    (xhd_BadWeights___init__ : PySem.W.hasDictIn K C_BadWeights = true)
    (xup_BadWeights___init__ : PySem.W.ks_superIn K C_BadWeights C_BadWeights "__init__" = some (some (.builtin "ValueError.__init__")))
    (xan_BadWeights___init__ : PySem.W.nsIn K PySem.cStatics "thirdparty.any" = some none)
    (xve_BadWeights___init__ : PySem.W.subIn K (.ref C_BadWeights) (.type "ValueError") = some true)
    (xow_BadWeights___init__ : PySem.W.mroIn K C_BadWeights (.ref C_BadWeights) = some true)
    (rmn_BadWeights___init__ : (l.prog.main.scope.names.lookup ("super" : Str)).isSome = false)
    (xfn_BadWeights___init__ : K.lookup a_BadWeights___init__ = some ⟨oc_BadWeights___init__, od_BadWeights___init__, .func (PySem.W.ksFn "__init__" "BadWeights.__init__" (defArgs s_BadWeights___init__) (defBody s_BadWeights___init__) (defScope s_BadWeights___init__) .none .none dc_BadWeights___init__ pm_BadWeights___init__ an_BadWeights___init__ (.ref cda_BadWeights___init__) ct_BadWeights___init__ cc_BadWeights___init__), sl_BadWeights___init__⟩)
    (xco_BadWeights___init__ : PySem.W.codeIn K (.ref cda_BadWeights___init__) "BadWeights.__init__" = true)
    (xcd_BadWeights___init__ : K.lookup cda_BadWeights___init__ = some ⟨ccl_BadWeights___init__, cdd_BadWeights___init__, .fields vs_BadWeights___init__, ccs_BadWeights___init__⟩)
    (rvs_BadWeights___init__ : vs_BadWeights___init__[2]? = some (.str file_BadWeights___init__ tf_BadWeights___init__))
    (rfi_BadWeights___init__ : ((l.prog.main.file : Str) == file_BadWeights___init__) = true)
    (xcc_BadWeights___init__ : K.lookup cc_BadWeights___init__ = some ⟨cl_BadWeights___init__, cld_BadWeights___init__, .cell (some (.ref C_BadWeights)), csl_BadWeights___init__⟩)
    (xl_BadTricks___init__ : K.lookup C_BadTricks = some (PySem.excClassObj nm_BadTricks___init__ qn_BadTricks___init__ C_BadTricks N_BadTricks___init__ bs_BadTricks___init__ bm_BadTricks___init__ true sn_BadTricks___init__ sub_BadTricks___init__ ab_BadTricks___init__ col_BadTricks___init__ dd_BadTricks___init__ k0_BadTricks___init__ k1_BadTricks___init__ k2_BadTricks___init__ k3_BadTricks___init__ k5_BadTricks___init__ "ValueError.__new__"))
    (xrb_BadTricks___init__ : PySem.HandSPX.refsVE bm_BadTricks___init__ = true)
    (xsa_BadTricks___init__ : PySem.W.findIn K (.ref C_BadTricks) "__setattr__" = some (some (.builtin "object.__setattr__")))
    (xga_BadTricks___init__ : PySem.W.findIn K (.ref C_BadTricks) "__getattribute__" = some (some (.builtin "BaseException.__getattribute__")))
    (xgg_BadTricks___init__ : PySem.W.findIn K (.ref C_BadTricks) "__getattr__" = some none)
    (xnf_BadTricks___init__ : PySem.W.findIn K (.ref C_BadTricks) "index" = some none)
    (xic_BadTricks___init__ : PySem.W.findIn K (.ref C_BadTricks) "__init__" = some (some (.ref a_BadTricks___init__)))
    (xtc_BadTricks___init__ : PySem.W.typeIn K (.ref a_BadTricks___init__) = some (.type "function"))
    (xhd_BadTricks___init__ : PySem.W.hasDictIn K C_BadTricks = true)
    (xup_BadTricks___init__ : PySem.W.ks_superIn K C_BadTricks C_BadTricks "__init__" = some (some (.builtin "ValueError.__init__")))
    (xan_BadTricks___init__ : PySem.W.nsIn K PySem.cStatics "thirdparty.any" = some none)
    (xve_BadTricks___init__ : PySem.W.subIn K (.ref C_BadTricks) (.type "ValueError") = some true)
    (xow_BadTricks___init__ : PySem.W.mroIn K C_BadTricks (.ref C_BadTricks) = some true)
    (rmn_BadTricks___init__ : (l.prog.main.scope.names.lookup ("super" : Str)).isSome = false)
    (xfn_BadTricks___init__ : K.lookup a_BadTricks___init__ = some ⟨oc_BadTricks___init__, od_BadTricks___init__, .func (PySem.W.ksFn "__init__" "BadTricks.__init__" (defArgs s_BadTricks___init__) (defBody s_BadTricks___init__) (defScope s_BadTricks___init__) .none .none dc_BadTricks___init__ pm_BadTricks___init__ an_BadTricks___init__ (.ref cda_BadTricks___init__) ct_BadTricks___init__ cc_BadTricks___init__), sl_BadTricks___init__⟩)
    (xco_BadTricks___init__ : PySem.W.codeIn K (.ref cda_BadTricks___init__) "BadTricks.__init__" = true)
    (xcd_BadTricks___init__ : K.lookup cda_BadTricks___init__ = some ⟨ccl_BadTricks___init__, cdd_BadTricks___init__, .fields vs_BadTricks___init__, ccs_BadTricks___init__⟩)
    (rvs_BadTricks___init__ : vs_BadTricks___init__[2]? = some (.str file_BadTricks___init__ tf_BadTricks___init__))
    (rfi_BadTricks___init__ : ((l.prog.main.file : Str) == file_BadTricks___init__) = true)
    (xcc_BadTricks___init__ : K.lookup cc_BadTricks___init__ = some ⟨cl_BadTricks___init__, cld_BadTricks___init__, .cell (some (.ref C_BadTricks)), csl_BadTricks___init__⟩)
    : ∃ fd : FuncData, (∀ (s : Shared) (v : Value), BindsTo s fd ⟨[v], []⟩ [("_law_script", v)]) ∧ ∀ base : Heap, K.In base → base.Ns mainGlobals mg → FnOk l.prog w K mg base CX0 lv_law fa fd ["_law_script"] (sp_law K) := by
  have e := hfa.symm.trans (PySem.W.mg_of X G gf_law)
  have e2 : a_law = fa := by cases e; rfl
  subst e2
  refine ⟨PySem.W.fnOf "law" "law" (defArgs s_law) (defBody s_law) (defScope s_law) .none kV_law dc_law pm_law an_law cd_law ct_law, fun s v => .of_eq rfl, fun base _ _ => ?_⟩
  exact ok_law (T :=
    { C_TrickError := C_TrickError,
      g_TrickError := PySem.W.mg_of X G gx_TrickError,
      x_TrickError := x_TrickError,
      k_TrickError := k_TrickError,
      s_TrickError := s_TrickError,
      t_TrickError := t_TrickError,
      C_BadBase := C_BadBase,
      g_BadBase := PySem.W.mg_of X G gx_BadBase,
      x_BadBase := x_BadBase,
      k_BadBase := k_BadBase,
      s_BadBase := s_BadBase,
      t_BadBase := t_BadBase,
      C_BadTake := C_BadTake,
      g_BadTake := PySem.W.mg_of X G gx_BadTake,
      x_BadTake := x_BadTake,
      k_BadTake := k_BadTake,
      s_BadTake := s_BadTake,
      t_BadTake := t_BadTake,
      C_BadTimes := C_BadTimes,
      g_BadTimes := PySem.W.mg_of X G gx_BadTimes,
      x_BadTimes := x_BadTimes,
      k_BadTimes := k_BadTimes,
      s_BadTimes := s_BadTimes,
      t_BadTimes := t_BadTimes,
      C_BadTrick := C_BadTrick,
      g_BadTrick := PySem.W.mg_of X G gx_BadTrick,
      x_BadTrick := x_BadTrick,
      k_BadTrick := k_BadTrick,
      s_BadTrick := s_BadTrick,
      t_BadTrick := t_BadTrick,
      C_BadSum := C_BadSum,
      g_BadSum := PySem.W.mg_of X G gx_BadSum,
      x_BadSum := x_BadSum,
      k_BadSum := k_BadSum,
      s_BadSum := s_BadSum,
      t_BadSum := t_BadSum,
      C_BadNumber := C_BadNumber,
      g_BadNumber := PySem.W.mg_of X G gx_BadNumber,
      k_BadNumber := k_BadNumber,
      s_BadNumber := s_BadNumber,
      t_BadNumber := t_BadNumber,
      hd_BadNumber := hd_BadNumber,
      C_BadWeights := C_BadWeights,
      g_BadWeights := PySem.W.mg_of X G gx_BadWeights,
      k_BadWeights := k_BadWeights,
      s_BadWeights := s_BadWeights,
      t_BadWeights := t_BadWeights,
      C_BadTricks := C_BadTricks,
      g_BadTricks := PySem.W.mg_of X G gx_BadTricks,
      k_BadTricks := k_BadTricks,
      s_BadTricks := s_BadTricks,
      t_BadTricks := t_BadTricks,
      xm_TrickError_BadNumber := PySem.W.exm_ref s_BadNumber hd_BadNumber t_BadNumber su_TrickError_BadNumber,
      xm_BadBase_BadNumber := PySem.W.exm_ref s_BadNumber hd_BadNumber t_BadNumber su_BadBase_BadNumber,
      xm_BadTake_BadNumber := PySem.W.exm_ref s_BadNumber hd_BadNumber t_BadNumber su_BadTake_BadNumber,
      xm_BadTimes_BadNumber := PySem.W.exm_ref s_BadNumber hd_BadNumber t_BadNumber su_BadTimes_BadNumber,
      xm_BadTrick_BadNumber := PySem.W.exm_ref s_BadNumber hd_BadNumber t_BadNumber su_BadTrick_BadNumber,
      xm_BadSum_BadNumber := PySem.W.exm_ref s_BadNumber hd_BadNumber t_BadNumber su_BadSum_BadNumber,
      xm_BadNumber_BadNumber := PySem.W.exm_ref s_BadNumber hd_BadNumber t_BadNumber su_BadNumber_BadNumber,
      xm_BadWeights_BadNumber := PySem.W.exm_ref s_BadNumber hd_BadNumber t_BadNumber su_BadWeights_BadNumber,
      xm_BadTricks_BadNumber := PySem.W.exm_ref s_BadNumber hd_BadNumber t_BadNumber su_BadTricks_BadNumber,
      t_c_GREATEST_NUMBER := tk_GREATEST_NUMBER,
      c_GREATEST_NUMBER := PySem.W.mg_of X G cx_GREATEST_NUMBER,
      t_c_LEAST_BASE := tk_LEAST_BASE,
      c_LEAST_BASE := PySem.W.mg_of X G cx_LEAST_BASE,
      t_c_GREATEST_BASE := tk_GREATEST_BASE,
      c_GREATEST_BASE := PySem.W.mg_of X G cx_GREATEST_BASE,
      t_c_GREATEST_TAKE := tk_GREATEST_TAKE,
      c_GREATEST_TAKE := PySem.W.mg_of X G cx_GREATEST_TAKE,
      t_c_GREATEST_TIMES := tk_GREATEST_TIMES,
      c_GREATEST_TIMES := PySem.W.mg_of X G cx_GREATEST_TIMES,
      t_c_MOST_ROUNDS := tk_MOST_ROUNDS,
      c_MOST_ROUNDS := PySem.W.mg_of X G cx_MOST_ROUNDS,
      t_c_MOST_TRICKS := tk_MOST_TRICKS,
      c_MOST_TRICKS := PySem.W.mg_of X G cx_MOST_TRICKS,
      t_c_GREATEST_WEIGHT := tk_GREATEST_WEIGHT,
      c_GREATEST_WEIGHT := PySem.W.mg_of X G cx_GREATEST_WEIGHT,
      t_c_MOST_WEIGHTS := tk_MOST_WEIGHTS,
      c_MOST_WEIGHTS := PySem.W.mg_of X G cx_MOST_WEIGHTS,
      a__wall := a__wall,
      d__wall := _,
      F__wall := fun_mk (st := s__wall) l__wall c__wall kp__wall,
      b__wall := (fun_mk (st := s__wall) l__wall c__wall kp__wall).binds (ps := ["k"]) fun _ _ _ _ _ _ us hl => match us, hl with | [_], _ => rfl,
      g__wall := PySem.W.mg_of X G gf__wall,
      a_is_integer := a_is_integer,
      d_is_integer := _,
      F_is_integer := fun_mk (st := s_is_integer) l_is_integer c_is_integer kp_is_integer,
      b_is_integer := (fun_mk (st := s_is_integer) l_is_integer c_is_integer kp_is_integer).binds (ps := ["told", "low", "high"]) fun _ _ _ _ _ _ us hl => match us, hl with | [_, _, _], _ => rfl,
      g_is_integer := PySem.W.mg_of X G gf_is_integer,
      a_is_tuple := a_is_tuple,
      d_is_tuple := _,
      F_is_tuple := fun_mk (st := s_is_tuple) l_is_tuple c_is_tuple kp_is_tuple,
      b_is_tuple := (fun_mk (st := s_is_tuple) l_is_tuple c_is_tuple kp_is_tuple).binds (ps := ["told", "fewest", "most"]) fun _ _ _ _ _ _ us hl => match us, hl with | [_, _, _], _ => rfl,
      g_is_tuple := PySem.W.mg_of X G gf_is_tuple,
      a_is_list_or_tuple := a_is_list_or_tuple,
      d_is_list_or_tuple := _,
      F_is_list_or_tuple := fun_mk (st := s_is_list_or_tuple) l_is_list_or_tuple c_is_list_or_tuple kp_is_list_or_tuple,
      b_is_list_or_tuple := (fun_mk (st := s_is_list_or_tuple) l_is_list_or_tuple c_is_list_or_tuple kp_is_list_or_tuple).binds (ps := ["told", "fewest", "most"]) fun _ _ _ _ _ _ us hl => match us, hl with | [_, _, _], _ => rfl,
      g_is_list_or_tuple := PySem.W.mg_of X G gf_is_list_or_tuple,
      a_is_number := a_is_number,
      d_is_number := _,
      F_is_number := fun_mk (st := s_is_number) l_is_number c_is_number kp_is_number,
      b_is_number := (fun_mk (st := s_is_number) l_is_number c_is_number kp_is_number).binds (ps := ["told"]) fun _ _ _ _ _ _ us hl => match us, hl with | [_], _ => rfl,
      g_is_number := PySem.W.mg_of X G gf_is_number,
      a_first_wrong := a_first_wrong,
      d_first_wrong := _,
      F_first_wrong := fun_mk (st := s_first_wrong) l_first_wrong c_first_wrong kp_first_wrong,
      b_first_wrong := (fun_mk (st := s_first_wrong) l_first_wrong c_first_wrong kp_first_wrong).binds (ps := ["told", "low", "high"]) fun _ _ _ _ _ _ us hl => match us, hl with | [_, _, _], _ => rfl,
      g_first_wrong := PySem.W.mg_of X G gf_first_wrong,
      a_check_base := a_check_base,
      d_check_base := _,
      F_check_base := fun_mk (st := s_check_base) l_check_base c_check_base kp_check_base,
      b_check_base := (fun_mk (st := s_check_base) l_check_base c_check_base kp_check_base).binds (ps := ["base"]) fun _ _ _ _ _ _ us hl => match us, hl with | [_], _ => rfl,
      g_check_base := PySem.W.mg_of X G gf_check_base,
      a_check_take := a_check_take,
      d_check_take := _,
      F_check_take := fun_mk (st := s_check_take) l_check_take c_check_take kp_check_take,
      b_check_take := (fun_mk (st := s_check_take) l_check_take c_check_take kp_check_take).binds (ps := ["take"]) fun _ _ _ _ _ _ us hl => match us, hl with | [_], _ => rfl,
      g_check_take := PySem.W.mg_of X G gf_check_take,
      a_check_stretch := a_check_stretch,
      d_check_stretch := _,
      F_check_stretch := fun_mk (st := s_check_stretch) l_check_stretch c_check_stretch kp_check_stretch,
      b_check_stretch := (fun_mk (st := s_check_stretch) l_check_stretch c_check_stretch kp_check_stretch).binds (ps := ["n", "low", "high"]) fun _ _ _ _ _ _ us hl => match us, hl with | [_, _, _], _ => rfl,
      g_check_stretch := PySem.W.mg_of X G gf_check_stretch,
      a_check_number := a_check_number,
      d_check_number := _,
      F_check_number := fun_mk (st := s_check_number) l_check_number c_check_number kp_check_number,
      b_check_number := (fun_mk (st := s_check_number) l_check_number c_check_number kp_check_number).binds (ps := ["n"]) fun _ _ _ _ _ _ us hl => match us, hl with | [_], _ => rfl,
      g_check_number := PySem.W.mg_of X G gf_check_number,
      a_block_of := a_block_of,
      d_block_of := _,
      F_block_of := fun_mk (st := s_block_of) l_block_of c_block_of kp_block_of,
      b_block_of := (fun_mk (st := s_block_of) l_block_of c_block_of kp_block_of).binds (ps := ["base", "take"]) fun _ _ _ _ _ _ us hl => match us, hl with | [_, _], _ => rfl,
      g_block_of := PySem.W.mg_of X G gf_block_of,
      a_done := a_done,
      d_done := _,
      F_done := fun_mk (st := s_done) l_done c_done kp_done,
      b_done := (fun_mk (st := s_done) l_done c_done kp_done).binds (ps := ["trick", "n"]) fun _ _ _ _ _ _ us hl => match us, hl with | [_, _], _ => rfl,
      g_done := PySem.W.mg_of X G gf_done,
      a_trail := a_trail,
      d_trail := _,
      F_trail := fun_mk (st := s_trail) l_trail c_trail kp_trail,
      b_trail := (fun_mk (st := s_trail) l_trail c_trail kp_trail).binds (ps := ["trick", "n", "rounds"]) fun _ _ _ _ _ _ us hl => match us, hl with | [_, _, _], _ => rfl,
      g_trail := PySem.W.mg_of X G gf_trail,
      a_ahead := a_ahead,
      d_ahead := _,
      F_ahead := fun_mk (st := s_ahead) l_ahead c_ahead kp_ahead,
      b_ahead := (fun_mk (st := s_ahead) l_ahead c_ahead kp_ahead).binds (ps := ["trick", "n"]) fun _ _ _ _ _ _ us hl => match us, hl with | [_, _], _ => rfl,
      g_ahead := PySem.W.mg_of X G gf_ahead,
      a_check_trick := a_check_trick,
      d_check_trick := _,
      F_check_trick := fun_mk (st := s_check_trick) l_check_trick c_check_trick kp_check_trick,
      b_check_trick := (fun_mk (st := s_check_trick) l_check_trick c_check_trick kp_check_trick).binds (ps := ["trick"]) fun _ _ _ _ _ _ us hl => match us, hl with | [_], _ => rfl,
      g_check_trick := PySem.W.mg_of X G gf_check_trick,
      a_trick_block := a_trick_block,
      d_trick_block := _,
      F_trick_block := fun_mk (st := s_trick_block) l_trick_block c_trick_block kp_trick_block,
      b_trick_block := (fun_mk (st := s_trick_block) l_trick_block c_trick_block kp_trick_block).binds (ps := ["trick"]) fun _ _ _ _ _ _ us hl => match us, hl with | [_], _ => rfl,
      g_trick_block := PySem.W.mg_of X G gf_trick_block,
      a_made_of := a_made_of,
      d_made_of := _,
      F_made_of := fun_mk (st := s_made_of) l_made_of c_made_of kp_made_of,
      b_made_of := (fun_mk (st := s_made_of) l_made_of c_made_of kp_made_of).binds (ps := ["trick", "n"]) fun _ _ _ _ _ _ us hl => match us, hl with | [_, _], _ => rfl,
      g_made_of := PySem.W.mg_of X G gf_made_of,
      a_made_with := a_made_with,
      d_made_with := _,
      F_made_with := fun_mk (st := s_made_with) l_made_with c_made_with kp_made_with,
      b_made_with := (fun_mk (st := s_made_with) l_made_with c_made_with kp_made_with).binds (ps := ["block", "times", "n"]) fun _ _ _ _ _ _ us hl => match us, hl with | [_, _, _], _ => rfl,
      g_made_with := PySem.W.mg_of X G gf_made_with,
      a_chained := a_chained,
      d_chained := _,
      F_chained := fun_mk (st := s_chained) l_chained c_chained kp_chained,
      b_chained := (fun_mk (st := s_chained) l_chained c_chained kp_chained).binds (ps := ["tricks", "n"]) fun _ _ _ _ _ _ us hl => match us, hl with | [_, _], _ => rfl,
      g_chained := PySem.W.mg_of X G gf_chained,
      a_check_tricks := a_check_tricks,
      d_check_tricks := _,
      F_check_tricks := fun_mk (st := s_check_tricks) l_check_tricks c_check_tricks kp_check_tricks,
      b_check_tricks := (fun_mk (st := s_check_tricks) l_check_tricks c_check_tricks kp_check_tricks).binds (ps := ["tricks"]) fun _ _ _ _ _ _ us hl => match us, hl with | [_], _ => rfl,
      g_check_tricks := PySem.W.mg_of X G gf_check_tricks,
      a_made_of_all := a_made_of_all,
      d_made_of_all := _,
      F_made_of_all := fun_mk (st := s_made_of_all) l_made_of_all c_made_of_all kp_made_of_all,
      b_made_of_all := (fun_mk (st := s_made_of_all) l_made_of_all c_made_of_all kp_made_of_all).binds (ps := ["tricks", "n"]) fun _ _ _ _ _ _ us hl => match us, hl with | [_, _], _ => rfl,
      g_made_of_all := PySem.W.mg_of X G gf_made_of_all,
      a_ring_of := a_ring_of,
      d_ring_of := _,
      F_ring_of := fun_mk (st := s_ring_of) l_ring_of c_ring_of kp_ring_of,
      b_ring_of := (fun_mk (st := s_ring_of) l_ring_of c_ring_of kp_ring_of).binds (ps := ["trick", "n"]) fun _ _ _ _ _ _ us hl => match us, hl with | [_, _], _ => rfl,
      g_ring_of := PySem.W.mg_of X G gf_ring_of,
      a_rounds := a_rounds,
      d_rounds := _,
      F_rounds := fun_mk (st := s_rounds) l_rounds c_rounds kp_rounds,
      b_rounds := (fun_mk (st := s_rounds) l_rounds c_rounds kp_rounds).binds (ps := ["trick", "n", "low"]) fun _ _ _ _ _ _ us hl => match us, hl with | [_, _, _], _ => rfl,
      g_rounds := PySem.W.mg_of X G gf_rounds,
      a_unseen_path := a_unseen_path,
      d_unseen_path := _,
      F_unseen_path := fun_mk (st := s_unseen_path) l_unseen_path c_unseen_path kp_unseen_path,
      b_unseen_path := (fun_mk (st := s_unseen_path) l_unseen_path c_unseen_path kp_unseen_path).binds (ps := ["trick", "n", "seen"]) fun _ _ _ _ _ _ us hl => match us, hl with | [_, _, _], _ => rfl,
      g_unseen_path := PySem.W.mg_of X G gf_unseen_path,
      a_ring_at_end := a_ring_at_end,
      d_ring_at_end := _,
      F_ring_at_end := fun_mk (st := s_ring_at_end) l_ring_at_end c_ring_at_end kp_ring_at_end,
      b_ring_at_end := (fun_mk (st := s_ring_at_end) l_ring_at_end c_ring_at_end kp_ring_at_end).binds (ps := ["trick", "path"]) fun _ _ _ _ _ _ us hl => match us, hl with | [_, _], _ => rfl,
      g_ring_at_end := PySem.W.mg_of X G gf_ring_at_end,
      a_total := a_total,
      d_total := _,
      F_total := fun_mk (st := s_total) l_total c_total kp_total,
      b_total := (fun_mk (st := s_total) l_total c_total kp_total).binds (ps := ["told", "n"]) fun _ _ _ _ _ _ us hl => match us, hl with | [_, _], _ => rfl,
      g_total := PySem.W.mg_of X G gf_total,
      a_check_weights := a_check_weights,
      d_check_weights := _,
      F_check_weights := fun_mk (st := s_check_weights) l_check_weights c_check_weights kp_check_weights,
      b_check_weights := (fun_mk (st := s_check_weights) l_check_weights c_check_weights kp_check_weights).binds (ps := ["told", "fewest"]) fun _ _ _ _ _ _ us hl => match us, hl with | [_, _], _ => rfl,
      g_check_weights := PySem.W.mg_of X G gf_check_weights,
      a_check_sum := a_check_sum,
      d_check_sum := _,
      F_check_sum := fun_mk (st := s_check_sum) l_check_sum c_check_sum kp_check_sum,
      b_check_sum := (fun_mk (st := s_check_sum) l_check_sum c_check_sum kp_check_sum).binds (ps := ["told"]) fun _ _ _ _ _ _ us hl => match us, hl with | [_], _ => rfl,
      g_check_sum := PySem.W.mg_of X G gf_check_sum,
      a_sum_block := a_sum_block,
      d_sum_block := _,
      F_sum_block := fun_mk (st := s_sum_block) l_sum_block c_sum_block kp_sum_block,
      b_sum_block := (fun_mk (st := s_sum_block) l_sum_block c_sum_block kp_sum_block).binds (ps := ["told"]) fun _ _ _ _ _ _ us hl => match us, hl with | [_], _ => rfl,
      g_sum_block := PySem.W.mg_of X G gf_sum_block,
      a_weight_at := a_weight_at,
      d_weight_at := _,
      F_weight_at := fun_mk (st := s_weight_at) l_weight_at c_weight_at kp_weight_at,
      b_weight_at := (fun_mk (st := s_weight_at) l_weight_at c_weight_at kp_weight_at).binds (ps := ["told", "place"]) fun _ _ _ _ _ _ us hl => match us, hl with | [_, _], _ => rfl,
      g_weight_at := PySem.W.mg_of X G gf_weight_at,
      a__law_taken := a__law_taken,
      d__law_taken := _,
      F__law_taken := fun_mk (st := s__law_taken) l__law_taken c__law_taken kp__law_taken,
      b__law_taken := (fun_mk (st := s__law_taken) l__law_taken c__law_taken kp__law_taken).binds (ps := ["_law_row", "_law_many"]) fun _ _ _ _ _ _ us hl => match us, hl with | [_, _], _ => rfl,
      g__law_taken := PySem.W.mg_of X G gf__law_taken,
      a__law_odd_number := a__law_odd_number,
      d__law_odd_number := _,
      F__law_odd_number := fun_mk (st := s__law_odd_number) l__law_odd_number c__law_odd_number kp__law_odd_number,
      b__law_odd_number := (fun_mk (st := s__law_odd_number) l__law_odd_number c__law_odd_number kp__law_odd_number).binds (ps := ["_law_row"]) fun _ _ _ _ _ _ us hl => match us, hl with | [_], _ => rfl,
      g__law_odd_number := PySem.W.mg_of X G gf__law_odd_number,
      a__law_call := a__law_call,
      d__law_call := _,
      F__law_call := fun_mk (st := s__law_call) l__law_call c__law_call kp__law_call,
      b__law_call := (fun_mk (st := s__law_call) l__law_call c__law_call kp__law_call).binds (ps := ["_law_kind", "_law_value"]) fun _ _ _ _ _ _ us hl => match us, hl with | [_, _], _ => rfl,
      g__law_call := PySem.W.mg_of X G gf__law_call,
      a_law := a_law,
      d_law := _,
      F_law := fun_mk (st := s_law) l_law c_law kp_law,
      b_law := (fun_mk (st := s_law) l_law c_law kp_law).binds (ps := ["_law_script"]) fun _ _ _ _ _ _ us hl => match us, hl with | [_], _ => rfl,
      g_law := PySem.W.mg_of X G gf_law,
      C_Trick := C_Trick,
      cl_Trick := ⟨pg_Trick, hd_Trick, po_Trick, sa_Trick⟩,
      g_Trick := PySem.W.mg_of X G gx_Trick,
      kc_Trick := kc_Trick,
      ins_Trick := fun _ _ _ _ e => .ins e ⟨pg_Trick, hd_Trick, po_Trick, sa_Trick⟩ cc_Trick sp_cls tk_cls mo_Trick,
      ki_Trick_int := ki_Trick_int,
      ki_Trick_bool := ki_Trick_bool,
      ki_Trick_tuple := ki_Trick_tuple,
      ki_Trick_list := ki_Trick_list,
      nf_Trick_tuple := nf_Trick_tuple,
      kis_Trick := kis_Trick,
      kin_Trick_int := kin_Trick_int,
      kin_Trick_bool := kin_Trick_bool,
      kin_Trick_tuple := kin_Trick_tuple,
      kin_Trick_list := kin_Trick_list,
      kin_Trick_NoneType := kin_Trick_NoneType,
      kin_Trick_str := kin_Trick_str,
      kin_Trick_dict := kin_Trick_dict,
      na_Trick_base := na_Trick_base,
      na_Trick_take := na_Trick_take,
      na_Trick_times := na_Trick_times,
      a_Trick___init__ := a_Trick___init__,
      d_Trick___init__ := _,
      F_Trick___init__ := fun_mk (st := s_Trick___init__) l_Trick___init__ c_Trick___init__ kp_Trick___init__,
      b_Trick___init__ := (fun_mk (st := s_Trick___init__) l_Trick___init__ c_Trick___init__ kp_Trick___init__).binds (ps := ["self", "base", "take", "times"]) fun _ _ _ _ _ _ us hl => match us, hl with | [_, _, _, _], _ => rfl,
      mk_Trick := ⟨mk_Trick, gf_Trick___init__, isf_Trick___init__, kc_Trick⟩,
      a_Trick_base := a_Trick_base,
      d_Trick_base := _,
      F_Trick_base := fun_mk (st := s_Trick_base) l_Trick_base c_Trick_base kp_Trick_base,
      b_Trick_base := (fun_mk (st := s_Trick_base) l_Trick_base c_Trick_base kp_Trick_base).binds (ps := ["self"]) fun _ _ _ _ _ _ us hl => match us, hl with | [_], _ => rfl,
      q_Trick_base := pr_Trick_base,
      p_Trick_base := ⟨pa_Trick_base, pg_Trick_base, pt_Trick_base, ⟨_, prr_Trick_base⟩⟩,
      a_Trick_take := a_Trick_take,
      d_Trick_take := _,
      F_Trick_take := fun_mk (st := s_Trick_take) l_Trick_take c_Trick_take kp_Trick_take,
      b_Trick_take := (fun_mk (st := s_Trick_take) l_Trick_take c_Trick_take kp_Trick_take).binds (ps := ["self"]) fun _ _ _ _ _ _ us hl => match us, hl with | [_], _ => rfl,
      q_Trick_take := pr_Trick_take,
      p_Trick_take := ⟨pa_Trick_take, pg_Trick_take, pt_Trick_take, ⟨_, prr_Trick_take⟩⟩,
      a_Trick_times := a_Trick_times,
      d_Trick_times := _,
      F_Trick_times := fun_mk (st := s_Trick_times) l_Trick_times c_Trick_times kp_Trick_times,
      b_Trick_times := (fun_mk (st := s_Trick_times) l_Trick_times c_Trick_times kp_Trick_times).binds (ps := ["self"]) fun _ _ _ _ _ _ us hl => match us, hl with | [_], _ => rfl,
      q_Trick_times := pr_Trick_times,
      p_Trick_times := ⟨pa_Trick_times, pg_Trick_times, pt_Trick_times, ⟨_, prr_Trick_times⟩⟩,
      a_Trick___eq__ := a_Trick___eq__,
      d_Trick___eq__ := _,
      F_Trick___eq__ := fun_mk (st := s_Trick___eq__) l_Trick___eq__ c_Trick___eq__ kp_Trick___eq__,
      b_Trick___eq__ := (fun_mk (st := s_Trick___eq__) l_Trick___eq__ c_Trick___eq__ kp_Trick___eq__).binds (ps := ["self", "other"]) fun _ _ _ _ _ _ us hl => match us, hl with | [_, _], _ => rfl,
      m_Trick___eq__ := ⟨gf_Trick___eq__, isf_Trick___eq__, kp_Trick___eq__⟩,
      C_Reckoner := C_Reckoner,
      cl_Reckoner := ⟨pg_Reckoner, hd_Reckoner, po_Reckoner, sa_Reckoner⟩,
      g_Reckoner := PySem.W.mg_of X G gx_Reckoner,
      kc_Reckoner := kc_Reckoner,
      ins_Reckoner := fun _ _ _ _ e => .ins e ⟨pg_Reckoner, hd_Reckoner, po_Reckoner, sa_Reckoner⟩ cc_Reckoner sp_cls tk_cls mo_Reckoner,
      ki_Reckoner_int := ki_Reckoner_int,
      ki_Reckoner_bool := ki_Reckoner_bool,
      ki_Reckoner_tuple := ki_Reckoner_tuple,
      ki_Reckoner_list := ki_Reckoner_list,
      kis_Reckoner := kis_Reckoner,
      kin_Reckoner_int := kin_Reckoner_int,
      kin_Reckoner_bool := kin_Reckoner_bool,
      kin_Reckoner_tuple := kin_Reckoner_tuple,
      kin_Reckoner_list := kin_Reckoner_list,
      kin_Reckoner_NoneType := kin_Reckoner_NoneType,
      kin_Reckoner_str := kin_Reckoner_str,
      kin_Reckoner_dict := kin_Reckoner_dict,
      na_Reckoner_numbers := na_Reckoner_numbers,
      na_Reckoner_tricks := na_Reckoner_tricks,
      a_Reckoner___init__ := a_Reckoner___init__,
      d_Reckoner___init__ := _,
      F_Reckoner___init__ := fun_mk (st := s_Reckoner___init__) l_Reckoner___init__ c_Reckoner___init__ kp_Reckoner___init__,
      b_Reckoner___init__ := (fun_mk (st := s_Reckoner___init__) l_Reckoner___init__ c_Reckoner___init__ kp_Reckoner___init__).binds (ps := ["self", "n"]) fun _ _ _ _ _ _ us hl => match us, hl with | [_, _], _ => rfl,
      mk_Reckoner := ⟨mk_Reckoner, gf_Reckoner___init__, isf_Reckoner___init__, kc_Reckoner⟩,
      a_Reckoner_now := a_Reckoner_now,
      d_Reckoner_now := _,
      F_Reckoner_now := fun_mk (st := s_Reckoner_now) l_Reckoner_now c_Reckoner_now kp_Reckoner_now,
      b_Reckoner_now := (fun_mk (st := s_Reckoner_now) l_Reckoner_now c_Reckoner_now kp_Reckoner_now).binds (ps := ["self"]) fun _ _ _ _ _ _ us hl => match us, hl with | [_], _ => rfl,
      q_Reckoner_now := pr_Reckoner_now,
      p_Reckoner_now := ⟨pa_Reckoner_now, pg_Reckoner_now, pt_Reckoner_now, ⟨_, prr_Reckoner_now⟩⟩,
      a_Reckoner_tricks := a_Reckoner_tricks,
      d_Reckoner_tricks := _,
      F_Reckoner_tricks := fun_mk (st := s_Reckoner_tricks) l_Reckoner_tricks c_Reckoner_tricks kp_Reckoner_tricks,
      b_Reckoner_tricks := (fun_mk (st := s_Reckoner_tricks) l_Reckoner_tricks c_Reckoner_tricks kp_Reckoner_tricks).binds (ps := ["self"]) fun _ _ _ _ _ _ us hl => match us, hl with | [_], _ => rfl,
      q_Reckoner_tricks := pr_Reckoner_tricks,
      p_Reckoner_tricks := ⟨pa_Reckoner_tricks, pg_Reckoner_tricks, pt_Reckoner_tricks, ⟨_, prr_Reckoner_tricks⟩⟩,
      a_Reckoner_step := a_Reckoner_step,
      d_Reckoner_step := _,
      F_Reckoner_step := fun_mk (st := s_Reckoner_step) l_Reckoner_step c_Reckoner_step kp_Reckoner_step,
      b_Reckoner_step := (fun_mk (st := s_Reckoner_step) l_Reckoner_step c_Reckoner_step kp_Reckoner_step).binds (ps := ["self", "trick"]) fun _ _ _ _ _ _ us hl => match us, hl with | [_, _], _ => rfl,
      m_Reckoner_step := ⟨gf_Reckoner_step, isf_Reckoner_step, kp_Reckoner_step⟩,
      a_Reckoner_undo := a_Reckoner_undo,
      d_Reckoner_undo := _,
      F_Reckoner_undo := fun_mk (st := s_Reckoner_undo) l_Reckoner_undo c_Reckoner_undo kp_Reckoner_undo,
      b_Reckoner_undo := (fun_mk (st := s_Reckoner_undo) l_Reckoner_undo c_Reckoner_undo kp_Reckoner_undo).binds (ps := ["self"]) fun _ _ _ _ _ _ us hl => match us, hl with | [_], _ => rfl,
      m_Reckoner_undo := ⟨gf_Reckoner_undo, isf_Reckoner_undo, kp_Reckoner_undo⟩,
      a_Reckoner_copy := a_Reckoner_copy,
      d_Reckoner_copy := _,
      F_Reckoner_copy := fun_mk (st := s_Reckoner_copy) l_Reckoner_copy c_Reckoner_copy kp_Reckoner_copy,
      b_Reckoner_copy := (fun_mk (st := s_Reckoner_copy) l_Reckoner_copy c_Reckoner_copy kp_Reckoner_copy).binds (ps := ["self"]) fun _ _ _ _ _ _ us hl => match us, hl with | [_], _ => rfl,
      m_Reckoner_copy := ⟨gf_Reckoner_copy, isf_Reckoner_copy, kp_Reckoner_copy⟩,
      a_Reckoner___len__ := a_Reckoner___len__,
      d_Reckoner___len__ := _,
      F_Reckoner___len__ := fun_mk (st := s_Reckoner___len__) l_Reckoner___len__ c_Reckoner___len__ kp_Reckoner___len__,
      b_Reckoner___len__ := (fun_mk (st := s_Reckoner___len__) l_Reckoner___len__ c_Reckoner___len__ kp_Reckoner___len__).binds (ps := ["self"]) fun _ _ _ _ _ _ us hl => match us, hl with | [_], _ => rfl,
      m_Reckoner___len__ := ⟨gf_Reckoner___len__, isf_Reckoner___len__, kp_Reckoner___len__⟩,
      C_Sum := C_Sum,
      cl_Sum := ⟨pg_Sum, hd_Sum, po_Sum, sa_Sum⟩,
      g_Sum := PySem.W.mg_of X G gx_Sum,
      kc_Sum := kc_Sum,
      ins_Sum := fun _ _ _ _ e => .ins e ⟨pg_Sum, hd_Sum, po_Sum, sa_Sum⟩ cc_Sum sp_cls tk_cls mo_Sum,
      ki_Sum_int := ki_Sum_int,
      ki_Sum_bool := ki_Sum_bool,
      ki_Sum_tuple := ki_Sum_tuple,
      ki_Sum_list := ki_Sum_list,
      nf_Sum_tuple := nf_Sum_tuple,
      kis_Sum := kis_Sum,
      kin_Sum_int := kin_Sum_int,
      kin_Sum_bool := kin_Sum_bool,
      kin_Sum_tuple := kin_Sum_tuple,
      kin_Sum_list := kin_Sum_list,
      kin_Sum_NoneType := kin_Sum_NoneType,
      kin_Sum_str := kin_Sum_str,
      kin_Sum_dict := kin_Sum_dict,
      na_Sum_base := na_Sum_base,
      na_Sum_first := na_Sum_first,
      na_Sum_loop := na_Sum_loop,
      na_Sum_take := na_Sum_take,
      a_Sum___init__ := a_Sum___init__,
      d_Sum___init__ := _,
      F_Sum___init__ := fun_mk (st := s_Sum___init__) l_Sum___init__ c_Sum___init__ kp_Sum___init__,
      b_Sum___init__ := (fun_mk (st := s_Sum___init__) l_Sum___init__ c_Sum___init__ kp_Sum___init__).binds (ps := ["self", "base", "take", "first", "loop"]) fun _ _ _ _ _ _ us hl => match us, hl with | [_, _, _, _, _], _ => rfl,
      mk_Sum := ⟨mk_Sum, gf_Sum___init__, isf_Sum___init__, kc_Sum⟩,
      a_Sum_base := a_Sum_base,
      d_Sum_base := _,
      F_Sum_base := fun_mk (st := s_Sum_base) l_Sum_base c_Sum_base kp_Sum_base,
      b_Sum_base := (fun_mk (st := s_Sum_base) l_Sum_base c_Sum_base kp_Sum_base).binds (ps := ["self"]) fun _ _ _ _ _ _ us hl => match us, hl with | [_], _ => rfl,
      q_Sum_base := pr_Sum_base,
      p_Sum_base := ⟨pa_Sum_base, pg_Sum_base, pt_Sum_base, ⟨_, prr_Sum_base⟩⟩,
      a_Sum_take := a_Sum_take,
      d_Sum_take := _,
      F_Sum_take := fun_mk (st := s_Sum_take) l_Sum_take c_Sum_take kp_Sum_take,
      b_Sum_take := (fun_mk (st := s_Sum_take) l_Sum_take c_Sum_take kp_Sum_take).binds (ps := ["self"]) fun _ _ _ _ _ _ us hl => match us, hl with | [_], _ => rfl,
      q_Sum_take := pr_Sum_take,
      p_Sum_take := ⟨pa_Sum_take, pg_Sum_take, pt_Sum_take, ⟨_, prr_Sum_take⟩⟩,
      a_Sum_first := a_Sum_first,
      d_Sum_first := _,
      F_Sum_first := fun_mk (st := s_Sum_first) l_Sum_first c_Sum_first kp_Sum_first,
      b_Sum_first := (fun_mk (st := s_Sum_first) l_Sum_first c_Sum_first kp_Sum_first).binds (ps := ["self"]) fun _ _ _ _ _ _ us hl => match us, hl with | [_], _ => rfl,
      q_Sum_first := pr_Sum_first,
      p_Sum_first := ⟨pa_Sum_first, pg_Sum_first, pt_Sum_first, ⟨_, prr_Sum_first⟩⟩,
      a_Sum_loop := a_Sum_loop,
      d_Sum_loop := _,
      F_Sum_loop := fun_mk (st := s_Sum_loop) l_Sum_loop c_Sum_loop kp_Sum_loop,
      b_Sum_loop := (fun_mk (st := s_Sum_loop) l_Sum_loop c_Sum_loop kp_Sum_loop).binds (ps := ["self"]) fun _ _ _ _ _ _ us hl => match us, hl with | [_], _ => rfl,
      q_Sum_loop := pr_Sum_loop,
      p_Sum_loop := ⟨pa_Sum_loop, pg_Sum_loop, pt_Sum_loop, ⟨_, prr_Sum_loop⟩⟩,
      a_Sum___eq__ := a_Sum___eq__,
      d_Sum___eq__ := _,
      F_Sum___eq__ := fun_mk (st := s_Sum___eq__) l_Sum___eq__ c_Sum___eq__ kp_Sum___eq__,
      b_Sum___eq__ := (fun_mk (st := s_Sum___eq__) l_Sum___eq__ c_Sum___eq__ kp_Sum___eq__).binds (ps := ["self", "other"]) fun _ _ _ _ _ _ us hl => match us, hl with | [_, _], _ => rfl,
      m_Sum___eq__ := ⟨gf_Sum___eq__, isf_Sum___eq__, kp_Sum___eq__⟩,
      n_int := PySem.W.mg_none_of X G z_int,
      n_bool := PySem.W.mg_none_of X G z_bool,
      n_len := PySem.W.mg_none_of X G z_len,
      n_range := PySem.W.mg_none_of X G z_range,
      n_isinstance := PySem.W.mg_none_of X G z_isinstance,
      n_tuple := PySem.W.mg_none_of X G z_tuple,
      n_list := PySem.W.mg_none_of X G z_list,
      n_sorted := PySem.W.mg_none_of X G z_sorted,
      n_enumerate := PySem.W.mg_none_of X G z_enumerate,
      n_abs := PySem.W.mg_none_of X G z_abs,
      n_min := PySem.W.mg_none_of X G z_min,
      n_super := PySem.W.mg_none_of X G z_super,
      n_ValueError := PySem.W.mg_none_of X G z_ValueError,
      a_BadNumber___init__ := a_BadNumber___init__,
      x_BadNumber := { gC := PySem.W.mg_of X G gx_BadNumber, cls := ⟨_, _, _, _, _, _, _, _, _, _, _, _, _, _, _, xl_BadNumber___init__, xrb_BadNumber___init__⟩, sa := xsa_BadNumber___init__, ga := xga_BadNumber___init__, gg := xgg_BadNumber___init__, noF := xnf_BadNumber___init__, iC := xic_BadNumber___init__, tC := xtc_BadNumber___init__, kC := k_BadNumber, exC := s_BadNumber, tyC := t_BadNumber, hdC := xhd_BadNumber___init__, up := xup_BadNumber___init__, any := xan_BadNumber___init__, ve := xve_BadNumber___init__, own := xow_BadNumber___init__, sup := PySem.W.mg_none_of X G z_super, main := rmn_BadNumber___init__, fn := ⟨_, _, _, _, _, _, _, _, _, _, _, _, _, _, _, _, _, _, _, xfn_BadNumber___init__, xco_BadNumber___init__, xcd_BadNumber___init__, rvs_BadNumber___init__, rfi_BadNumber___init__, xcc_BadNumber___init__⟩, text := ⟨_, _, _, _, _, _, _, _, _, _, _, rfl, rfl, fun _ => rfl⟩, kS := rfl, kK := rfl, k0 := rfl, kF := rfl, nF := by decide, nD := by decide, noCell := by decide +kernel, bind := fun _ _ _ _ _ _ _ _ _ => rfl, plain := fun _ => rfl, knd := rfl, co := rfl, gen := rfl },
      a_BadWeights___init__ := a_BadWeights___init__,
      x_BadWeights := { gC := PySem.W.mg_of X G gx_BadWeights, cls := ⟨_, _, _, _, _, _, _, _, _, _, _, _, _, _, _, xl_BadWeights___init__, xrb_BadWeights___init__⟩, sa := xsa_BadWeights___init__, ga := xga_BadWeights___init__, gg := xgg_BadWeights___init__, noF := xnf_BadWeights___init__, iC := xic_BadWeights___init__, tC := xtc_BadWeights___init__, kC := k_BadWeights, exC := s_BadWeights, tyC := t_BadWeights, hdC := xhd_BadWeights___init__, up := xup_BadWeights___init__, any := xan_BadWeights___init__, ve := xve_BadWeights___init__, own := xow_BadWeights___init__, sup := PySem.W.mg_none_of X G z_super, main := rmn_BadWeights___init__, fn := ⟨_, _, _, _, _, _, _, _, _, _, _, _, _, _, _, _, _, _, _, xfn_BadWeights___init__, xco_BadWeights___init__, xcd_BadWeights___init__, rvs_BadWeights___init__, rfi_BadWeights___init__, xcc_BadWeights___init__⟩, text := ⟨_, _, _, _, _, _, _, _, _, _, _, rfl, rfl, fun _ => rfl⟩, kS := rfl, kK := rfl, k0 := rfl, kF := rfl, nF := by decide, nD := by decide, noCell := by decide +kernel, bind := fun _ _ _ _ _ _ _ _ _ => rfl, plain := fun _ => rfl, knd := rfl, co := rfl, gen := rfl },
      a_BadTricks___init__ := a_BadTricks___init__,
      x_BadTricks := { gC := PySem.W.mg_of X G gx_BadTricks, cls := ⟨_, _, _, _, _, _, _, _, _, _, _, _, _, _, _, xl_BadTricks___init__, xrb_BadTricks___init__⟩, sa := xsa_BadTricks___init__, ga := xga_BadTricks___init__, gg := xgg_BadTricks___init__, noF := xnf_BadTricks___init__, iC := xic_BadTricks___init__, tC := xtc_BadTricks___init__, kC := k_BadTricks, exC := s_BadTricks, tyC := t_BadTricks, hdC := xhd_BadTricks___init__, up := xup_BadTricks___init__, any := xan_BadTricks___init__, ve := xve_BadTricks___init__, own := xow_BadTricks___init__, sup := PySem.W.mg_none_of X G z_super, main := rmn_BadTricks___init__, fn := ⟨_, _, _, _, _, _, _, _, _, _, _, _, _, _, _, _, _, _, _, xfn_BadTricks___init__, xco_BadTricks___init__, xcd_BadTricks___init__, rvs_BadTricks___init__, rfi_BadTricks___init__, xcc_BadTricks___init__⟩, text := ⟨_, _, _, _, _, _, _, _, _, _, _, rfl, rfl, fun _ => rfl⟩, kS := rfl, kK := rfl, k0 := rfl, kF := rfl, nF := by decide, nD := by decide, noCell := by decide +kernel, bind := fun _ _ _ _ _ _ _ _ _ => rfl, plain := fun _ => rfl, knd := rfl, co := rfl, gen := rfl } })
theorem walk {l : PySem.W.OpenLaw} {q : Program} {loose : List Str} {XP : (Str → Option Value) → Heap → Prop} {YP : World → Heap → Prop} {d : DefRec} {K : Params → PySem.W.Frag} (hn : l.most = some 63) (hdf : d.params.defaults = [])
    (hY : ∀ (w : World) (h : Heap), YP w h → (K w.params).In h)
    (F : ∀ (w : World) (mg : Str → Option Value) (fa : Addr) (h : Heap), (K w.params).In h → h.Ns mainGlobals mg → mg d.name = some (.ref fa) →
      ∃ fd : FuncData, (∀ (s : Shared) (u : Value), BindsTo s fd ⟨[u], []⟩ [("_law_script", u)]) ∧ ∀ base : Heap, (K w.params).In base → base.Ns mainGlobals mg → FnOk l.prog w (K w.params) mg base CX0 lv_law fa fd ["_law_script"] (sp_law (K w.params))) :
    PySem.W.WalkO q loose XP YP l.row.toRowW d [] (fun f vs => PySem.call f vs) :=
  L2.walk_of (n := 63) (k := lv_law) (x := "_law_script") (CX := fun _ => CX0) (sp := fun w => sp_law (K w.params)) hn (by decide) hdf ⟨rfl, by decide, by decide⟩ hY F (fun _ _ a ns hl hO hS => ⟨a, ns, rfl, scr_of hO hS, hl, fun _ => rfl⟩) fun _ _ _ _ _ z => z
end Rt
open PySem PySem.W PyProof.Rows
set_option maxRecDepth 100000 in
set_option maxHeartbeats 0 in
theorem PySem.Challenge.cw_resttricks_k07_numbers_refused_holds : PySem.Challenge.rw_resttricks_k07_numbers_refused.Holds := by
  w_on; o_law; k_head; (case hw => w_witness2)
  k_fill
  refine Rt.walk (l := PySem.Challenge.rw_resttricks_k07_numbers_refused) rfl rfl (fun w h Y => PySem.W.kIn_of Y) ?F
  case F =>
    intro w mg fa h KX G hmg
    refine' Rt.all_mk KX G hmg ?gx_TrickError ?x_TrickError ?k_TrickError ?s_TrickError ?t_TrickError ?gx_BadBase ?x_BadBase ?k_BadBase ?s_BadBase ?t_BadBase ?gx_BadTake ?x_BadTake ?k_BadTake ?s_BadTake ?t_BadTake ?gx_BadTimes ?x_BadTimes ?k_BadTimes ?s_BadTimes ?t_BadTimes ?gx_BadTrick ?x_BadTrick ?k_BadTrick ?s_BadTrick ?t_BadTrick ?gx_BadSum ?x_BadSum ?k_BadSum ?s_BadSum ?t_BadSum ?gx_BadNumber ?k_BadNumber ?s_BadNumber ?t_BadNumber ?hd_BadNumber ?gx_BadWeights ?k_BadWeights ?s_BadWeights ?t_BadWeights ?gx_BadTricks ?k_BadTricks ?s_BadTricks ?t_BadTricks ?su_TrickError_BadNumber ?su_BadBase_BadNumber ?su_BadTake_BadNumber ?su_BadTimes_BadNumber ?su_BadTrick_BadNumber ?su_BadSum_BadNumber ?su_BadNumber_BadNumber ?su_BadWeights_BadNumber ?su_BadTricks_BadNumber ?cx_GREATEST_NUMBER ?cx_LEAST_BASE ?cx_GREATEST_BASE ?cx_GREATEST_TAKE ?cx_GREATEST_TIMES ?cx_MOST_ROUNDS ?cx_MOST_TRICKS ?cx_GREATEST_WEIGHT ?cx_MOST_WEIGHTS ?gf__wall ?l__wall ?c__wall ?kp__wall ?gf_is_integer ?l_is_integer ?c_is_integer ?kp_is_integer ?gf_is_tuple ?l_is_tuple ?c_is_tuple ?kp_is_tuple ?gf_is_list_or_tuple ?l_is_list_or_tuple ?c_is_list_or_tuple ?kp_is_list_or_tuple ?gf_is_number ?l_is_number ?c_is_number ?kp_is_number ?gf_first_wrong ?l_first_wrong ?c_first_wrong ?kp_first_wrong ?gf_check_base ?l_check_base ?c_check_base ?kp_check_base ?gf_check_take ?l_check_take ?c_check_take ?kp_check_take ?gf_check_stretch ?l_check_stretch ?c_check_stretch ?kp_check_stretch ?gf_check_number ?l_check_number ?c_check_number ?kp_check_number ?gf_block_of ?l_block_of ?c_block_of ?kp_block_of ?gf_done ?l_done ?c_done ?kp_done ?gf_trail ?l_trail ?c_trail ?kp_trail ?gf_ahead ?l_ahead ?c_ahead ?kp_ahead ?gf_check_trick ?l_check_trick ?c_check_trick ?kp_check_trick ?gf_trick_block ?l_trick_block ?c_trick_block ?kp_trick_block ?gf_made_of ?l_made_of ?c_made_of ?kp_made_of ?gf_made_with ?l_made_with ?c_made_with ?kp_made_with ?gf_chained ?l_chained ?c_chained ?kp_chained ?gf_check_tricks ?l_check_tricks ?c_check_tricks ?kp_check_tricks ?gf_made_of_all ?l_made_of_all ?c_made_of_all ?kp_made_of_all ?gf_ring_of ?l_ring_of ?c_ring_of ?kp_ring_of ?gf_rounds ?l_rounds ?c_rounds ?kp_rounds ?gf_unseen_path ?l_unseen_path ?c_unseen_path ?kp_unseen_path ?gf_ring_at_end ?l_ring_at_end ?c_ring_at_end ?kp_ring_at_end ?gf_total ?l_total ?c_total ?kp_total ?gf_check_weights ?l_check_weights ?c_check_weights ?kp_check_weights ?gf_check_sum ?l_check_sum ?c_check_sum ?kp_check_sum ?gf_sum_block ?l_sum_block ?c_sum_block ?kp_sum_block ?gf_weight_at ?l_weight_at ?c_weight_at ?kp_weight_at ?gf__law_taken ?l__law_taken ?c__law_taken ?kp__law_taken ?gf__law_odd_number ?l__law_odd_number ?c__law_odd_number ?kp__law_odd_number ?gf__law_call ?l__law_call ?c__law_call ?kp__law_call ?gf_law ?l_law ?c_law ?kp_law ?gx_Trick ?pg_Trick ?hd_Trick ?po_Trick ?sa_Trick ?mk_Trick ?kc_Trick ?cc_Trick ?mo_Trick ?sp_cls ?tk_cls ?ki_Trick_int ?ki_Trick_bool ?ki_Trick_tuple ?ki_Trick_list ?nf_Trick_tuple ?kis_Trick ?kin_Trick_int ?kin_Trick_bool ?kin_Trick_tuple ?kin_Trick_list ?kin_Trick_NoneType ?kin_Trick_str ?kin_Trick_dict ?na_Trick_base ?na_Trick_take ?na_Trick_times ?gf_Trick___init__ ?l_Trick___init__ ?c_Trick___init__ ?kp_Trick___init__ ?isf_Trick___init__ ?pa_Trick_base ?pg_Trick_base ?pt_Trick_base ?prr_Trick_base ?l_Trick_base ?c_Trick_base ?kp_Trick_base ?pa_Trick_take ?pg_Trick_take ?pt_Trick_take ?prr_Trick_take ?l_Trick_take ?c_Trick_take ?kp_Trick_take ?pa_Trick_times ?pg_Trick_times ?pt_Trick_times ?prr_Trick_times ?l_Trick_times ?c_Trick_times ?kp_Trick_times ?gf_Trick___eq__ ?l_Trick___eq__ ?c_Trick___eq__ ?kp_Trick___eq__ ?isf_Trick___eq__ ?gx_Reckoner ?pg_Reckoner ?hd_Reckoner ?po_Reckoner ?sa_Reckoner ?mk_Reckoner ?kc_Reckoner ?cc_Reckoner ?mo_Reckoner ?ki_Reckoner_int ?ki_Reckoner_bool ?ki_Reckoner_tuple ?ki_Reckoner_list ?kis_Reckoner ?kin_Reckoner_int ?kin_Reckoner_bool ?kin_Reckoner_tuple ?kin_Reckoner_list ?kin_Reckoner_NoneType ?kin_Reckoner_str ?kin_Reckoner_dict ?na_Reckoner_numbers ?na_Reckoner_tricks ?gf_Reckoner___init__ ?l_Reckoner___init__ ?c_Reckoner___init__ ?kp_Reckoner___init__ ?isf_Reckoner___init__ ?pa_Reckoner_now ?pg_Reckoner_now ?pt_Reckoner_now ?prr_Reckoner_now ?l_Reckoner_now ?c_Reckoner_now ?kp_Reckoner_now ?pa_Reckoner_tricks ?pg_Reckoner_tricks ?pt_Reckoner_tricks ?prr_Reckoner_tricks ?l_Reckoner_tricks ?c_Reckoner_tricks ?kp_Reckoner_tricks ?gf_Reckoner_step ?l_Reckoner_step ?c_Reckoner_step ?kp_Reckoner_step ?isf_Reckoner_step ?gf_Reckoner_undo ?l_Reckoner_undo ?c_Reckoner_undo ?kp_Reckoner_undo ?isf_Reckoner_undo ?gf_Reckoner_copy ?l_Reckoner_copy ?c_Reckoner_copy ?kp_Reckoner_copy ?isf_Reckoner_copy ?gf_Reckoner___len__ ?l_Reckoner___len__ ?c_Reckoner___len__ ?kp_Reckoner___len__ ?isf_Reckoner___len__ ?gx_Sum ?pg_Sum ?hd_Sum ?po_Sum ?sa_Sum ?mk_Sum ?kc_Sum ?cc_Sum ?mo_Sum ?ki_Sum_int ?ki_Sum_bool ?ki_Sum_tuple ?ki_Sum_list ?nf_Sum_tuple ?kis_Sum ?kin_Sum_int ?kin_Sum_bool ?kin_Sum_tuple ?kin_Sum_list ?kin_Sum_NoneType ?kin_Sum_str ?kin_Sum_dict ?na_Sum_base ?na_Sum_first ?na_Sum_loop ?na_Sum_take ?gf_Sum___init__ ?l_Sum___init__ ?c_Sum___init__ ?kp_Sum___init__ ?isf_Sum___init__ ?pa_Sum_base ?pg_Sum_base ?pt_Sum_base ?prr_Sum_base ?l_Sum_base ?c_Sum_base ?kp_Sum_base ?pa_Sum_take ?pg_Sum_take ?pt_Sum_take ?prr_Sum_take ?l_Sum_take ?c_Sum_take ?kp_Sum_take ?pa_Sum_first ?pg_Sum_first ?pt_Sum_first ?prr_Sum_first ?l_Sum_first ?c_Sum_first ?kp_Sum_first ?pa_Sum_loop ?pg_Sum_loop ?pt_Sum_loop ?prr_Sum_loop ?l_Sum_loop ?c_Sum_loop ?kp_Sum_loop ?gf_Sum___eq__ ?l_Sum___eq__ ?c_Sum___eq__ ?kp_Sum___eq__ ?isf_Sum___eq__ ?z_int ?z_bool ?z_len ?z_range ?z_isinstance ?z_tuple ?z_list ?z_sorted ?z_enumerate ?z_abs ?z_min ?z_super ?z_ValueError ?xl_BadNumber___init__ ?xrb_BadNumber___init__ ?xsa_BadNumber___init__ ?xga_BadNumber___init__ ?xgg_BadNumber___init__ ?xnf_BadNumber___init__ ?xic_BadNumber___init__ ?xtc_BadNumber___init__ ?xhd_BadNumber___init__ ?xup_BadNumber___init__ ?xan_BadNumber___init__ ?xve_BadNumber___init__ ?xow_BadNumber___init__ ?rmn_BadNumber___init__ ?xfn_BadNumber___init__ ?xco_BadNumber___init__ ?xcd_BadNumber___init__ ?rvs_BadNumber___init__ ?rfi_BadNumber___init__ ?xcc_BadNumber___init__ ?xl_BadWeights___init__ ?xrb_BadWeights___init__ ?xsa_BadWeights___init__ ?xga_BadWeights___init__ ?xgg_BadWeights___init__ ?xnf_BadWeights___init__ ?xic_BadWeights___init__ ?xtc_BadWeights___init__ ?xhd_BadWeights___init__ ?xup_BadWeights___init__ ?xan_BadWeights___init__ ?xve_BadWeights___init__ ?xow_BadWeights___init__ ?rmn_BadWeights___init__ ?xfn_BadWeights___init__ ?xco_BadWeights___init__ ?xcd_BadWeights___init__ ?rvs_BadWeights___init__ ?rfi_BadWeights___init__ ?xcc_BadWeights___init__ ?xl_BadTricks___init__ ?xrb_BadTricks___init__ ?xsa_BadTricks___init__ ?xga_BadTricks___init__ ?xgg_BadTricks___init__ ?xnf_BadTricks___init__ ?xic_BadTricks___init__ ?xtc_BadTricks___init__ ?xhd_BadTricks___init__ ?xup_BadTricks___init__ ?xan_BadTricks___init__ ?xve_BadTricks___init__ ?xow_BadTricks___init__ ?rmn_BadTricks___init__ ?xfn_BadTricks___init__ ?xco_BadTricks___init__ ?xcd_BadTricks___init__ ?rvs_BadTricks___init__ ?rfi_BadTricks___init__ ?xcc_BadTricks___init__
    (case gx_TrickError => k_is)
    (case x_TrickError => k_exc)
    (case k_TrickError => k_is)
    (case s_TrickError => k_is)
    (case t_TrickError => k_is)
    (case gx_BadBase => k_is)
    (case x_BadBase => k_exc)
    (case k_BadBase => k_is)
    (case s_BadBase => k_is)
    (case t_BadBase => k_is)
    (case gx_BadTake => k_is)
    (case x_BadTake => k_exc)
    (case k_BadTake => k_is)
    (case s_BadTake => k_is)
    (case t_BadTake => k_is)
    (case gx_BadTimes => k_is)
    (case x_BadTimes => k_exc)
    (case k_BadTimes => k_is)
    (case s_BadTimes => k_is)
    (case t_BadTimes => k_is)
    (case gx_BadTrick => k_is)
    (case x_BadTrick => k_exc)
    (case k_BadTrick => k_is)
    (case s_BadTrick => k_is)
    (case t_BadTrick => k_is)
    (case gx_BadSum => k_is)
    (case x_BadSum => k_exc)
    (case k_BadSum => k_is)
    (case s_BadSum => k_is)
    (case t_BadSum => k_is)
    (case gx_BadNumber => k_is)
    (case k_BadNumber => k_is)
    (case s_BadNumber => k_is)
    (case t_BadNumber => k_is)
    (case hd_BadNumber => k_is)
    (case gx_BadWeights => k_is)
    (case k_BadWeights => k_is)
    (case s_BadWeights => k_is)
    (case t_BadWeights => k_is)
    (case gx_BadTricks => k_is)
    (case k_BadTricks => k_is)
    (case s_BadTricks => k_is)
    (case t_BadTricks => k_is)
    (case su_TrickError_BadNumber => first | k_is | rfl)
    (case su_BadBase_BadNumber => first | k_is | rfl)
    (case su_BadTake_BadNumber => first | k_is | rfl)
    (case su_BadTimes_BadNumber => first | k_is | rfl)
    (case su_BadTrick_BadNumber => first | k_is | rfl)
    (case su_BadSum_BadNumber => first | k_is | rfl)
    (case su_BadNumber_BadNumber => first | k_is | rfl)
    (case su_BadWeights_BadNumber => first | k_is | rfl)
    (case su_BadTricks_BadNumber => first | k_is | rfl)
    (case cx_GREATEST_NUMBER => k_is)
    (case cx_LEAST_BASE => k_is)
    (case cx_GREATEST_BASE => k_is)
    (case cx_GREATEST_TAKE => k_is)
    (case cx_GREATEST_TIMES => k_is)
    (case cx_MOST_ROUNDS => k_is)
    (case cx_MOST_TRICKS => k_is)
    (case cx_GREATEST_WEIGHT => k_is)
    (case cx_MOST_WEIGHTS => k_is)
    (case gf__wall => k_is)
    (case l__wall => k_is)
    (case c__wall => k_is)
    (case kp__wall => k_is)
    (case gf_is_integer => k_is)
    (case l_is_integer => k_is)
    (case c_is_integer => k_is)
    (case kp_is_integer => k_is)
    (case gf_is_tuple => k_is)
    (case l_is_tuple => k_is)
    (case c_is_tuple => k_is)
    (case kp_is_tuple => k_is)
    (case gf_is_list_or_tuple => k_is)
    (case l_is_list_or_tuple => k_is)
    (case c_is_list_or_tuple => k_is)
    (case kp_is_list_or_tuple => k_is)
    (case gf_is_number => k_is)
    (case l_is_number => k_is)
    (case c_is_number => k_is)
    (case kp_is_number => k_is)
    (case gf_first_wrong => k_is)
    (case l_first_wrong => k_is)
    (case c_first_wrong => k_is)
    (case kp_first_wrong => k_is)
    (case gf_check_base => k_is)
    (case l_check_base => k_is)
    (case c_check_base => k_is)
    (case kp_check_base => k_is)
    (case gf_check_take => k_is)
    (case l_check_take => k_is)
    (case c_check_take => k_is)
    (case kp_check_take => k_is)
    (case gf_check_stretch => k_is)
    (case l_check_stretch => k_is)
    (case c_check_stretch => k_is)
    (case kp_check_stretch => k_is)
    (case gf_check_number => k_is)
    (case l_check_number => k_is)
    (case c_check_number => k_is)
    (case kp_check_number => k_is)
    (case gf_block_of => k_is)
    (case l_block_of => k_is)
    (case c_block_of => k_is)
    (case kp_block_of => k_is)
    (case gf_done => k_is)
    (case l_done => k_is)
    (case c_done => k_is)
    (case kp_done => k_is)
    (case gf_trail => k_is)
    (case l_trail => k_is)
    (case c_trail => k_is)
    (case kp_trail => k_is)
    (case gf_ahead => k_is)
    (case l_ahead => k_is)
    (case c_ahead => k_is)
    (case kp_ahead => k_is)
    (case gf_check_trick => k_is)
    (case l_check_trick => k_is)
    (case c_check_trick => k_is)
    (case kp_check_trick => k_is)
    (case gf_trick_block => k_is)
    (case l_trick_block => k_is)
    (case c_trick_block => k_is)
    (case kp_trick_block => k_is)
    (case gf_made_of => k_is)
    (case l_made_of => k_is)
    (case c_made_of => k_is)
    (case kp_made_of => k_is)
    (case gf_made_with => k_is)
    (case l_made_with => k_is)
    (case c_made_with => k_is)
    (case kp_made_with => k_is)
    (case gf_chained => k_is)
    (case l_chained => k_is)
    (case c_chained => k_is)
    (case kp_chained => k_is)
    (case gf_check_tricks => k_is)
    (case l_check_tricks => k_is)
    (case c_check_tricks => k_is)
    (case kp_check_tricks => k_is)
    (case gf_made_of_all => k_is)
    (case l_made_of_all => k_is)
    (case c_made_of_all => k_is)
    (case kp_made_of_all => k_is)
    (case gf_ring_of => k_is)
    (case l_ring_of => k_is)
    (case c_ring_of => k_is)
    (case kp_ring_of => k_is)
    (case gf_rounds => k_is)
    (case l_rounds => k_is)
    (case c_rounds => k_is)
    (case kp_rounds => k_is)
    (case gf_unseen_path => k_is)
    (case l_unseen_path => k_is)
    (case c_unseen_path => k_is)
    (case kp_unseen_path => k_is)
    (case gf_ring_at_end => k_is)
    (case l_ring_at_end => k_is)
    (case c_ring_at_end => k_is)
    (case kp_ring_at_end => k_is)
    (case gf_total => k_is)
    (case l_total => k_is)
    (case c_total => k_is)
    (case kp_total => k_is)
    (case gf_check_weights => k_is)
    (case l_check_weights => k_is)
    (case c_check_weights => k_is)
    (case kp_check_weights => k_is)
    (case gf_check_sum => k_is)
    (case l_check_sum => k_is)
    (case c_check_sum => k_is)
    (case kp_check_sum => k_is)
    (case gf_sum_block => k_is)
    (case l_sum_block => k_is)
    (case c_sum_block => k_is)
    (case kp_sum_block => k_is)
    (case gf_weight_at => k_is)
    (case l_weight_at => k_is)
    (case c_weight_at => k_is)
    (case kp_weight_at => k_is)
    (case gf__law_taken => k_is)
    (case l__law_taken => k_is)
    (case c__law_taken => k_is)
    (case kp__law_taken => k_is)
    (case gf__law_odd_number => k_is)
    (case l__law_odd_number => k_is)
    (case c__law_odd_number => k_is)
    (case kp__law_odd_number => k_is)
    (case gf__law_call => k_is)
    (case l__law_call => k_is)
    (case c__law_call => k_is)
    (case kp__law_call => k_is)
    (case gf_law => k_is)
    (case l_law => k_is)
    (case c_law => k_is)
    (case kp_law => k_is)
    (case gx_Trick => k_is)
    (case pg_Trick => k_is)
    (case hd_Trick => k_is)
    (case po_Trick => k_is)
    (case sa_Trick => k_is)
    (case mk_Trick => k_is)
    (case kc_Trick => k_is)
    (case cc_Trick => k_is)
    (case mo_Trick => k_is)
    (case sp_cls => k_is)
    (case tk_cls => k_is)
    (case ki_Trick_int => first | k_is | rfl)
    (case ki_Trick_bool => first | k_is | rfl)
    (case ki_Trick_tuple => first | k_is | rfl)
    (case ki_Trick_list => first | k_is | rfl)
    (case nf_Trick_tuple => first | k_is | rfl)
    (case kis_Trick => first | k_is | rfl)
    (case kin_Trick_int => first | k_is | rfl)
    (case kin_Trick_bool => first | k_is | rfl)
    (case kin_Trick_tuple => first | k_is | rfl)
    (case kin_Trick_list => first | k_is | rfl)
    (case kin_Trick_NoneType => first | k_is | rfl)
    (case kin_Trick_str => first | k_is | rfl)
    (case kin_Trick_dict => first | k_is | rfl)
    (case na_Trick_base => k_is)
    (case na_Trick_take => k_is)
    (case na_Trick_times => k_is)
    (case gf_Trick___init__ => k_is)
    (case l_Trick___init__ => k_is)
    (case c_Trick___init__ => k_is)
    (case kp_Trick___init__ => k_is)
    (case isf_Trick___init__ => k_is)
    (case pa_Trick_base => k_is)
    (case pg_Trick_base => k_is)
    (case pt_Trick_base => k_is)
    (case prr_Trick_base => k_is)
    (case l_Trick_base => k_is)
    (case c_Trick_base => k_is)
    (case kp_Trick_base => k_is)
    (case pa_Trick_take => k_is)
    (case pg_Trick_take => k_is)
    (case pt_Trick_take => k_is)
    (case prr_Trick_take => k_is)
    (case l_Trick_take => k_is)
    (case c_Trick_take => k_is)
    (case kp_Trick_take => k_is)
    (case pa_Trick_times => k_is)
    (case pg_Trick_times => k_is)
    (case pt_Trick_times => k_is)
    (case prr_Trick_times => k_is)
    (case l_Trick_times => k_is)
    (case c_Trick_times => k_is)
    (case kp_Trick_times => k_is)
    (case gf_Trick___eq__ => k_is)
    (case l_Trick___eq__ => k_is)
    (case c_Trick___eq__ => k_is)
    (case kp_Trick___eq__ => k_is)
    (case isf_Trick___eq__ => k_is)
    (case gx_Reckoner => k_is)
    (case pg_Reckoner => k_is)
    (case hd_Reckoner => k_is)
    (case po_Reckoner => k_is)
    (case sa_Reckoner => k_is)
    (case mk_Reckoner => k_is)
    (case kc_Reckoner => k_is)
    (case cc_Reckoner => k_is)
    (case mo_Reckoner => k_is)
    (case ki_Reckoner_int => first | k_is | rfl)
    (case ki_Reckoner_bool => first | k_is | rfl)
    (case ki_Reckoner_tuple => first | k_is | rfl)
    (case ki_Reckoner_list => first | k_is | rfl)
    (case kis_Reckoner => first | k_is | rfl)
    (case kin_Reckoner_int => first | k_is | rfl)
    (case kin_Reckoner_bool => first | k_is | rfl)
    (case kin_Reckoner_tuple => first | k_is | rfl)
    (case kin_Reckoner_list => first | k_is | rfl)
    (case kin_Reckoner_NoneType => first | k_is | rfl)
    (case kin_Reckoner_str => first | k_is | rfl)
    (case kin_Reckoner_dict => first | k_is | rfl)
    (case na_Reckoner_numbers => k_is)
    (case na_Reckoner_tricks => k_is)
    (case gf_Reckoner___init__ => k_is)
    (case l_Reckoner___init__ => k_is)
    (case c_Reckoner___init__ => k_is)
    (case kp_Reckoner___init__ => k_is)
    (case isf_Reckoner___init__ => k_is)
    (case pa_Reckoner_now => k_is)
    (case pg_Reckoner_now => k_is)
    (case pt_Reckoner_now => k_is)
    (case prr_Reckoner_now => k_is)
    (case l_Reckoner_now => k_is)
    (case c_Reckoner_now => k_is)
    (case kp_Reckoner_now => k_is)
    (case pa_Reckoner_tricks => k_is)
    (case pg_Reckoner_tricks => k_is)
    (case pt_Reckoner_tricks => k_is)
    (case prr_Reckoner_tricks => k_is)
    (case l_Reckoner_tricks => k_is)
    (case c_Reckoner_tricks => k_is)
    (case kp_Reckoner_tricks => k_is)
    (case gf_Reckoner_step => k_is)
    (case l_Reckoner_step => k_is)
    (case c_Reckoner_step => k_is)
    (case kp_Reckoner_step => k_is)
    (case isf_Reckoner_step => k_is)
    (case gf_Reckoner_undo => k_is)
    (case l_Reckoner_undo => k_is)
    (case c_Reckoner_undo => k_is)
    (case kp_Reckoner_undo => k_is)
    (case isf_Reckoner_undo => k_is)
    (case gf_Reckoner_copy => k_is)
    (case l_Reckoner_copy => k_is)
    (case c_Reckoner_copy => k_is)
    (case kp_Reckoner_copy => k_is)
    (case isf_Reckoner_copy => k_is)
    (case gf_Reckoner___len__ => k_is)
    (case l_Reckoner___len__ => k_is)
    (case c_Reckoner___len__ => k_is)
    (case kp_Reckoner___len__ => k_is)
    (case isf_Reckoner___len__ => k_is)
    (case gx_Sum => k_is)
    (case pg_Sum => k_is)
    (case hd_Sum => k_is)
    (case po_Sum => k_is)
    (case sa_Sum => k_is)
    (case mk_Sum => k_is)
    (case kc_Sum => k_is)
    (case cc_Sum => k_is)
    (case mo_Sum => k_is)
    (case ki_Sum_int => first | k_is | rfl)
    (case ki_Sum_bool => first | k_is | rfl)
    (case ki_Sum_tuple => first | k_is | rfl)
    (case ki_Sum_list => first | k_is | rfl)
    (case nf_Sum_tuple => first | k_is | rfl)
    (case kis_Sum => first | k_is | rfl)
    (case kin_Sum_int => first | k_is | rfl)
    (case kin_Sum_bool => first | k_is | rfl)
    (case kin_Sum_tuple => first | k_is | rfl)
    (case kin_Sum_list => first | k_is | rfl)
    (case kin_Sum_NoneType => first | k_is | rfl)
    (case kin_Sum_str => first | k_is | rfl)
    (case kin_Sum_dict => first | k_is | rfl)
    (case na_Sum_base => k_is)
    (case na_Sum_first => k_is)
    (case na_Sum_loop => k_is)
    (case na_Sum_take => k_is)
    (case gf_Sum___init__ => k_is)
    (case l_Sum___init__ => k_is)
    (case c_Sum___init__ => k_is)
    (case kp_Sum___init__ => k_is)
    (case isf_Sum___init__ => k_is)
    (case pa_Sum_base => k_is)
    (case pg_Sum_base => k_is)
    (case pt_Sum_base => k_is)
    (case prr_Sum_base => k_is)
    (case l_Sum_base => k_is)
    (case c_Sum_base => k_is)
    (case kp_Sum_base => k_is)
    (case pa_Sum_take => k_is)
    (case pg_Sum_take => k_is)
    (case pt_Sum_take => k_is)
    (case prr_Sum_take => k_is)
    (case l_Sum_take => k_is)
    (case c_Sum_take => k_is)
    (case kp_Sum_take => k_is)
    (case pa_Sum_first => k_is)
    (case pg_Sum_first => k_is)
    (case pt_Sum_first => k_is)
    (case prr_Sum_first => k_is)
    (case l_Sum_first => k_is)
    (case c_Sum_first => k_is)
    (case kp_Sum_first => k_is)
    (case pa_Sum_loop => k_is)
    (case pg_Sum_loop => k_is)
    (case pt_Sum_loop => k_is)
    (case prr_Sum_loop => k_is)
    (case l_Sum_loop => k_is)
    (case c_Sum_loop => k_is)
    (case kp_Sum_loop => k_is)
    (case gf_Sum___eq__ => k_is)
    (case l_Sum___eq__ => k_is)
    (case c_Sum___eq__ => k_is)
    (case kp_Sum___eq__ => k_is)
    (case isf_Sum___eq__ => k_is)
    (case z_int => k_is)
    (case z_bool => k_is)
    (case z_len => k_is)
    (case z_range => k_is)
    (case z_isinstance => k_is)
    (case z_tuple => k_is)
    (case z_list => k_is)
    (case z_sorted => k_is)
    (case z_enumerate => k_is)
    (case z_abs => k_is)
    (case z_min => k_is)
    (case z_super => k_is)
    (case z_ValueError => k_is)
    (case xl_BadNumber___init__ => k_is)
    (case xrb_BadNumber___init__ => first | rfl | decide +kernel)
    (case xsa_BadNumber___init__ => k_is)
    (case xga_BadNumber___init__ => k_is)
    (case xgg_BadNumber___init__ => k_is)
    (case xnf_BadNumber___init__ => k_is)
    (case xic_BadNumber___init__ => k_is)
    (case xtc_BadNumber___init__ => k_is)
    (case xhd_BadNumber___init__ => k_is)
    (case xup_BadNumber___init__ => ks_is)
    (case xan_BadNumber___init__ => k_is)
    (case xve_BadNumber___init__ => k_is)
    (case xow_BadNumber___init__ => k_is)
    (case rmn_BadNumber___init__ => first | rfl | decide +kernel)
    (case xfn_BadNumber___init__ => k_is)
    (case xco_BadNumber___init__ => k_is)
    (case xcd_BadNumber___init__ => k_is)
    (case rvs_BadNumber___init__ => first | rfl | decide +kernel)
    (case rfi_BadNumber___init__ => first | rfl | decide +kernel)
    (case xcc_BadNumber___init__ => k_is)
    (case xl_BadWeights___init__ => k_is)
    (case xrb_BadWeights___init__ => first | rfl | decide +kernel)
    (case xsa_BadWeights___init__ => k_is)
    (case xga_BadWeights___init__ => k_is)
    (case xgg_BadWeights___init__ => k_is)
    (case xnf_BadWeights___init__ => k_is)
    (case xic_BadWeights___init__ => k_is)
    (case xtc_BadWeights___init__ => k_is)
    (case xhd_BadWeights___init__ => k_is)
    (case xup_BadWeights___init__ => ks_is)
    (case xan_BadWeights___init__ => k_is)
    (case xve_BadWeights___init__ => k_is)
    (case xow_BadWeights___init__ => k_is)
    (case rmn_BadWeights___init__ => first | rfl | decide +kernel)
    (case xfn_BadWeights___init__ => k_is)
    (case xco_BadWeights___init__ => k_is)
    (case xcd_BadWeights___init__ => k_is)
    (case rvs_BadWeights___init__ => first | rfl | decide +kernel)
    (case rfi_BadWeights___init__ => first | rfl | decide +kernel)
    (case xcc_BadWeights___init__ => k_is)
    (case xl_BadTricks___init__ => k_is)
    (case xrb_BadTricks___init__ => first | rfl | decide +kernel)
    (case xsa_BadTricks___init__ => k_is)
    (case xga_BadTricks___init__ => k_is)
    (case xgg_BadTricks___init__ => k_is)
    (case xnf_BadTricks___init__ => k_is)
    (case xic_BadTricks___init__ => k_is)
    (case xtc_BadTricks___init__ => k_is)
    (case xhd_BadTricks___init__ => k_is)
    (case xup_BadTricks___init__ => ks_is)
    (case xan_BadTricks___init__ => k_is)
    (case xve_BadTricks___init__ => k_is)
    (case xow_BadTricks___init__ => k_is)
    (case rmn_BadTricks___init__ => first | rfl | decide +kernel)
    (case xfn_BadTricks___init__ => k_is)
    (case xco_BadTricks___init__ => k_is)
    (case xcd_BadTricks___init__ => k_is)
    (case rvs_BadTricks___init__ => first | rfl | decide +kernel)
    (case rfi_BadTricks___init__ => first | rfl | decide +kernel)
    (case xcc_BadTricks___init__ => k_is)
#print axioms PySem.Challenge.cw_resttricks_k07_numbers_refused_holds
