import PyProof.Rows.All
import Wide.All
import OpenK.AllK
import Wide.FinOn
import HandS.ForMost
import HandS.Exc
import HandS.TryOnly
import HandS.ExcOwn
import HandS.WordsExc
import HandS.TryMany
import HandS.IsInst
import HandS.Property
import HandS.Wide
import HandS.SortInts
import HandS.Conv
import HandS.Evl
import HandS.NoneIn
import HandS.ExcIs
import HandS.ExcSuper
import KE.KExcSuper
import KE.KExcInit
import KE.GoesMore
import HandS.Rev
import HandS.FStr
import HandS.Walk
import HandS.WideMore
import HandS.TupAny
import HandS.TupMul
import HandS.Style
import HandS.SetFor
import HandS.Strs
import HandS.Defaults
import HandS.RaiseMore
import HandS.Zip
import HandS.OwnEq
import HandS.DeepEq
import PySem.Challenge.RW_resttricks_k37_whole_reckoners
set_option Elab.async false
set_option linter.all false
set_option maxRecDepth 100000
set_option maxHeartbeats 2000000
namespace Rt
open PySem L2 PySem.Spec PyProof.Rows
/-! ### the text by places -/
def topS (i : Nat) : Stmt := PySem.Challenge.pw_resttricks_k37_whole_reckoners.main.body.getD i (.Pass ⟨0, 0, 0, 0⟩)
abbrev s_is_integer : Stmt := topS 12
abbrev s_is_number : Stmt := topS 13
abbrev s_check_base : Stmt := topS 14
abbrev s_check_take : Stmt := topS 15
abbrev s_check_number : Stmt := topS 16
abbrev s_block_of : Stmt := topS 18
abbrev s_check_trick : Stmt := topS 22
abbrev s_trick_block : Stmt := topS 23
abbrev s_made_of : Stmt := topS 24
abbrev s_made_with : Stmt := topS 25
abbrev s__law_taken : Stmt := topS 29
abbrev s__law_power : Stmt := topS 30
abbrev s__law_trick : Stmt := topS 31
abbrev s__law_behind : Stmt := topS 32
abbrev s__law_number : Stmt := topS 33
abbrev s__law_odd_number : Stmt := topS 34
abbrev s__law_tricks : Stmt := topS 35
abbrev s__law_stepped : Stmt := topS 36
abbrev s__law_is_reckoner : Stmt := topS 37
abbrev s_law : Stmt := topS 38
abbrev s_BadNumber___init__ : Stmt := inClass (topS 6) 0
abbrev s_Trick___init__ : Stmt := inClass (topS 21) 0
abbrev s_Trick_base : Stmt := inClass (topS 21) 1
abbrev s_Trick_take : Stmt := inClass (topS 21) 2
abbrev s_Trick_times : Stmt := inClass (topS 21) 3
abbrev s_Trick___eq__ : Stmt := inClass (topS 21) 4
abbrev s_Reckoner___init__ : Stmt := inClass (topS 27) 0
abbrev s_Reckoner_now : Stmt := inClass (topS 27) 1
abbrev s_Reckoner_tricks : Stmt := inClass (topS 27) 2
abbrev s_Reckoner_step : Stmt := inClass (topS 27) 3
abbrev s_Reckoner_undo : Stmt := inClass (topS 27) 4
abbrev s_Reckoner_copy : Stmt := inClass (topS 27) 5
abbrev s_Reckoner___len__ : Stmt := inClass (topS 27) 6
theorem sc_is_integer : FnScope ["told", "low", "high"] ["told", "low", "high"] (defScope s_is_integer) := ⟨rfl, rfl, rfl, by decide +kernel, rfl, by decide +kernel, by decide +kernel⟩
abbrev lv_is_integer : Nat := 1
theorem sc_is_number : FnScope ["told"] ["told"] (defScope s_is_number) := ⟨rfl, rfl, rfl, by decide +kernel, rfl, by decide +kernel, by decide +kernel⟩
abbrev lv_is_number : Nat := 2
theorem sc_check_base : FnScope ["base"] ["base"] (defScope s_check_base) := ⟨rfl, rfl, rfl, by decide +kernel, rfl, by decide +kernel, by decide +kernel⟩
abbrev lv_check_base : Nat := 2
theorem sc_check_take : FnScope ["take"] ["take"] (defScope s_check_take) := ⟨rfl, rfl, rfl, by decide +kernel, rfl, by decide +kernel, by decide +kernel⟩
abbrev lv_check_take : Nat := 2
theorem sc_check_number : FnScope ["n"] ["n"] (defScope s_check_number) := ⟨rfl, rfl, rfl, by decide +kernel, rfl, by decide +kernel, by decide +kernel⟩
abbrev lv_check_number : Nat := 3
theorem sc_block_of : FnScope ["base", "take"] ["base", "take"] (defScope s_block_of) := ⟨rfl, rfl, rfl, by decide +kernel, rfl, by decide +kernel, by decide +kernel⟩
abbrev lv_block_of : Nat := 1
theorem sc_check_trick : FnScope ["trick"] ["trick"] (defScope s_check_trick) := ⟨rfl, rfl, rfl, by decide +kernel, rfl, by decide +kernel, by decide +kernel⟩
abbrev lv_check_trick : Nat := 1
theorem sc_trick_block : FnScope ["trick"] ["trick"] (defScope s_trick_block) := ⟨rfl, rfl, rfl, by decide +kernel, rfl, by decide +kernel, by decide +kernel⟩
abbrev lv_trick_block : Nat := 3
theorem sc_made_of : FnScope ["trick", "n"] ["trick", "n"] (defScope s_made_of) := ⟨rfl, rfl, rfl, by decide +kernel, rfl, by decide +kernel, by decide +kernel⟩
abbrev lv_made_of : Nat := 4
theorem sc_made_with : FnScope ["block", "times", "n"] ["block", "times", "n"] (defScope s_made_with) := ⟨rfl, rfl, rfl, by decide +kernel, rfl, by decide +kernel, by decide +kernel⟩
abbrev lv_made_with : Nat := 1
theorem sc__law_taken : FnScope ["_law_row", "_law_many", "_law_found", "_law_cell"] ["_law_row", "_law_many"] (defScope s__law_taken) := ⟨rfl, rfl, rfl, by decide +kernel, rfl, by decide +kernel, by decide +kernel⟩
abbrev lv__law_taken : Nat := 3
theorem sc__law_power : FnScope ["_law_base", "_law_many", "_law_found", "_law_turn"] ["_law_base", "_law_many"] (defScope s__law_power) := ⟨rfl, rfl, rfl, by decide +kernel, rfl, by decide +kernel, by decide +kernel⟩
abbrev lv__law_power : Nat := 1
theorem sc__law_trick : FnScope ["_law_row", "_law_small", "_law_base", "_law_take", "_law_times", "_law_d", "_law_some", "_law_one"] ["_law_row", "_law_small"] (defScope s__law_trick) := ⟨rfl, rfl, rfl, by decide +kernel, rfl, by decide +kernel, by decide +kernel⟩
abbrev lv__law_trick : Nat := 4
theorem sc__law_behind : FnScope ["_law_told", "_law_n", "_law_base", "_law_take", "_law_times", "_law_block", "_law_rest"] ["_law_told", "_law_n"] (defScope s__law_behind) := ⟨rfl, rfl, rfl, by decide +kernel, rfl, by decide +kernel, by decide +kernel⟩
abbrev lv__law_behind : Nat := 1
theorem sc__law_number : FnScope ["_law_row", "_law_size", "_law_n"] ["_law_row"] (defScope s__law_number) := ⟨rfl, rfl, rfl, by decide +kernel, rfl, by decide +kernel, by decide +kernel⟩
abbrev lv__law_number : Nat := 4
theorem sc__law_odd_number : FnScope ["_law_row"] ["_law_row"] (defScope s__law_odd_number) := ⟨rfl, rfl, rfl, by decide +kernel, rfl, by decide +kernel, by decide +kernel⟩
abbrev lv__law_odd_number : Nat := 4
theorem sc__law_tricks : FnScope ["_law_told", "_law_base", "_law_take", "_law_times"] ["_law_told"] (defScope s__law_tricks) := ⟨rfl, rfl, rfl, by decide +kernel, rfl, by decide +kernel, by decide +kernel⟩
abbrev lv__law_tricks : Nat := 5
theorem sc__law_stepped : FnScope ["_law_reckoner", "_law_trick_here", "_law_found"] ["_law_reckoner", "_law_trick_here"] (defScope s__law_stepped) := ⟨rfl, rfl, rfl, by decide +kernel, rfl, by decide +kernel, by decide +kernel⟩
abbrev lv__law_stepped : Nat := 7
theorem sc__law_is_reckoner : FnScope ["_law_reckoner", "_law_states", "_law_done_so"] ["_law_reckoner", "_law_states", "_law_done_so"] (defScope s__law_is_reckoner) := ⟨rfl, rfl, rfl, by decide +kernel, rfl, by decide +kernel, by decide +kernel⟩
abbrev lv__law_is_reckoner : Nat := 6
theorem sc_law : FnScope ["_law_script", "_law_line", "_law_n", "_law_reckoner", "_law_states", "_law_done_so", "_law_twin", "_law_kept", "_law_turn", "_law_kind", "_law_told", "_law_bad", "_law_found", "e"] ["_law_script"] (defScope s_law) := ⟨rfl, rfl, rfl, by decide +kernel, rfl, by decide +kernel, by decide +kernel⟩
abbrev lv_law : Nat := 9
theorem sc_Trick___init__ : FnScope ["self", "base", "take", "times"] ["self", "base", "take", "times"] (defScope s_Trick___init__) := ⟨rfl, rfl, rfl, by decide +kernel, rfl, by decide +kernel, by decide +kernel⟩
abbrev lv_Trick___init__ : Nat := 3
theorem sc_Trick_base : FnScope ["self"] ["self"] (defScope s_Trick_base) := ⟨rfl, rfl, rfl, by decide +kernel, rfl, by decide +kernel, by decide +kernel⟩
abbrev lv_Trick_base : Nat := 1
theorem sc_Trick_take : FnScope ["self"] ["self"] (defScope s_Trick_take) := ⟨rfl, rfl, rfl, by decide +kernel, rfl, by decide +kernel, by decide +kernel⟩
abbrev lv_Trick_take : Nat := 1
theorem sc_Trick_times : FnScope ["self"] ["self"] (defScope s_Trick_times) := ⟨rfl, rfl, rfl, by decide +kernel, rfl, by decide +kernel, by decide +kernel⟩
abbrev lv_Trick_times : Nat := 1
theorem sc_Trick___eq__ : FnScope ["self", "other"] ["self", "other"] (defScope s_Trick___eq__) := ⟨rfl, rfl, rfl, by decide +kernel, rfl, by decide +kernel, by decide +kernel⟩
abbrev lv_Trick___eq__ : Nat := 1
theorem sc_Reckoner___init__ : FnScope ["self", "n"] ["self", "n"] (defScope s_Reckoner___init__) := ⟨rfl, rfl, rfl, by decide +kernel, rfl, by decide +kernel, by decide +kernel⟩
abbrev lv_Reckoner___init__ : Nat := 4
theorem sc_Reckoner_now : FnScope ["self"] ["self"] (defScope s_Reckoner_now) := ⟨rfl, rfl, rfl, by decide +kernel, rfl, by decide +kernel, by decide +kernel⟩
abbrev lv_Reckoner_now : Nat := 1
theorem sc_Reckoner_tricks : FnScope ["self"] ["self"] (defScope s_Reckoner_tricks) := ⟨rfl, rfl, rfl, by decide +kernel, rfl, by decide +kernel, by decide +kernel⟩
abbrev lv_Reckoner_tricks : Nat := 1
theorem sc_Reckoner_step : FnScope ["self", "trick", "later"] ["self", "trick"] (defScope s_Reckoner_step) := ⟨rfl, rfl, rfl, by decide +kernel, rfl, by decide +kernel, by decide +kernel⟩
abbrev lv_Reckoner_step : Nat := 5
theorem sc_Reckoner_undo : FnScope ["self"] ["self"] (defScope s_Reckoner_undo) := ⟨rfl, rfl, rfl, by decide +kernel, rfl, by decide +kernel, by decide +kernel⟩
abbrev lv_Reckoner_undo : Nat := 1
theorem sc_Reckoner_copy : FnScope ["self", "other"] ["self"] (defScope s_Reckoner_copy) := ⟨rfl, rfl, rfl, by decide +kernel, rfl, by decide +kernel, by decide +kernel⟩
abbrev lv_Reckoner_copy : Nat := 6
theorem sc_Reckoner___len__ : FnScope ["self"] ["self"] (defScope s_Reckoner___len__) := ⟨rfl, rfl, rfl, by decide +kernel, rfl, by decide +kernel, by decide +kernel⟩
abbrev lv_Reckoner___len__ : Nat := 3
/-! ### what is known of the top behind its run -/
/-! ### an own error whose __init__ says super().__init__(text); self.F = F -/
end Rt
namespace ErrX
open PySem PySem.W PySem.Calls PyProof.Rows PySem.HandSPX
/-- what the written part says of such a class at C, its field F, its __init__ at fI -/
structure ErrTxt (P : Program) (K : Frag) (mg : Str → Option Value) (x fld : Str) (C fI : Addr) (ae : PySem.Expr) (st : Stmt) : Prop where
  gC : mg x = some (.ref C)
  cls : ∃ nm q N bs bm sn sub ab col dd k0 k1 k2 k3 k5, K.lookup C = some (excClassObj nm q C N bs bm true sn sub ab col dd k0 k1 k2 k3 k5 "ValueError.__new__") ∧ refsVE bm = true
  sa : findIn K (.ref C) "__setattr__" = some (some (.builtin "object.__setattr__"))
  ga : findIn K (.ref C) "__getattribute__" = some (some (.builtin "BaseException.__getattribute__"))
  gg : findIn K (.ref C) "__getattr__" = some none
  noF : findIn K (.ref C) fld = some none
  iC : findIn K (.ref C) "__init__" = some (some (.ref fI))
  tC : typeIn K (.ref fI) = some (.type "function")
  kC : keepIn K (.ref C) = true
  exC : subIn K (.ref C) (.type "BaseException") = some true
  tyC : typeIn K (.ref C) = some (.type "type")
  hdC : hasDictIn K C = true
  up : ks_superIn K C C "__init__" = some (some (.builtin "ValueError.__init__"))
  any : nsIn K cStatics "thirdparty.any" = some none
  ve : subIn K (.ref C) (.type "ValueError") = some true
  own : mroIn K C (.ref C) = some true
  sup : mg "super" = none
  main : (P.main.scope.names.lookup ("super" : Str)).isSome = false
  fn : ∃ (oc : Value) (od : Option Addr) (doc pm : Value) (an : Option Addr) (cda : Addr) (ct : Value) (osl : Array (Option Value)) (cc : Addr) (vs : Array Value) (file : Str) (tf : Tok) (ccl cl : Value) (cdd cld : Option Addr) (ccs csl : Array (Option Value)) (qual : Str),
    K.lookup fI = some ⟨oc, od, .func (ksFn "__init__" qual (L2.defArgs st) (L2.defBody st) (L2.defScope st) .none .none doc pm an (.ref cda) ct cc), osl⟩ ∧ codeIn K (.ref cda) qual = true ∧
    K.lookup cda = some ⟨ccl, cdd, .fields vs, ccs⟩ ∧ vs[2]? = some (.str file tf) ∧ ((P.main.file : Str) == file) = true ∧ K.lookup cc = some ⟨cl, cld, .cell (some (.ref C)), csl⟩
  text : ∃ (p0 p1 p2 p3 p4 q1 q2 q3 q4 a1 a2 : Pos), L2.defBody st = [.Expr (.Call (.Attribute (.Call (.Name "super" p0) [] [] p1) "__init__" p2) [ae] [] p3) p4, .Assign [.Attribute (.Name "self" q1) fld q2] (.Name fld q3) q4] ∧
    L2.defArgs st = { posonlyargs := [], args := [{ arg := "self", annotation := none, pos := a1 }, { arg := fld, annotation := none, pos := a2 }], vararg := none, kwonlyargs := [], kw_defaults := [], kwarg := none, defaults := [] } ∧
    ∀ env : Env, eval (.Call (.Attribute (.Call (.Name "super" p0) [] [] p1) "__init__" p2) [ae] [] p3) env = (do
      let ov ← attributeBase (.Call (.Name "super" p0) [] [] p1) "__init__" env (eval (.Call (.Name "super" p0) [] [] p1) env)
      standAt p2.atName
      let (f, first) ← holding [ov] (getMethod ov "__init__" (do return (← importBound (.Call (.Name "super" p0) [] [] p1) env).getD true))
      callWith p3 f first (backTo p3 (starEach [ae] env)) [])
  kS : (L2.defScope st).names.lookup ("super" : Str) = some .globalImplicit
  kK : (L2.defScope st).names.lookup ("__class__" : Str) = some .free
  k0 : (L2.defScope st).names.lookup ("self" : Str) = some .local
  kF : (L2.defScope st).names.lookup fld = some .local
  nF : (("self" : Str) == fld) = false
  nD : (fld == ("__debug__" : Str)) = false
  noCell : ∀ y ∈ (L2.defScope st).names, y.2 ≠ .cell
  bind : ∀ (qual : Str) (doc pm : Value) (an : Option Addr) (cda : Addr) (ct : Value) (cc : Addr) (u v : Value), bindArgs (ksFn "__init__" qual (L2.defArgs st) (L2.defBody st) (L2.defScope st) .none .none doc pm an (.ref cda) ct cc) ⟨[u, v], []⟩ = pure [(("self" : Str), u), (fld, v)]
  plain : ∀ env : Env, starEach (ae :: []) env = (false, eval ae env) :: starEach [] env
  knd : (L2.defScope st).kind = .function
  co : (L2.defScope st).isCoroutine = false
  gen : (L2.defScope st).isGenerator = false
/-- what __init__ leaves of a fresh error at x -/
structure EndOf (h h' : Heap) (x C dx t1 : Addr) (fld : Str) (v : Value) : Prop where
  keep : ∀ b o, b ≠ x → h.get? b = some o → h'.get? b = some o
  obj : h'.get? x = some { cls := .ref C, dict := some dx, data := .fields #[.ref t1, .none, .none, .none, .bool false, .none] }
  dbig : h.objs.size ≤ dx
  dne : dx ≠ x
  ns : h'.Ns1 dx (fun y => if y = fld then some v else none)
/-- the argument of super().__init__ is a text, whatever the field is -/
def ArgOk (prog : Program) (w : World) (ae : PySem.Expr) (fld : Str) (v : Value) : Prop := ∀ (env : Env) (m : Str → Option Value) (A : Around) (Q : Value → Shared → Prop) (E : Value → Shared → Prop) (s : Shared), s.heap.Ns env.locals m → m fld = some v → env.scope.kind = .function → env.kindOf fld = some .local →
  (∀ z t tk, Q (.str z t) { s with toks := tk }) → wpAny (model prog w) A (eval ae env) Q E s
theorem argOk_const {prog : Program} {w : World} {ae : PySem.Expr} {fld : Str} {v : Value} {z : Str} {k : Nat} {pos : Pos} (h : ae = .Constant (.str z) k pos) : ArgOk prog w ae fld v := by
  intro env m A Q E s _ _ _ _ hq
  rw [h]
  exact wpAny_Constant_str (hq _ _ _)
/-- None, or an int whose text is short -/
def NoneInt (v : L2.V) : Prop := v = .non ∨ ∃ i : Int, v = .int i ∧ i.natAbs.log2 < 1920
theorem argOk_f {prog : Program} {w : World} {ae : PySem.Expr} {fld : Str} {v : L2.V} {u : Value} {z : Str} {k : Nat} {p1 p2 p3 p4 : Pos} (n : NoneInt v) (r : L2.RelV v u)
    (h : ae = .JoinedStr [.Constant (.str z) k p1, .FormattedValue (.Name fld p2) (-1) none p3] p4 := by rfl) (hz : z.length ≤ 1000 := by decide) (hd : (fld == ("__debug__" : Str)) = false := by decide) : ArgOk prog w ae fld u := by
  intro env m A Q E s hn hv hk hl hq
  rw [h]
  have e0 : evalEach [.Constant (.str z) k p1, .FormattedValue (.Name fld p2) (-1) none p3] env = [eval (.Constant (.str z) k p1) env, eval (.FormattedValue (.Name fld p2) (-1) none p3) env] := by first | rfl | simp [evalEach]
  refine wpAny_JoinedStr ?_
  rw [e0]
  refine wpAny_Constant_str ?_
  have l0 : (Str.empty ++ z).length ≤ 1000 := by
    rw [Str.length_append]
    exact Nat.le_trans (Nat.le_of_eq (Nat.zero_add _)) hz
  refine ⟨z, _, rfl, Nat.le_trans l0 (by rw [sizeLine_eq]; decide), ?_⟩
  refine wpAny_FormattedValue_plain (wpAny_Name (wpAny_loadName_local hk hl hn hv ?_) hd)
  rcases n with rfl | ⟨i, rfl, hi⟩
  · cases r
    refine wpAny_formatField_none ⟨"None", _, rfl, ?_, ?_⟩
    · rw [Str.length_append, sizeLine_eq]
      have e : ("None" : Str).length = 4 := by decide
      omega
    · refine ⟨?_, hq _ _ _⟩
      rw [Str.length_append, sizeLine_eq]
      have e : ("None" : Str).length = 4 := by decide
      omega
  · obtain ⟨t, rfl⟩ := r
    refine wpAny_formatField_int hi ⟨_, _, rfl, ?_, ?_⟩
    · rw [Str.length_append, sizeLine_eq]
      have e := int_text_length_le (k := 1920) (by decide) hi
      have e2 : (Str.ofString (toString i)).length = (toString i).length := PySem.ofString_length _
      omega
    · refine ⟨?_, hq _ _ _⟩
      rw [Str.length_append, sizeLine_eq]
      have e := int_text_length_le (k := 1920) (by decide) hi
      have e2 : (Str.ofString (toString i)).length = (toString i).length := PySem.ofString_length _
      omega
/-- the argument of super().__init__ in the text of an __init__ -/
def aeOf (st : Stmt) : PySem.Expr := match L2.defBody st with
  | .Expr (.Call _ (a :: _) _ _) _ :: _ => a
  | _ => .Name "self" ⟨0, 0, 0, 0⟩
section
variable {prog : Program} {w : World} {A : Around} {E : Value → Shared → Prop} {hp : Heap} {g : Array GenState} {d : Drawn} {tk : Nat} {os : OsState}
/-- the bound __init__ of the base, called: the args are laid anew -/
theorem base_init {nm q : Str} {C N u e t0 : Addr} {bs bm : List Value} {sn : List Str} {sub : List Value} {ab : Bool} {col : Option Bool} {dd : Option Addr} {k0 k1 k2 k3 k5 : Option Value} {rest : List Value} {Q : Value → Shared → Prop}
    (hC : hp.get? C = some (excClassObj nm q C N bs bm true sn sub ab col dd k0 k1 k2 k3 k5 "ValueError.__new__")) (he : hp.get? e = some (excO C t0)) (hu : hp.get? u = some (kxs_mw "ValueError.__init__" e)) (hz : rest.length ≤ sizeLine)
    (k : ∀ h' t1, (∀ b o, b ≠ e → hp.get? b = some o → h'.get? b = some o) → h'.get? e = some (excO C t1) → Q .none ⟨h', g, d, tk, os⟩) : wpAny (model prog w) A (call (.ref u) rest) Q E ⟨hp, g, d, tk, os⟩ := by
  refine wpAny_call (codeAny_of_tree ?_)
  show wpAny _ A.in1 (callAny (.ref u) { pos := rest }) _ _ _
  unfold callAny
  refine wpAny_bind (wpAny_load hu ?_)
  have c1 : (Value.type "method-wrapper" == Value.type "method" || Value.type "method-wrapper" == Value.type "builtin_function_or_method" ||
    Value.type "method-wrapper" == Value.type "method-wrapper") = true := by decide
  simp only [kxs_mw, c1, if_true]
  refine KFB.if_so (by decide) (wpAny_bind (ESX.check_bound F.excBase_ValueError hC he rfl (wpAny_bind (wpAny_pure (wpAny_pure ?_)))))
  have FB := F.excBase_ValueError
  refine ⟨plainId_quiet FB.init.plain _, codeAny_builtin FB.initEntry ?_⟩
  rw [Around.under_plainId FB.init.plain _]
  wp_walk
  refine k _ hp.objs.size (fun b o n z => ?_) ?_
  · rw [Heap.get?_update_other _ _ (Ne.symm n)]
    exact Heap.get?_push_of_some _ z
  · rw [Heap.get?_update_self _ (Heap.get?_push_of_some _ he) rfl]
    rfl
theorem call_bound1 {M : Model} {s : Shared} {pos : Pos} {u b : Addr} {env : Env} {ae : PySem.Expr} {i : String} {Q : Value → Shared → Prop} (hpl : starEach (ae :: []) env = (false, eval ae env) :: starEach [] env)
    (h : wpAny M A (eval ae env) (fun v s₁ => KxsAt i u b s₁.heap ∧ wpAny M A (call (.ref u) [v]) Q E s₁) E s) : wpAny M A (callWith pos (.ref u) [] (backTo pos (starEach [ae] env)) []) Q E s := by
  have q : wpAny M A (spliced (backTo pos (starEach (ae :: []) env))) (fun vs s₁ => KxsAt i u b s₁.heap ∧ wpAny M A (call (.ref u) vs) Q E s₁) E s := args_cons (he := hpl) (wpAny_mono h (fun v s₁ z => wpAny_of_eq rfl z) fun _ _ z => z)
  rw [hpl] at q ⊢
  exact kxs_callWith (x := b) rfl (evalArgs_plain q)
theorem err_init {R : Result → Shared → Prop} {K : Frag} {mg mb : Str → Option Value} {x fld : Str} {C fI e t0 : Addr} {ae : PySem.Expr} {st : Stmt} {v : Value} (T : ErrTxt prog K mg x fld C fI ae st) (hA : ArgOk prog w ae fld v)
    (X : K.In hp) (hlim : hp.NoLimit) (hg : hp.Ns mainGlobals mg) (hb : hp.Ns builtinsNs mb) (hbb : ∀ y : Str, y ≠ "__name__" → mb y = bootBuiltins y) (he : hp.get? e = some (excO C t0)) (hne : K.lookup e = none) (hroom : A.depth < recursionLimit)
    (hq : ∀ h' tk dx t1, EndOf hp h' e C dx t1 fld v → R (.ok (.ret .none)) ⟨h', g, d, tk, os⟩) : codeAny (model prog w) A (.call (.ref fI) ⟨[.ref e, v], []⟩) R ⟨hp, g, d, tk, os⟩ := by
  obtain ⟨oc, od, doc, pm, an, cda, ct, osl, cc, vs, file, tf, ccl, cl, cdd, cld, ccs, csl, qual, lf, lc, lda, lvs, lfile, lcc⟩ := T.fn
  obtain ⟨p0, p1, p2, p3, p4, q1, q2, q3, q4, a1, a2, hB, hArgs, hcallE⟩ := T.text
  obtain ⟨nm, qn, N, bs, bm, sn, sub, ab, col, dd, k0, k1, k2, k3, k5, lC, hbm⟩ := T.cls
  have hcl : clsIn K C = some { name := nm, bases := bs, mro := .ref C :: bm, ns := N, qualname := qn, hasDict := true, slotNames := sn, subclasses := sub, abstract := ab, collection := col, hasDel := false } := by
    unfold clsIn
    rw [lC]
    all_goals rfl
  have hbind := T.bind qual doc pm an cda ct cc (.ref e) v
  rw [hB, hArgs] at lf hbind
  have neC : e ≠ C := fun z => by
    rw [z, lC] at hne
    cases hne
  refine ks_codeAny_call_defAt (binds := [("self", .ref e), (fld, v)]) hroom (X _ _ lf) rfl hlim (codeRec_of X lc) rfl (BindsTo.of_eq hbind) T.noCell ?_ (fun h1 hns keep => ?_) T.co T.gen T.knd
  · intro y hy
    rcases List.mem_cons.mp hy with z | hy
    · rw [z]; exact T.k0
    · rcases List.mem_cons.mp hy with z | hy
      · rw [z]; exact T.kF
      · cases hy
  have hint : ∀ env : Env, env.scope = L2.defScope st → interactive env = false := fun env z => by
    unfold interactive
    rw [z, T.knd]
    rfl
  have X1 : K.In h1 := X.keeps keep
  have he1 := keep _ _ he
  have m0 : ([("self", Value.ref e), (fld, v)] : List (Str × Value)).reverse.lookup ("self" : Str) = some (.ref e) := by
    show List.lookup ("self" : Str) [(fld, v), (("self" : Str), Value.ref e)] = some (.ref e)
    rw [List.lookup_cons, T.nF]
    rfl
  have mF : ([("self", Value.ref e), (fld, v)] : List (Str × Value)).reverse.lookup fld = some v := by
    show List.lookup fld [(fld, v), (("self" : Str), Value.ref e)] = some v
    rw [List.lookup_cons, beq_self_eq_true]
  obtain ⟨oD, hD1, hD2⟩ : ∃ oD : Obj, h1.get? C = some oD ∧ oD.data = .cls { name := nm, bases := bs, mro := .ref C :: bm, ns := N, qualname := qn, hasDict := true, slotNames := sn, subclasses := sub, abstract := ab, collection := col, hasDel := false } := ⟨_, X1 _ _ lC, rfl⟩
  refine ks_wpAt_execs_cons (ks_wpAt_Expr_any (hi := hint _ rfl) (ks_wpAt_MethodCall (he := hcallE _) (ks_wpAt_super_base T.kS T.kK (by decide) rfl (X1 _ _ lf) rfl rfl rfl (X1 _ _ lda) rfl lvs lfile T.main ?_)))
  refine ks_loadName_global T.knd T.kS (Calls.loadGlobal_builtin (hg.keeps keep) T.sup (hb.keeps keep) ((hbb _ (by decide +kernel)).trans (show bootBuiltins "super" = some (.type "super") by kernel_rfl)) ⟨rfl, ?_⟩)
  refine wpAny_loadName_free T.knd T.kK rfl ⟨_, X1 _ _ lcc, rfl⟩ ?_
  refine wpAny_loadName_local T.knd T.k0 hns m0 ?_
  refine ks_wpAny_isType_cls hD1 hD2 ⟨rfl, ?_⟩
  refine ks_wpAny_call_super hD1 hD2 he1 rfl (fun c z => by cases z) (looks_mroIn X1 T.own) (fun h2 hso k2 => ?_)
  have X2 : K.In h2 := X1.keeps k2
  have he2 := k2 _ _ he1
  have hup : alongIn K "__init__" (List.drop 1 (List.dropWhile (fun (z : Value) => z != Value.ref C) (.ref C :: bm))) = some (some (.builtin "ValueError.__init__")) := by
    have z := T.up
    unfold ks_superIn at z
    rw [hcl] at z
    exact z
  have I2 : InstAt h2 e (excO C t0) C none := ⟨he2, rfl, rfl, trivial⟩
  refine kxs_getMethod kxs_ValueError hso (looks_opaque X2 T.any) (l₀ := .ref C :: bm) (fun A Q E s k q => wpAny_bind ((looks_clsIn X2 hcl) A _ E s k (wpAny_pure q))) rfl X2 hup (I2.type.andThen (looks_subIn X2 T.ve)) neC (by decide) ?_
  have k3 : ∀ b o, h2.get? b = some o → (h2.push (kxs_mw "ValueError.__init__" e)).get? b = some o := fun b o z => Heap.get?_push_of_some _ z
  have k13 : ∀ b o, h1.get? b = some o → (h2.push (kxs_mw "ValueError.__init__" e)).get? b = some o := fun b o z => k3 _ _ (k2 _ _ z)
  have hn3 := hns.keeps k13
  refine call_bound1 (i := "ValueError.__init__") (b := e) (T.plain _) ?_
  refine hA _ _ _ _ _ _ hn3 mF T.knd T.kF fun z t tk => ⟨Heap.get?_push_at rfl rfl, ?_⟩
  refine base_init (X2.keeps k3 _ _ lC) (k3 _ _ he2) (Heap.get?_push_at rfl rfl) (by rw [sizeLine_eq]; exact Nat.le_of_ble_eq_true rfl) fun h4 t1 k4 he4 => ?_
  have X4 : K.In h4 := fun b o z => k4 _ _ (fun y => by rw [y, hne] at z; cases z) (X2.keeps k3 b o z)
  have hLe : hp.objs.size ≠ e := Nat.ne_of_gt (Heap.lt_size he)
  have hn4 : h4.Ns hp.objs.size (fun y => List.lookup y ([(("self" : Str), Value.ref e), (fld, v)] : List (Str × Value)).reverse) := by
    obtain ⟨oL, es, ep, hL, r⟩ := hn3
    exact ⟨oL, es, ep, k4 _ _ hLe hL, r⟩
  -- self.F = F
  refine wpAt_of_wpAny (wpAny_execs_cons (plainObj_wpAny_Assign_Attribute ?_))
  refine ESX.ldL hn4 mF (ESX.ldL hn4 m0 ?_ T.knd T.k0) T.knd T.kF T.nD
  refine set_plain X4 (ox := excO C t1) (od := none) ⟨he4, rfl, rfl, trivial⟩ T.sa ?_
  refine exc_osa X4 he4 hcl (show refsVE (.ref C :: bm) = true from hbm) rfl T.noF (fun h5 tk5 dx k5' dn dne he5 hn5 => ?_)
  have z : hp.objs.size ≤ dx := Nat.le_trans (Nat.le_of_lt (Nat.lt_of_lt_of_le hn4.lt (Nat.le_refl _))) dn
  exact wpAny_execs_nil (hq h5 tk5 dx t1 ⟨fun b o hbe y => k5' b o hbe (k4 b o hbe (k3 b o (k2 b o (keep b o y)))), he5, z, dne, hn5⟩)
/-- a made error -/
structure Made (h h' : Heap) (e C d : Addr) (fld : Str) (v : Value) : Prop where
  keep : ∀ b o, h.get? b = some o → h'.get? b = some o
  new : h.objs.size ≤ e
  obj : ∃ oe vs, h'.get? e = some oe ∧ oe.cls = .ref C ∧ oe.dict = some d ∧ oe.data = .fields vs ∧ vs[1]? = some .none
  dbig : h.objs.size ≤ d
  dne : d ≠ e
  ns : h'.Ns1 d (fun y => if y = fld then some v else none)
theorem err_made {R : Result → Shared → Prop} {K : Frag} {mg mb : Str → Option Value} {x fld : Str} {C fI : Addr} {ae : PySem.Expr} {st : Stmt} {v : Value} (T : ErrTxt prog K mg x fld C fI ae st) (hA : ArgOk prog w ae fld v)
    (X : K.In hp) (hlim : hp.NoLimit) (hg : hp.Ns mainGlobals mg) (hb : hp.Ns builtinsNs mb) (hbb : ∀ y : Str, y ≠ "__name__" → mb y = bootBuiltins y) (hroom : A.depth + 1 < recursionLimit)
    (hq : ∀ h' tk e dx, Made hp h' e C dx fld v → R (.ok (.ret (.ref e))) ⟨h', g, d, tk, os⟩) : codeAny (model prog w) A (.call (.ref C) ⟨[v], []⟩) R ⟨hp, g, d, tk, os⟩ := by
  obtain ⟨nm, qn, N, bs, bm, sn, sub, ab, col, dd, k0, k1, k2, k3, k5, lC, hbm⟩ := T.cls
  have k : ∀ b o, hp.get? b = some o → ((hp.push (kdv_tup [v])).push (excO C hp.objs.size)).get? b = some o := fun b o z => Heap.get?_push_of_some _ (Heap.get?_push_of_some _ z)
  have hget : ((hp.push (kdv_tup [v])).push (excO C hp.objs.size)).get? (hp.objs.size + 1) = some (excO C hp.objs.size) := by heap_get
  have hnx : K.lookup (hp.objs.size + 1) = none := by
    cases z : K.lookup (hp.objs.size + 1) with
    | none => rfl
    | some o => exact absurd (Nat.lt_of_succ_lt (Heap.lt_size (X _ _ z))) (Nat.lt_irrefl _)
  refine call_own F.excBase_ValueError (fun X => refsVE_contains X bm hbm) (X _ _ lC) (looks_findIn X T.iC) (fun self => bind_fn X self T.tC) (by rw [sizeLine_eq]; exact Nat.le_of_ble_eq_true rfl) ?_
  refine err_init T hA (X.keeps k) (hlim.keeps k) (hg.keeps k) (hb.keeps k) hbb hget hnx ?_ fun h' tk' dx t1 M => ?_
  · show A.depth + 1 < recursionLimit
    exact hroom
  · have old : ∀ b o, hp.get? b = some o → h'.get? b = some o := fun b o z => M.keep b o (Nat.ne_of_lt (Nat.lt_succ_of_lt (Heap.lt_size z))) (k b o z)
    have z : hp.objs.size + 1 + 1 ≤ dx := by
      have q := M.dbig
      rw [Heap.size_push, Heap.size_push] at q
      exact q
    exact ⟨rfl, hq h' tk' (hp.objs.size + 1) dx ⟨old, Nat.le_succ _, ⟨_, _, M.obj, rfl, rfl, rfl, rfl⟩, Nat.le_trans (Nat.le_trans (Nat.le_succ _) (Nat.le_succ _)) z, M.dne, M.ns⟩⟩
end
end ErrX
namespace L2
open PySem PySem.Spec PyProof.Rows ErrX
theorem relO_fld {v : V} {v' : Value} (fld : Str) (r : RelV v v') (f : Str) : RelO (List.lookup f [(fld, v)]) (if f = fld then some v' else none) := by
  by_cases hw : f = fld
  · subst hw
    rw [if_pos rfl]
    have q : List.lookup f [(f, v)] = some v := by simp [List.lookup]
    rw [q]
    exact r
  · rw [if_neg hw]
    have qw : (f == fld) = false := by simpa using hw
    have q2 : List.lookup f [(fld, v)] = none := by simp [List.lookup, qw]
    rw [q2]
    trivial
section
variable {X : Cx} {C fI : Addr} {x fld : Str} {ae : PySem.Expr} {st : Stmt}
/-- Bad(e) -/
def tMkErr (C : Addr) (fld : Str) (ok : V → Prop) (ta : TA) : L2.St → Hp → XK → Prop := fun σ H Q => ta σ H fun vs H1 => ∃ v, vs = [v] ∧ ok v ∧ ∀ d, H1 d = none → Q (.ref C) (some d) (upd H1 d (.xd [(fld, v)]))
theorem pmk_err {ok : V → Prop} {a : PySem.Expr} {ta : TA} {p pos : Pos} {k : Nat} (T : ErrTxt X.prog X.K X.mg x fld C fI ae st) (hA : ∀ v u, ok v → RelV v u → ArgOk X.prog X.w ae fld u) (hr : Room k X.A) (ha : PA X [a] ta) (hg : Gl X x) (hdb : (x == ("__debug__" : Str)) = false)
    (he : starEach (a :: []) X.env = (false, eval a X.env) :: starEach [] X.env) (hpl : (backTo pos (starEach [] X.env)).any (·.1) = false) :
    PMk X (.Call (.Name x p) [a] [] pos) (tMkErr C fld ok ta) := by
  intro pins s σ H Q I h
  refine wpAny_Call_Name_kw (ld_glob I hg T.gC ?_ hdb)
  refine PySem.W.callWith_K (h₀ := X.base) I.ok.mod.kin T.kC (thn (ha.run pos pins s σ H _ I h) fun us s1 hh => ?_) he hpl
  obtain ⟨vs, H1, I1, r1, v, ev, okv, q1⟩ := hh
  subst ev
  refine ⟨I1.kIn, ?_⟩
  cases r1 with
  | cons rv rn =>
    rename_i v' us'
    cases rn
    show wpAny _ _ (call (.ref C) [v']) _ _ _
    have hlim := I1.nolimit
    obtain ⟨mb, hb1, hb2⟩ := I1.mod.blt
    have hgN := I1.mod.glob.keeps I1.bk
    have hbN := hb1.keeps I1.bk
    obtain ⟨hp, g, dr, tk, os⟩ := s1
    refine wpAny_call (err_made T (hA v v' okv rv) I1.kIn hlim hgN hbN hb2 (by have := hr.dp; omega) fun h' tk' e d M => ?_)
    show MkP X pins σ Q (.ref e) ⟨h', g, dr, tk', os⟩
    obtain ⟨oe, fv, hoe, hc, hd, hdat, h1⟩ := M.obj
    have hns := M.ns
    obtain ⟨G', g1, g2⟩ := restrict h' fun b => decide (b ≠ e)
    have gk : ∀ b, b ≠ e → G'.get? b = h'.get? b := fun b hb => g1 b (decide_eq_true hb)
    have ge : G'.get? e = none := g2 e (by simp)
    have old : ∀ b o, hp.get? b = some o → G'.get? b = some o := fun b o q => (gk b (Nat.ne_of_lt (Nat.lt_of_lt_of_le (Heap.lt_size q) M.new))).trans (M.keep b o q)
    have ob : ObjOk X.prog X.w (upd H1 d (.xd [(fld, v)])) G' d (.xd [(fld, v)]) := ⟨_, hns.at (fun o q => (gk d M.dne).trans q), fun f => relO_fld fld rv f⟩
    have J : Inv X pins σ (upd H1 d (.xd [(fld, v)])) ⟨G', g, dr, tk', os⟩ := I1.laid (t' := tk') old M.dbig ob
    refine ⟨e, oe, fv, ⟨G', g, dr, tk', os⟩, _, .ref C, some d, rfl, J, fun b o q => ?_, ge, hoe, ⟨hc, hd⟩, hdat, h1, ?_, rfl, I1.bare, raises_own T.exC T.tyC, q1 d (I1.hok.fresh M.dbig)⟩
    · by_cases hb : b = e
      · have q' : G'.get? b = some o := q
        rw [hb, ge] at q'
        cases q'
      · exact (gk b hb).symm.trans q
    · rw [upd_ne (Ne.symm M.dne)]
      exact I1.hok.fresh M.new
/-- raise Bad(e) -/
def tRaiseF (C : Addr) (fld : Str) (ok : V → Prop) (W : WX) (ta : TA) : TS := fun _ σ H => tMkErr C fld ok ta σ H fun cls d H' => W cls d σ H'
theorem ps_raiseF {ok : V → Prop} {a : PySem.Expr} {ta : TA} {W : WX} {p pos pos2 : Pos} {k : Nat} (T : ErrTxt X.prog X.K X.mg x fld C fI ae st) (hA : ∀ v u, ok v → RelV v u → ArgOk X.prog X.w ae fld u) (hc : X.calm = true) (hr : Room k X.A) (tk : Takes X W) (ha : PA X [a] ta) (hg : Gl X x := by rfl)
    (hdb : (x == ("__debug__" : Str)) = false := by decide) (he : starEach (a :: []) X.env = (false, eval a X.env) :: starEach [] X.env := by rfl) (hpl : (backTo pos (starEach [] X.env)).any (·.1) = false := by rfl) :
    PS X (.Raise (some (.Call (.Name x p) [a] [] pos)) none pos2) (tRaiseF C fld ok W ta) := ps_raise hc tk (pmk_err T hA hr ha hg hdb he hpl)
/-- e.F, e the error that the suite holds (at a; its class cls, its dict d) -/
def tErrF (C : Addr) (fld : Str) (a : Addr) (cls : Value) (d : Option Addr) (te : TE) : TE := fun σ H Q => te σ H fun y H1 => y = .ref a ∧ cls = .ref C ∧ ∃ (dd : Addr) (v : V), d = some dd ∧ H1 dd = some (.xd [(fld, v)]) ∧ Q v H1
theorem pe_errF {P : Program} {a : Addr} {oe : Obj} {cls : Value} {d : Option Addr} {pn : List (Addr × Obj)} {e : PySem.Expr} {te : TE} {pos : Pos} (T : ErrTxt P X.K X.mg x fld C fI ae st) (hz : Zc cls d oe) (hf : ∃ vs, oe.data = .fields vs) (he : PE (X.suite a ((a, oe) :: pn)) e te)
    (hb : attributeBase e fld X.env (eval e X.env) = eval e X.env := by rfl) : PE (X.suite a ((a, oe) :: pn)) (.Attribute e fld pos) (tErrF C fld a cls d te) := by
  refine ⟨fun pins s σ H Q I h => ?_⟩
  refine attr_of hb (thn (he.run pins s σ H _ I h) fun u s1 hh => ?_)
  obtain ⟨y, H1, I1, rx, ex, ec, dd, v, ed, ea, q⟩ := hh
  subst ex
  obtain rfl : u = Value.ref a := rx
  subst ec
  subst ed
  obtain ⟨ha, _⟩ := I1.pin (a, oe) (List.mem_append_left _ List.mem_cons_self)
  obtain ⟨vs, hd⟩ := hf
  have hx : ObjOk X.prog X.w H1 s1.heap dd (.xd [(fld, v)]) := I1.hok dd _ ea
  obtain ⟨mA, hns, hr⟩ := hx
  obtain ⟨od, ho, hl⟩ := lookIn_ns hns
  have l : List.lookup fld [(fld, v)] = some v := by simp [List.lookup]
  obtain ⟨u, hu, ru⟩ := RelO.some_of (v := v) (o := mA fld) (by rw [← l]; exact hr fld)
  have J : PySem.W.InstAt s1.heap a oe C (some od) := ⟨ha, hz.1, by unfold PySem.W.notCls; rw [hd] <;> rfl, by rw [hz.2]; exact ho⟩
  exact HandSPX.exc_get I1.kIn J T.ga T.gg T.exC (PySem.W.findObj_own T.hdC T.noF rfl (by rw [hl, hu])) (handed_of ru) ⟨v, H1, I1.tok _, ru, q⟩
end
end L2
namespace Rt
open PySem L2 PySem.Spec PyProof.Rows

structure Tx (P : Program) (K : PySem.W.Frag) (mg : Str → Option Value) : Type where
  C_TrickError : Addr
  g_TrickError : mg "TrickError" = some (.ref C_TrickError)
  x_TrickError : PySem.W.excIn K C_TrickError [.type "ValueError", .type "Exception", .type "BaseException", .type "object"] "ValueError.__new__" = true
  k_TrickError : PySem.W.keepIn K (.ref C_TrickError) = true
  s_TrickError : PySem.W.subIn K (.ref C_TrickError) (.type "BaseException") = some true
  t_TrickError : PySem.W.typeIn K (.ref C_TrickError) = some (.type "type")
  C_BadBase : Addr
  g_BadBase : mg "BadBase" = some (.ref C_BadBase)
  x_BadBase : PySem.W.excIn K C_BadBase [.type "ValueError", .type "Exception", .type "BaseException", .type "object"] "ValueError.__new__" = true
  k_BadBase : PySem.W.keepIn K (.ref C_BadBase) = true
  s_BadBase : PySem.W.subIn K (.ref C_BadBase) (.type "BaseException") = some true
  t_BadBase : PySem.W.typeIn K (.ref C_BadBase) = some (.type "type")
  C_BadTake : Addr
  g_BadTake : mg "BadTake" = some (.ref C_BadTake)
  x_BadTake : PySem.W.excIn K C_BadTake [.type "ValueError", .type "Exception", .type "BaseException", .type "object"] "ValueError.__new__" = true
  k_BadTake : PySem.W.keepIn K (.ref C_BadTake) = true
  s_BadTake : PySem.W.subIn K (.ref C_BadTake) (.type "BaseException") = some true
  t_BadTake : PySem.W.typeIn K (.ref C_BadTake) = some (.type "type")
  C_BadTimes : Addr
  g_BadTimes : mg "BadTimes" = some (.ref C_BadTimes)
  x_BadTimes : PySem.W.excIn K C_BadTimes [.type "ValueError", .type "Exception", .type "BaseException", .type "object"] "ValueError.__new__" = true
  k_BadTimes : PySem.W.keepIn K (.ref C_BadTimes) = true
  s_BadTimes : PySem.W.subIn K (.ref C_BadTimes) (.type "BaseException") = some true
  t_BadTimes : PySem.W.typeIn K (.ref C_BadTimes) = some (.type "type")
  C_BadTrick : Addr
  g_BadTrick : mg "BadTrick" = some (.ref C_BadTrick)
  x_BadTrick : PySem.W.excIn K C_BadTrick [.type "ValueError", .type "Exception", .type "BaseException", .type "object"] "ValueError.__new__" = true
  k_BadTrick : PySem.W.keepIn K (.ref C_BadTrick) = true
  s_BadTrick : PySem.W.subIn K (.ref C_BadTrick) (.type "BaseException") = some true
  t_BadTrick : PySem.W.typeIn K (.ref C_BadTrick) = some (.type "type")
  hd_BadTrick : PySem.W.hasDictIn K C_BadTrick = true
  C_BadNumber : Addr
  g_BadNumber : mg "BadNumber" = some (.ref C_BadNumber)
  k_BadNumber : PySem.W.keepIn K (.ref C_BadNumber) = true
  s_BadNumber : PySem.W.subIn K (.ref C_BadNumber) (.type "BaseException") = some true
  t_BadNumber : PySem.W.typeIn K (.ref C_BadNumber) = some (.type "type")
  hd_BadNumber : PySem.W.hasDictIn K C_BadNumber = true
  xm_TrickError_BadNumber : PySem.W.exmOne K (.ref C_TrickError) (.ref C_BadNumber) = some false
  xm_TrickError_BadTrick : PySem.W.exmOne K (.ref C_TrickError) (.ref C_BadTrick) = some false
  xm_BadBase_BadNumber : PySem.W.exmOne K (.ref C_BadBase) (.ref C_BadNumber) = some false
  xm_BadBase_BadTrick : PySem.W.exmOne K (.ref C_BadBase) (.ref C_BadTrick) = some false
  xm_BadTake_BadNumber : PySem.W.exmOne K (.ref C_BadTake) (.ref C_BadNumber) = some false
  xm_BadTake_BadTrick : PySem.W.exmOne K (.ref C_BadTake) (.ref C_BadTrick) = some false
  xm_BadTimes_BadNumber : PySem.W.exmOne K (.ref C_BadTimes) (.ref C_BadNumber) = some false
  xm_BadTimes_BadTrick : PySem.W.exmOne K (.ref C_BadTimes) (.ref C_BadTrick) = some false
  xm_BadTrick_BadNumber : PySem.W.exmOne K (.ref C_BadTrick) (.ref C_BadNumber) = some false
  xm_BadTrick_BadTrick : PySem.W.exmOne K (.ref C_BadTrick) (.ref C_BadTrick) = some true
  xm_BadNumber_BadNumber : PySem.W.exmOne K (.ref C_BadNumber) (.ref C_BadNumber) = some true
  xm_BadNumber_BadTrick : PySem.W.exmOne K (.ref C_BadNumber) (.ref C_BadTrick) = some false
  t_c_GREATEST_NUMBER : Tok
  c_GREATEST_NUMBER : mg "GREATEST_NUMBER" = some (.int 10000000000000000000000000000000000000000 t_c_GREATEST_NUMBER)
  t_c_LEAST_BASE : Tok
  c_LEAST_BASE : mg "LEAST_BASE" = some (.int 2 t_c_LEAST_BASE)
  t_c_GREATEST_BASE : Tok
  c_GREATEST_BASE : mg "GREATEST_BASE" = some (.int 16 t_c_GREATEST_BASE)
  t_c_GREATEST_TAKE : Tok
  c_GREATEST_TAKE : mg "GREATEST_TAKE" = some (.int 2 t_c_GREATEST_TAKE)
  t_c_GREATEST_TIMES : Tok
  c_GREATEST_TIMES : mg "GREATEST_TIMES" = some (.int 100 t_c_GREATEST_TIMES)
  a_is_integer : Addr
  d_is_integer : FuncData
  F_is_integer : Fun K "is_integer" "is_integer" s_is_integer a_is_integer d_is_integer
  b_is_integer : Binds K d_is_integer ["told", "low", "high"] []
  g_is_integer : mg "is_integer" = some (.ref a_is_integer)
  a_is_number : Addr
  d_is_number : FuncData
  F_is_number : Fun K "is_number" "is_number" s_is_number a_is_number d_is_number
  b_is_number : Binds K d_is_number ["told"] []
  g_is_number : mg "is_number" = some (.ref a_is_number)
  a_check_base : Addr
  d_check_base : FuncData
  F_check_base : Fun K "check_base" "check_base" s_check_base a_check_base d_check_base
  b_check_base : Binds K d_check_base ["base"] []
  g_check_base : mg "check_base" = some (.ref a_check_base)
  a_check_take : Addr
  d_check_take : FuncData
  F_check_take : Fun K "check_take" "check_take" s_check_take a_check_take d_check_take
  b_check_take : Binds K d_check_take ["take"] []
  g_check_take : mg "check_take" = some (.ref a_check_take)
  a_check_number : Addr
  d_check_number : FuncData
  F_check_number : Fun K "check_number" "check_number" s_check_number a_check_number d_check_number
  b_check_number : Binds K d_check_number ["n"] []
  g_check_number : mg "check_number" = some (.ref a_check_number)
  a_block_of : Addr
  d_block_of : FuncData
  F_block_of : Fun K "block_of" "block_of" s_block_of a_block_of d_block_of
  b_block_of : Binds K d_block_of ["base", "take"] []
  g_block_of : mg "block_of" = some (.ref a_block_of)
  a_check_trick : Addr
  d_check_trick : FuncData
  F_check_trick : Fun K "check_trick" "check_trick" s_check_trick a_check_trick d_check_trick
  b_check_trick : Binds K d_check_trick ["trick"] []
  g_check_trick : mg "check_trick" = some (.ref a_check_trick)
  a_trick_block : Addr
  d_trick_block : FuncData
  F_trick_block : Fun K "trick_block" "trick_block" s_trick_block a_trick_block d_trick_block
  b_trick_block : Binds K d_trick_block ["trick"] []
  g_trick_block : mg "trick_block" = some (.ref a_trick_block)
  a_made_of : Addr
  d_made_of : FuncData
  F_made_of : Fun K "made_of" "made_of" s_made_of a_made_of d_made_of
  b_made_of : Binds K d_made_of ["trick", "n"] []
  g_made_of : mg "made_of" = some (.ref a_made_of)
  a_made_with : Addr
  d_made_with : FuncData
  F_made_with : Fun K "made_with" "made_with" s_made_with a_made_with d_made_with
  b_made_with : Binds K d_made_with ["block", "times", "n"] []
  g_made_with : mg "made_with" = some (.ref a_made_with)
  a__law_taken : Addr
  d__law_taken : FuncData
  F__law_taken : Fun K "_law_taken" "_law_taken" s__law_taken a__law_taken d__law_taken
  b__law_taken : Binds K d__law_taken ["_law_row", "_law_many"] []
  g__law_taken : mg "_law_taken" = some (.ref a__law_taken)
  a__law_power : Addr
  d__law_power : FuncData
  F__law_power : Fun K "_law_power" "_law_power" s__law_power a__law_power d__law_power
  b__law_power : Binds K d__law_power ["_law_base", "_law_many"] []
  g__law_power : mg "_law_power" = some (.ref a__law_power)
  a__law_trick : Addr
  d__law_trick : FuncData
  F__law_trick : Fun K "_law_trick" "_law_trick" s__law_trick a__law_trick d__law_trick
  b__law_trick : Binds K d__law_trick ["_law_row", "_law_small"] []
  g__law_trick : mg "_law_trick" = some (.ref a__law_trick)
  a__law_behind : Addr
  d__law_behind : FuncData
  F__law_behind : Fun K "_law_behind" "_law_behind" s__law_behind a__law_behind d__law_behind
  b__law_behind : Binds K d__law_behind ["_law_told", "_law_n"] []
  g__law_behind : mg "_law_behind" = some (.ref a__law_behind)
  a__law_number : Addr
  d__law_number : FuncData
  F__law_number : Fun K "_law_number" "_law_number" s__law_number a__law_number d__law_number
  b__law_number : Binds K d__law_number ["_law_row"] []
  g__law_number : mg "_law_number" = some (.ref a__law_number)
  a__law_odd_number : Addr
  d__law_odd_number : FuncData
  F__law_odd_number : Fun K "_law_odd_number" "_law_odd_number" s__law_odd_number a__law_odd_number d__law_odd_number
  b__law_odd_number : Binds K d__law_odd_number ["_law_row"] []
  g__law_odd_number : mg "_law_odd_number" = some (.ref a__law_odd_number)
  a__law_tricks : Addr
  d__law_tricks : FuncData
  F__law_tricks : Fun K "_law_tricks" "_law_tricks" s__law_tricks a__law_tricks d__law_tricks
  b__law_tricks : Binds K d__law_tricks ["_law_told"] []
  g__law_tricks : mg "_law_tricks" = some (.ref a__law_tricks)
  a__law_stepped : Addr
  d__law_stepped : FuncData
  F__law_stepped : Fun K "_law_stepped" "_law_stepped" s__law_stepped a__law_stepped d__law_stepped
  b__law_stepped : Binds K d__law_stepped ["_law_reckoner", "_law_trick_here"] []
  g__law_stepped : mg "_law_stepped" = some (.ref a__law_stepped)
  a__law_is_reckoner : Addr
  d__law_is_reckoner : FuncData
  F__law_is_reckoner : Fun K "_law_is_reckoner" "_law_is_reckoner" s__law_is_reckoner a__law_is_reckoner d__law_is_reckoner
  b__law_is_reckoner : Binds K d__law_is_reckoner ["_law_reckoner", "_law_states", "_law_done_so"] []
  g__law_is_reckoner : mg "_law_is_reckoner" = some (.ref a__law_is_reckoner)
  a_law : Addr
  d_law : FuncData
  F_law : Fun K "law" "law" s_law a_law d_law
  b_law : Binds K d_law ["_law_script"] []
  g_law : mg "law" = some (.ref a_law)
  C_Trick : Addr
  cl_Trick : Cls K C_Trick
  g_Trick : mg "Trick" = some (.ref C_Trick)
  kc_Trick : PySem.W.keepIn K (.ref C_Trick) = true
  ins_Trick : ∀ (H : Hp) (a dx : Addr) (fs : List (Str × V)), H a = some (.ins C_Trick dx fs) → TyOf K H (.ref a) (.ref C_Trick)
  ki_Trick_int : PySem.W.kitOne K (.ref C_Trick) (.type "int") = some false
  ki_Trick_bool : PySem.W.kitOne K (.ref C_Trick) (.type "bool") = some false
  ki_Trick_tuple : PySem.W.kitOne K (.ref C_Trick) (.type "tuple") = some false
  ki_Trick_list : PySem.W.kitOne K (.ref C_Trick) (.type "list") = some false
  nf_Trick_tuple : PySem.W.subIn K (.type "tuple") (.ref C_Trick) = some false
  kis_Trick : PySem.W.kitOne K (.ref C_Trick) (.ref C_Trick) = some true
  kin_Trick_int : PySem.W.kitOne K (.type "int") (.ref C_Trick) = some false
  kin_Trick_bool : PySem.W.kitOne K (.type "bool") (.ref C_Trick) = some false
  kin_Trick_tuple : PySem.W.kitOne K (.type "tuple") (.ref C_Trick) = some false
  kin_Trick_list : PySem.W.kitOne K (.type "list") (.ref C_Trick) = some false
  kin_Trick_NoneType : PySem.W.kitOne K (.type "NoneType") (.ref C_Trick) = some false
  kin_Trick_str : PySem.W.kitOne K (.type "str") (.ref C_Trick) = some false
  kin_Trick_dict : PySem.W.kitOne K (.type "dict") (.ref C_Trick) = some false
  na_Trick_base : NoAttr K C_Trick "_base"
  na_Trick_take : NoAttr K C_Trick "_take"
  na_Trick_times : NoAttr K C_Trick "_times"
  a_Trick___init__ : Addr
  d_Trick___init__ : FuncData
  F_Trick___init__ : Fun K "__init__" "Trick.__init__" s_Trick___init__ a_Trick___init__ d_Trick___init__
  b_Trick___init__ : Binds K d_Trick___init__ ["self", "base", "take", "times"] []
  mk_Trick : Mk K C_Trick a_Trick___init__
  a_Trick_base : Addr
  d_Trick_base : FuncData
  F_Trick_base : Fun K "base" "Trick.base" s_Trick_base a_Trick_base d_Trick_base
  b_Trick_base : Binds K d_Trick_base ["self"] []
  q_Trick_base : Addr
  p_Trick_base : PropOf K C_Trick "base" q_Trick_base a_Trick_base
  a_Trick_take : Addr
  d_Trick_take : FuncData
  F_Trick_take : Fun K "take" "Trick.take" s_Trick_take a_Trick_take d_Trick_take
  b_Trick_take : Binds K d_Trick_take ["self"] []
  q_Trick_take : Addr
  p_Trick_take : PropOf K C_Trick "take" q_Trick_take a_Trick_take
  a_Trick_times : Addr
  d_Trick_times : FuncData
  F_Trick_times : Fun K "times" "Trick.times" s_Trick_times a_Trick_times d_Trick_times
  b_Trick_times : Binds K d_Trick_times ["self"] []
  q_Trick_times : Addr
  p_Trick_times : PropOf K C_Trick "times" q_Trick_times a_Trick_times
  a_Trick___eq__ : Addr
  d_Trick___eq__ : FuncData
  F_Trick___eq__ : Fun K "__eq__" "Trick.__eq__" s_Trick___eq__ a_Trick___eq__ d_Trick___eq__
  b_Trick___eq__ : Binds K d_Trick___eq__ ["self", "other"] []
  m_Trick___eq__ : Meth K C_Trick "__eq__" a_Trick___eq__
  C_Reckoner : Addr
  cl_Reckoner : Cls K C_Reckoner
  g_Reckoner : mg "Reckoner" = some (.ref C_Reckoner)
  kc_Reckoner : PySem.W.keepIn K (.ref C_Reckoner) = true
  ins_Reckoner : ∀ (H : Hp) (a dx : Addr) (fs : List (Str × V)), H a = some (.ins C_Reckoner dx fs) → TyOf K H (.ref a) (.ref C_Reckoner)
  ki_Reckoner_int : PySem.W.kitOne K (.ref C_Reckoner) (.type "int") = some false
  ki_Reckoner_bool : PySem.W.kitOne K (.ref C_Reckoner) (.type "bool") = some false
  ki_Reckoner_tuple : PySem.W.kitOne K (.ref C_Reckoner) (.type "tuple") = some false
  ki_Reckoner_list : PySem.W.kitOne K (.ref C_Reckoner) (.type "list") = some false
  kis_Reckoner : PySem.W.kitOne K (.ref C_Reckoner) (.ref C_Reckoner) = some true
  kin_Reckoner_int : PySem.W.kitOne K (.type "int") (.ref C_Reckoner) = some false
  kin_Reckoner_bool : PySem.W.kitOne K (.type "bool") (.ref C_Reckoner) = some false
  kin_Reckoner_tuple : PySem.W.kitOne K (.type "tuple") (.ref C_Reckoner) = some false
  kin_Reckoner_list : PySem.W.kitOne K (.type "list") (.ref C_Reckoner) = some false
  kin_Reckoner_NoneType : PySem.W.kitOne K (.type "NoneType") (.ref C_Reckoner) = some false
  kin_Reckoner_str : PySem.W.kitOne K (.type "str") (.ref C_Reckoner) = some false
  kin_Reckoner_dict : PySem.W.kitOne K (.type "dict") (.ref C_Reckoner) = some false
  na_Reckoner_numbers : NoAttr K C_Reckoner "_numbers"
  na_Reckoner_tricks : NoAttr K C_Reckoner "_tricks"
  a_Reckoner___init__ : Addr
  d_Reckoner___init__ : FuncData
  F_Reckoner___init__ : Fun K "__init__" "Reckoner.__init__" s_Reckoner___init__ a_Reckoner___init__ d_Reckoner___init__
  b_Reckoner___init__ : Binds K d_Reckoner___init__ ["self", "n"] []
  mk_Reckoner : Mk K C_Reckoner a_Reckoner___init__
  a_Reckoner_now : Addr
  d_Reckoner_now : FuncData
  F_Reckoner_now : Fun K "now" "Reckoner.now" s_Reckoner_now a_Reckoner_now d_Reckoner_now
  b_Reckoner_now : Binds K d_Reckoner_now ["self"] []
  q_Reckoner_now : Addr
  p_Reckoner_now : PropOf K C_Reckoner "now" q_Reckoner_now a_Reckoner_now
  a_Reckoner_tricks : Addr
  d_Reckoner_tricks : FuncData
  F_Reckoner_tricks : Fun K "tricks" "Reckoner.tricks" s_Reckoner_tricks a_Reckoner_tricks d_Reckoner_tricks
  b_Reckoner_tricks : Binds K d_Reckoner_tricks ["self"] []
  q_Reckoner_tricks : Addr
  p_Reckoner_tricks : PropOf K C_Reckoner "tricks" q_Reckoner_tricks a_Reckoner_tricks
  a_Reckoner_step : Addr
  d_Reckoner_step : FuncData
  F_Reckoner_step : Fun K "step" "Reckoner.step" s_Reckoner_step a_Reckoner_step d_Reckoner_step
  b_Reckoner_step : Binds K d_Reckoner_step ["self", "trick"] []
  m_Reckoner_step : Meth K C_Reckoner "step" a_Reckoner_step
  a_Reckoner_undo : Addr
  d_Reckoner_undo : FuncData
  F_Reckoner_undo : Fun K "undo" "Reckoner.undo" s_Reckoner_undo a_Reckoner_undo d_Reckoner_undo
  b_Reckoner_undo : Binds K d_Reckoner_undo ["self"] []
  m_Reckoner_undo : Meth K C_Reckoner "undo" a_Reckoner_undo
  a_Reckoner_copy : Addr
  d_Reckoner_copy : FuncData
  F_Reckoner_copy : Fun K "copy" "Reckoner.copy" s_Reckoner_copy a_Reckoner_copy d_Reckoner_copy
  b_Reckoner_copy : Binds K d_Reckoner_copy ["self"] []
  m_Reckoner_copy : Meth K C_Reckoner "copy" a_Reckoner_copy
  a_Reckoner___len__ : Addr
  d_Reckoner___len__ : FuncData
  F_Reckoner___len__ : Fun K "__len__" "Reckoner.__len__" s_Reckoner___len__ a_Reckoner___len__ d_Reckoner___len__
  b_Reckoner___len__ : Binds K d_Reckoner___len__ ["self"] []
  m_Reckoner___len__ : Meth K C_Reckoner "__len__" a_Reckoner___len__
  n_int : mg "int" = none
  n_bool : mg "bool" = none
  n_len : mg "len" = none
  n_range : mg "range" = none
  n_isinstance : mg "isinstance" = none
  n_tuple : mg "tuple" = none
  n_list : mg "list" = none
  n_max : mg "max" = none
  n_super : mg "super" = none
  n_ValueError : mg "ValueError" = none
  a_BadNumber___init__ : Addr
  x_BadNumber : ErrX.ErrTxt P K mg "BadNumber" "n" C_BadNumber a_BadNumber___init__ (ErrX.aeOf s_BadNumber___init__) s_BadNumber___init__
/-! ### the program's own classes (no errors) -/
def OwnT {P : Program} {K : PySem.W.Frag} {mg : Str → Option Value} (T : Tx P K mg) (C : Addr) : Prop := C = T.C_Trick ∨ C = T.C_Reckoner
theorem OwnT.ty {P : Program} {K : PySem.W.Frag} {mg : Str → Option Value} {T : Tx P K mg} {C : Addr} (t : OwnT T C) {H : Hp} {a dx : Addr} {fs : List (Str × V)} (e : H a = some (.ins C dx fs)) : TyOf K H (.ref a) (.ref C) := by
  rcases t with rfl | rfl
  · exact T.ins_Trick _ _ _ _ e
  · exact T.ins_Reckoner _ _ _ _ e
theorem OwnT.nint {P : Program} {K : PySem.W.Frag} {mg : Str → Option Value} {T : Tx P K mg} {C : Addr} (t : OwnT T C) : PySem.W.kitOne K (.ref C) (.type "int") = some false := by
  rcases t with rfl | rfl
  · exact T.ki_Trick_int
  · exact T.ki_Reckoner_int
theorem OwnT.nbool {P : Program} {K : PySem.W.Frag} {mg : Str → Option Value} {T : Tx P K mg} {C : Addr} (t : OwnT T C) : PySem.W.kitOne K (.ref C) (.type "bool") = some false := by
  rcases t with rfl | rfl
  · exact T.ki_Trick_bool
  · exact T.ki_Reckoner_bool
theorem OwnT.ntuple {P : Program} {K : PySem.W.Frag} {mg : Str → Option Value} {T : Tx P K mg} {C : Addr} (t : OwnT T C) : PySem.W.kitOne K (.ref C) (.type "tuple") = some false := by
  rcases t with rfl | rfl
  · exact T.ki_Trick_tuple
  · exact T.ki_Reckoner_tuple
theorem OwnT.nlist {P : Program} {K : PySem.W.Frag} {mg : Str → Option Value} {T : Tx P K mg} {C : Addr} (t : OwnT T C) : PySem.W.kitOne K (.ref C) (.type "list") = some false := by
  rcases t with rfl | rfl
  · exact T.ki_Trick_list
  · exact T.ki_Reckoner_list
theorem ar_BadNumber {P : Program} {w : World} : ∀ (v : V) (u : Value), True → RelV v u → ErrX.ArgOk P w (ErrX.aeOf s_BadNumber___init__) "n" u := fun _ _ _ _ => ErrX.argOk_const rfl
section
variable {P : Program} {w : World} {K : PySem.W.Frag} {mg : Str → Option Value} {base : Heap}
/-! ### heaps -/
/-- all but what stands at r is as it was -/
def But (r : Addr) (H H' : Hp) : Prop := ∀ b o, H b = some o → b ≠ r → H' b = some o
theorem But.refl (r : Addr) (H : Hp) : But r H H := fun _ _ e _ => e
theorem But.trans {r : Addr} {H H1 H2 : Hp} (a : But r H H1) (b : But r H1 H2) : But r H H2 := fun c o e n => b c o (a c o e n) n
theorem Same.but {r : Addr} {H H' : Hp} (a : Same H H') : But r H H' := fun c o e _ => a c o e
theorem But.put {r : Addr} {H : Hp} {o : HO} : But r H (upd H r o) := fun b _ e n => by rw [upd_ne n]; exact e
theorem But.seq {K : PySem.W.Frag} {r a : Addr} {H H' : Hp} {xs : List V} (e : But r H H') (n : a ≠ r) (h : SqL K H a xs) : SqL K H' a xs := by
  rcases h with (h | ⟨o, h⟩) | h
  · exact .inl (.inl (e _ _ h n))
  · exact .inl (.inr ⟨o, e _ _ h n⟩)
  · exact .inr h
theorem same_upd {H : Hp} {p : Addr} {o : HO} (h : H p = none) : Same H (upd H p o) := fun b x e => by
  rw [upd_ne (ne_of_none e h)]
  exact e
/-- any value of the document's point 1 -/
inductive AnyV (T : Addr → Prop) (H : Hp) : V → Prop where
  | non : AnyV T H .non
  | bl (b : Bool) : AnyV T H (.bl b)
  | int (i : Int) : AnyV T H (.int i)
  | str (x : Str) : AnyV T H (.str x)
  | lst {a : Addr} {xs : List V} (e : H a = some (.lst xs)) : AnyV T H (.ref a)
  | tup {a : Addr} {xs : List V} (e : H a = some (.tup xs)) : AnyV T H (.ref a)
  | dct {a : Addr} {kvs : List (Key × V)} (e : H a = some (.dK kvs)) : AnyV T H (.ref a)
  | ins {a C dx : Addr} {fs : List (Str × V)} (t : T C) (e : H a = some (.ins C dx fs)) : AnyV T H (.ref a)
/-- it is an integer from lo to hi -/
def intIn (x : V) (lo hi : Int) : Bool := match x with | .int i => decide (lo ≤ i) && decide (i ≤ hi) | _ => false
theorem intIn_of {i lo hi : Int} (h1 : lo ≤ i) (h2 : i ≤ hi) : intIn (.int i) lo hi = true := by
  show (decide (lo ≤ i) && decide (i ≤ hi)) = true
  rw [decide_eq_true h1, decide_eq_true h2]
  all_goals rfl
theorem small5 {n : Nat} (h : n ≤ 100000) : n < sizeLine := Nat.lt_of_le_of_lt h (by decide)
theorem dec_i (i j : Int) : decide (V.int i = V.int j) = decide (i = j) := by
  rw [Bool.eq_iff_iff]
  simp
theorem AnyV.mono {T : Addr → Prop} {H H' : Hp} {v : V} (a : AnyV T H v) (s : Same H H') : AnyV T H' v := by
  cases a with
  | non => exact .non
  | bl b => exact .bl b
  | int i => exact .int i
  | str x => exact .str x
  | lst e => exact .lst (s _ _ e)
  | tup e => exact .tup (s _ _ e)
  | dct e => exact .dct (s _ _ e)
  | ins t e => exact .ins t (s _ _ e)
theorem intIn_int' {x : V} {lo hi : Int} (h : intIn x lo hi = true) : ∃ i, x = .int i ∧ lo ≤ i ∧ i ≤ hi := by
  cases x with
  | int i =>
    have h2 : (decide (lo ≤ i) && decide (i ≤ hi)) = true := h
    rw [Bool.and_eq_true, decide_eq_true_iff, decide_eq_true_iff] at h2
    exact ⟨i, rfl, h2⟩
  | _ => cases h

/-! ### lists of ints -/
theorem dpAll_ints {H : Hp} : ∀ ns : List Int, DpAll K H (ns.map V.int) (ns.map PyData.int)
  | [] => .nil
  | n :: ns => .cons (.int n) (dpAll_ints ns)
theorem dp_ints {H : Hp} {a : Addr} {ns : List Int} (h : SqL K H a (ns.map V.int)) : Dp K H (.ref a) (.list (ns.map PyData.int)) := .lst h (dpAll_ints ns)
theorem dp_tints {H : Hp} {a : Addr} {ns : List Int} (h : SqT K H a (ns.map V.int)) : Dp K H (.ref a) (.tuple (ns.map PyData.int)) := .tup h (dpAll_ints ns)
theorem eqvAll_ints : ∀ ns ms : List Int, PyData.eqvAll (ns.map PyData.int) (ms.map PyData.int) = decide (ns = ms)
  | [], [] => rfl
  | [], _ :: _ => rfl
  | _ :: _, [] => rfl
  | n :: ns, m :: ms => by
    show (PyData.eqv (.int n) (.int m) && PyData.eqvAll (ns.map PyData.int) (ms.map PyData.int)) = _
    rw [eqvAll_ints ns ms]
    show ((n == m) && decide (ns = ms)) = _
    by_cases h1 : n = m
    · by_cases h2 : ns = ms
      · simp [h1, h2]
      · simp [h1, h2]
    · simp [h1]
theorem eqv_ints (ns ms : List Int) : PyData.eqv (.list (ns.map PyData.int)) (.list (ms.map PyData.int)) = decide (ns = ms) := eqvAll_ints ns ms
theorem eqv_tints (ns ms : List Int) : PyData.eqv (.tuple (ns.map PyData.int)) (.tuple (ms.map PyData.int)) = decide (ns = ms) := eqvAll_ints ns ms
theorem shaped_lints (ns : List Int) : SeqAt.shaped (.list (ns.map PyData.int)) = true := PySem.W.shaped_ints ns
/-- an item of a written list at a drawn place -/
theorem at_some (Pr : Int → Prop) {ns : List Int} (h : ∀ z ∈ ns, Pr z) {i : Int} (h0 : 0 ≤ i) (h1 : i < ns.length) : ∃ z, Pr z ∧ atI (ns.map V.int) i = some (V.int z) := by
  obtain ⟨z, hz⟩ : ∃ z, ns[i.toNat]? = some z := ⟨ns[i.toNat]'(by omega), List.getElem?_eq_getElem (by omega)⟩
  refine ⟨z, h z (List.mem_of_getElem? hz), at_of (j := i.toNat) (by omega) (by rw [List.getElem?_map, hz]; rfl)⟩
theorem sorted_ext {l m : List Int} (p : l.Perm m) (h1 : l.Pairwise (· ≤ ·)) (h2 : m.Pairwise (· ≤ ·)) : l = m :=
  p.eq_of_pairwise (fun a b _ _ x y => Int.le_antisymm x y) h1 h2
/-- reading an item within a comprehension: the written part said aloud -/
theorem ix_lK {X : Cx} (h : X.K = K) : IxR X (rIxL K) := by
  subst h
  exact ix_list
/-- the same of a tuple -/
theorem ix_tK {X : Cx} (h : X.K = K) : IxR X (rIxT K) := by
  subst h
  exact ix_tup
/-- name op= e, by the operation in place -/
theorem ip_op {X : Cx} {op : Operator} {r : R2} (ho : OpR X (inplaceOp op) r) : PIp X op r := fun pins s σ H x y v u Q I r1 r2 h => ho pins s σ H x y v u Q I r1 r2 h

end
end Rt
namespace L2
open PySem PySem.Spec PyProof.Rows
/-! ### two lists of one thing, the same -/
def rNe1 (K : PySem.W.Frag) : R2 := fun x y H Q => (∃ a b z, x = .ref a ∧ y = .ref b ∧ SqL K H a [.ref z] ∧ SqL K H b [.ref z] ∧ Q (.bl false) H) ∨ rNeD K x y H Q
theorem op_ne1 {X : Cx} (hu : X.A.units + 64 < cLine) : OpR X (compareOp .NotEq) (rNe1 X.K) := by
  intro pins s σ H x y v u Q I rx ry h
  rcases h with ⟨a, b, z, rfl, rfl, h1, h2, q⟩ | h
  · obtain ⟨its, rv, hl, _⟩ := I.list h1
    obtain ⟨its2, rv2, hl2, _⟩ := I.list h2
    cases (show v = Value.ref a from rx)
    cases (show u = Value.ref b from ry)
    cases rv with
    | cons r1 rr1 =>
      cases rr1
      cases rv2 with
      | cons r2 rr2 =>
        cases rr2
        cases r1
        cases r2
        refine SeqAt.RcNeAt.lists (e := fun _ => true) hl.isList hl2.isList rfl (by omega) (fun j j1 j2 => ?_) _ _ _ _ ⟨.bl false, H, I, rfl, q⟩
        have j0 : j = 0 := by
          have : j < 1 := j1
          omega
        subst j0
        exact SeqAt.EqAt.same _
  · exact op_neD hu pins s σ H x y v u Q I rx ry h
end L2
namespace Rt
open PySem L2 PySem.Spec PyProof.Rows
section
variable {P : Program} {w : World} {K : PySem.W.Frag} {mg : Str → Option Value} {base : Heap}

end
end Rt
namespace L2
open PySem PySem.Calls PySem.Spec PyProof.Rows
/-! ### a list and an empty one; len of an object of the program; a new object within a try -/
def rNeNil (K : PySem.W.Frag) : R2 := fun x y H Q => ∃ a b xs, x = .ref a ∧ y = .ref b ∧ SqL K H a xs ∧ SqL K H b [] ∧ Q (.bl (!xs.isEmpty)) H
theorem op_neNil {X : Cx} (hu : X.A.units + 64 < cLine) : OpR X (compareOp .NotEq) (rNeNil X.K) := by
  intro pins s σ H x y v u Q I rx ry h
  obtain ⟨a, b, xs, rfl, rfl, h1, h2, q⟩ := h
  obtain ⟨its, rv, hl, _⟩ := I.list h1
  obtain ⟨its2, rv2, hl2, _⟩ := I.list h2
  cases (show v = Value.ref a from rx)
  cases (show u = Value.ref b from ry)
  cases rv2
  cases xs with
  | nil =>
    cases rv
    exact SeqAt.RcNeAt.lists (e := fun _ => true) hl.isList hl2.isList rfl (by omega) (fun j j1 _ => absurd j1 (Nat.not_lt_zero j)) _ _ _ _ ⟨.bl false, H, I, rfl, q⟩
  | cons z zs =>
    cases rv with
    | cons r1 rr1 =>
      exact SeqAt.RcNeAt.lists_lengths hl.isList hl2.isList rfl (by omega) _ _ _ _ ⟨.bl true, H, I, rfl, q⟩
def rLenO (C : Addr) (sp : Sp) (E : XK) : List V → Hp → VK → Prop := fun xs H Q => ∃ a dx fs, xs = [.ref a] ∧ H a = some (.ins C dx fs) ∧ sp [.ref a] H (fun v H' => ∃ n : Nat, v = .int (n : Int) ∧ n ≤ sizeLine ∧ Q v H') E
theorem call_lenO {X : Cx} {n : Nat} {CX : CXT} {C f : Addr} {fd : FuncData} {ps : List Str} {sp : Sp} {E : XK} (G : FnOk X.prog X.w X.K X.mg X.base CX n f fd ps sp) (hr : Room (n + 1) X.A)
    (hs : PySem.W.findIn X.K (.ref C) "__len__" = some (some (.ref f))) (hf : PySem.W.isFn X.K (.ref f) = true) (hb : Binds X.K fd ps []) (hx : Passes CX X E) : CallR X (.builtin "len") (rLenO C sp E) := by
  intro pins s σ H xs us Q I r h
  obtain ⟨a, dx, fs, rfl, ha, hsp⟩ := h
  obtain ⟨u, rfl, ru⟩ := vals1 r
  obtain rfl : u = Value.ref a := ru
  obtain ⟨mA, O, _⟩ := ins_get I.hok ha
  obtain ⟨od, J, _⟩ := O.look
  obtain ⟨m, hF⟩ := I.fr
  have hl : ([V.ref a] : List V).length = ps.length := G.len _ _ _ _ hsp
  refine PySem.W.len_K hF I.ok.mod.kin J hs hf ?_
  have bd := hb s [.ref a] I.kIn (by rw [List.append_nil]; exact hl)
  rw [List.append_nil] at bd
  refine wpAny_call (codeAny_mono (G.run X.A.in1 X.stack s H ⟨[.ref a], []⟩ [.ref a] [.ref a] _ E hr.in1 I.env0.in1 bd (.cons rfl .nil) hsp) fun r s' hw => ?_)
  match r, hw with
  | .error e, hw => exact hx pins σ H s e s' I hw
  | .ok (.ret w'), hw =>
    obtain ⟨z, H', I', rz, ⟨k, ek, kz, q⟩⟩ := I.after hw
    subst ek
    obtain ⟨t, rfl⟩ : ∃ t, w' = .int (k : Int) t := rz
    have hz : sizeLine = 16777216 := sizeLine_eq
    exact ⟨⟨by omega, by omega⟩, .int (k : Int), H', I'.tok _, ⟨_, rfl⟩, q⟩
  | .ok .next, hw => exact hw.elim
  | .ok .brk, hw => exact hw.elim
  | .ok .cont, hw => exact hw.elim
def tMakeS (C : Addr) (sp : Sp) (E : St → XK) (t : TA) : TE := fun σ H Q => t σ H fun vs H1 => ∀ x dx, H1 x = none → H1 dx = none → dx ≠ x → sp (.ref x :: vs) (upd (upd H1 dx (.own x)) x (.ins C dx [])) (fun v H2 => v = .non ∧ Q (.ref x) H2) (E σ)
theorem pe_makeS {X : Cx} {CX : CXT} {k : Nat} {f C : Addr} {fd : FuncData} {ps : List Str} {sp : Sp} {E : St → XK} {x : Str} {p pos : Pos} {e : Expr} {es : List Expr} {t : TA} (M : Mk X.K C f) (G : FnOk X.prog X.w X.K X.mg X.base CX k f fd ps sp) (hr : Room (k + 1) X.A) (hg : Gl X x) (hm : X.mg x = some (.ref C))
    (hb : Binds X.K fd ps []) (hx : ∀ σ, PassesAt CX X σ (E σ)) (ha : PA X (e :: es) t) (hdb : (x == ("__debug__" : Str)) = false := by decide) (he : starEach (e :: es) X.env = (false, eval e X.env) :: starEach es X.env := by rfl)
    (hpl : (backTo pos (starEach es X.env)).any (·.1) = false := by rfl) : PE X (.Call (.Name x p) (e :: es) [] pos) (tMakeS C sp E t) := ⟨fun pins s σ H Q I h => by
  refine wpAny_Call_Name_kw (ld_glob I hg hm (PySem.W.callWith_K (h₀ := X.base) I.ok.mod.kin M.kp (thn (ha.run pos pins s σ H _ I h) fun us s1 ⟨vs, H1, I1, r, q⟩ => ⟨I1.kIn, ?_⟩) he hpl) hdb)
  -- the new object's two places
  have fr := fun a (h : s1.heap.objs.size ≤ a) => I1.hok.fresh h
  have hq := q _ _ (fr (s1.heap.objs.size + 1) (Nat.le_succ _)) (fr s1.heap.objs.size (Nat.le_refl _)) (Nat.ne_of_lt (Nat.lt_succ_self _))
  have J := Inv.made (C := C) I1
  have rs : Vals (V.ref (s1.heap.objs.size + 1) :: vs) (Value.ref (s1.heap.objs.size + 1) :: us) := .cons rfl r
  have ln : (Value.ref (s1.heap.objs.size + 1) :: us).length = ps.length := rs.length ▸ G.len _ _ _ _ hq
  have bd := hb _ (Value.ref (s1.heap.objs.size + 1) :: us) J.kIn (by rw [List.append_nil]; exact ln)
  rw [List.append_nil] at bd
  refine wpAny_call (make_map (f := f) I1.kIn M.makes M.init (beq_iff_eq.mp M.fn) (codeAny_mono (G.run _ X.stack _ _ ⟨_, []⟩ _ _ _ (E σ) (hr.make C us []) (J.env0.make C us []) bd rs hq) fun o s' ho => ?_))
  match o, ho with
  | .error e, ho => exact hx σ pins _ _ e s' J ho
  | .ok (.ret u), ho =>
    obtain ⟨v, H', I3, rv, ev, q3⟩ := J.after ho
    subst ev
    exact ⟨rv, V.ref (s1.heap.objs.size + 1), H', I3, rfl, q3⟩
  | .ok .next, ho => exact ho.elim
  | .ok .brk, ho => exact ho.elim
  | .ok .cont, ho => exact ho.elim⟩
end L2
namespace Rt
open PySem L2 PySem.Spec PyProof.Rows
section
variable {P : Program} {w : World} {K : PySem.W.Frag} {mg : Str → Option Value} {base : Heap}

/-! ### what is wished for less is met, too -/
def TEMono (t : TE) : Prop := ∀ (σ : L2.St) (H : Hp) (Q Q' : VK), (∀ v H1, Q v H1 → Q' v H1) → t σ H Q → t σ H Q'
def TAMono (t : TA) : Prop := ∀ (σ : L2.St) (H : Hp) (Q Q' : List V → Hp → Prop), (∀ v H1, Q v H1 → Q' v H1) → t σ H Q → t σ H Q'
def TTMono (t : TT) : Prop := ∀ (σ : L2.St) (H : Hp) (Q Q' : Bool → Hp → Prop), (∀ b H1, Q b H1 → Q' b H1) → t σ H Q → t σ H Q'
def R2Mono (r : R2) : Prop := ∀ (x y : V) (H : Hp) (Q Q' : VK), (∀ v H1, Q v H1 → Q' v H1) → r x y H Q → r x y H Q'
theorem m_var {i : Nat} : TEMono (tVar i) := fun _ _ _ _ h ⟨v, e, z⟩ => ⟨v, e, h _ _ z⟩
theorem m_c {v : V} : TEMono (tC v) := fun _ _ _ _ h z => h _ _ z
theorem m_op {r : R2} {a b : TE} (hr : R2Mono r) (ha : TEMono a) (hb : TEMono b) : TEMono (tOp r a b) := fun σ H Q Q' h z => ha σ H _ _ (fun x H1 q => hb σ H1 _ _ (fun y H2 q2 => hr x y H2 _ _ h q2) q) z
theorem m_nil : TAMono tNil := fun _ _ _ _ h z => h _ _ z
theorem m_cons {t : TE} {u : TA} (ht : TEMono t) (hu : TAMono u) : TAMono (tCons t u) := fun σ H Q Q' h z => ht σ H _ _ (fun x H1 q => hu σ H1 _ _ (fun xs H2 q2 => h _ _ q2) q) z
theorem m_test {t : TE} (ht : TEMono t) : TTMono (tTest t) := fun σ H Q Q' h z => ht σ H _ _ (fun x H1 ⟨k, e, q⟩ => ⟨k, e, h _ _ q⟩) z
theorem m_and {t u : TT} (ht : TTMono t) (hu : TTMono u) : TTMono (tAnd t u) := fun σ H Q Q' h z => ht σ H _ _ (fun c H1 q => by
  cases c with
  | true => exact hu σ H1 _ _ h q
  | false => exact h _ _ q) z
theorem m_rI {C : Int → Int → Prop} {g : Int → Int → V} : R2Mono (rI C g) := fun _ _ _ _ _ h ⟨i, j, e1, e2, c, q⟩ => ⟨i, j, e1, e2, c, h _ _ q⟩
theorem m_rI0 {g : Int → Int → V} : R2Mono (rI0 g) := fun _ _ _ _ _ h ⟨i, j, e1, e2, q⟩ => ⟨i, j, e1, e2, h _ _ q⟩
theorem m_rEq : R2Mono rEq := fun _ _ _ _ _ h ⟨e, q⟩ => ⟨e, h _ _ q⟩
theorem m_rNe : R2Mono rNe := fun _ _ _ _ _ h ⟨e, q⟩ => ⟨e, h _ _ q⟩
theorem m_rIn {n : Bool} : R2Mono (rIn K n) := fun _ _ _ _ _ h ⟨p, xs, e, s, f, a, q⟩ => ⟨p, xs, e, s, f, a, h _ _ q⟩
theorem m_len {i : Nat} : TEMono (tCB (fun xs H Q => ∃ p ys, xs = [V.ref p] ∧ (SqL K H p ys ∨ SqT K H p ys) ∧ Q (.int (ys.length : Int)) H) (tCons (tVar i) tNil)) := fun _ _ _ _ h ⟨v, e, p, ys, e1, e2, q⟩ => ⟨v, e, p, ys, e1, e2, h _ _ q⟩
/-! ### what is never reached -/
def tNev : TS := fun _ _ _ => False
theorem pss_nev {X : Cx} {sts : List Stmt} : PSs X sts tNev := ⟨fun _ _ _ _ _ _ h => h.elim⟩

/-! ### is_integer, and the checks -/
def spIsInt (T : Tx P K mg) : Sp := fun vs H Q _ => ∃ (x : V) (lo hi : Int), vs = [x, .int lo, .int hi] ∧ AnyV (OwnT T) H x ∧ Q (.bl (intIn x lo hi)) H
theorem isi_int (T : Tx P K mg) {H : Hp} {x : V} (a : AnyV (OwnT T) H x) : ∃ t, TyX K H x t ∧ (∃ b, PySem.W.kitOne K t (.type "int") = some b ∧ (b = false → ∀ lo hi, intIn x lo hi = false) ∧ ∃ c, PySem.W.kitOne K t (.type "bool") = some c ∧ (c = true → ∀ lo hi, intIn x lo hi = false) ∧ (b = true → c = false → ∃ i, x = .int i)) := by
  cases a with
  | non => exact ⟨_, .base .non, false, kit_ty (by decide +kernel), fun _ _ _ => rfl, false, kit_ty (by decide +kernel), fun _ _ _ => rfl, fun z => nomatch z⟩
  | bl b => exact ⟨_, .base (.bl b), true, kit_ty (by decide +kernel), fun _ _ _ => rfl, true, kit_ty (by decide +kernel), fun _ _ _ => rfl, fun _ z => nomatch z⟩
  | int i => exact ⟨.type "int", .base (.int i), true, kit_ty (by decide +kernel), fun z => Bool.noConfusion z, false, kit_ty (by decide +kernel), fun z => Bool.noConfusion z, fun _ _ => ⟨i, rfl⟩⟩
  | str x => exact ⟨_, .base (.str x), false, kit_ty (by decide +kernel), fun _ _ _ => rfl, false, kit_ty (by decide +kernel), fun _ _ _ => rfl, fun z => nomatch z⟩
  | lst e => exact ⟨_, .base (.lst e), false, kit_ty (by decide +kernel), fun _ _ _ => rfl, false, kit_ty (by decide +kernel), fun _ _ _ => rfl, fun z => nomatch z⟩
  | tup e => exact ⟨_, .base (.tup e), false, kit_ty (by decide +kernel), fun _ _ _ => rfl, false, kit_ty (by decide +kernel), fun _ _ _ => rfl, fun z => nomatch z⟩
  | dct e => exact ⟨_, .base (.dK e), false, kit_ty (by decide +kernel), fun _ _ _ => rfl, false, kit_ty (by decide +kernel), fun _ _ _ => rfl, fun z => nomatch z⟩
  | ins t e => exact ⟨_, .base (t.ty e), false, t.nint, fun _ _ _ => rfl, false, t.nbool, fun _ _ _ => rfl, fun z => nomatch z⟩
theorem ok_is_integer (T : Tx P K mg) : FnOk P w K mg base CX0 lv_is_integer T.a_is_integer T.d_is_integer ["told", "low", "high"] (spIsInt T) := by
  refine T.F_is_integer.ok sc_is_integer (fun vs H Q E h => ?_) (fun cdv A outer s H vs Q E hr h => ?_)
  · obtain ⟨x, lo, hi, rfl, _⟩ := h
    rfl
  · obtain ⟨x, lo, hi, rfl, a, k⟩ := h
    refine ⟨_, (pss_one (ps_ret (pe_and (pe_callB call_isi (by rfl) T.n_isinstance (by decide +kernel) (pa_cons (pv 0) (pa_cons (pe_bltn (v := .ty "int") rfl T.n_int (by decide +kernel) rfl) pa_nil))) (pe_and (pe_not (pe_callB call_isi (by rfl) T.n_isinstance (by decide +kernel) (pa_cons (pv 0) (pa_cons (pe_bltn (v := .ty "bool") rfl T.n_bool (by decide +kernel) rfl) pa_nil)))) (pe_one (pe_chain op_le op_le (pv 1) (pv 0) (pv 2))))))), ?_⟩
    obtain ⟨t, ty, b, e1, h1, c, e2, h2, h3⟩ := isi_int T a
    refine ⟨_, rfl, _, _, _, _, b, rfl, .ty _, ty, e1, b, rfl, ?_⟩
    cases b with
    | false => exact iteF (by rw [h1 rfl lo hi] at k; exact k)
    | true =>
      refine iteT ?_
      refine ⟨_, rfl, _, _, _, _, c, rfl, .ty _, ty, e2, c, rfl, _, rfl, ?_⟩
      cases c with
      | true => exact iteF (by rw [h2 rfl lo hi] at k; exact k)
      | false =>
        refine iteT ?_
        obtain ⟨i, rfl⟩ := h3 rfl rfl
        refine ⟨_, rfl, _, rfl, _, _, rfl, rfl, _, rfl, ?_⟩
        have ke : Q (V.bl (decide (lo ≤ i) && decide (i ≤ hi))) H := k
        refine ite2 (fun c1 => ?_) (fun c1 => ?_)
        · rw [c1] at ke
          exact ⟨_, rfl, _, _, rfl, rfl, ke⟩
        · rw [show decide (lo ≤ i) = false from by simpa using c1] at ke
          exact ke
/-- base, take and the like: a value in the range, or the error of the class C -/
def spChk (T : Tx P K mg) (C : Addr) (lo hi : Int) : Sp := fun vs H Q E => ∃ x : V, vs = [x] ∧ AnyV (OwnT T) H x ∧ (intIn x lo hi = true → Q .non H) ∧ (intIn x lo hi = false → E (.ref C) none H)

/-! ### is_number -/
def spIsNum (T : Tx P K mg) : Sp := fun vs H Q _ => ∃ x : V, vs = [x] ∧ AnyV (OwnT T) H x ∧ Q (.bl (intIn x (-(10 ^ 40)) (10 ^ 40))) H
theorem ok_is_number (T : Tx P K mg) : FnOk P w K mg base CX0 lv_is_number T.a_is_number T.d_is_number ["told"] (spIsNum T) := by
  refine T.F_is_number.ok sc_is_number (fun vs H Q E h => ?_) (fun cdv A outer s H vs Q E hr h => ?_)
  · obtain ⟨x, rfl, _⟩ := h
    rfl
  · obtain ⟨x, rfl, a, k⟩ := h
    refine ⟨_, (pss_one (ps_ret (pe_call (ok_is_integer T) (hr.mono (by decide)) rfl T.g_is_integer T.F_is_integer.kp T.b_is_integer .nil pass0 (pa_cons (pv 0) (pa_cons (pe_un un_neg (pe_glob (v := .int 10000000000000000000000000000000000000000) rfl T.c_GREATEST_NUMBER ⟨_, rfl⟩)) (pa_cons (pe_glob (v := .int 10000000000000000000000000000000000000000) rfl T.c_GREATEST_NUMBER ⟨_, rfl⟩) pa_nil)))))), ?_⟩
    exact ⟨_, rfl, _, rfl, x, _, _, rfl, a, k⟩

theorem ok_check_base (T : Tx P K mg) : FnOk P w K mg base (L2.CX P w) lv_check_base T.a_check_base T.d_check_base ["base"] (spChk T T.C_BadBase 2 16) := by
  refine T.F_check_base.okX sc_check_base (fun vs H Q E h => ?_) (fun cdv A outer s H vs Q E hr h => ?_)
  · obtain ⟨x, rfl, _⟩ := h
    rfl
  · obtain ⟨x, rfl, a, k1, k2⟩ := h
    refine ⟨_, (pss_one (ps_if (pt_not (pt_val (pe_call (ok_is_integer T) (hr.mono (by decide)) rfl T.g_is_integer T.F_is_integer.kp T.b_is_integer .nil pass0 (pa_cons (pv 0) (pa_cons (pe_glob (v := .int 2) rfl T.c_LEAST_BASE ⟨_, rfl⟩) (pa_cons (pe_glob (v := .int 16) rfl T.c_GREATEST_BASE ⟨_, rfl⟩) pa_nil)))))) (pss_one (ps_raise rfl (takes_of rfl rfl rfl rfl) (pmk_own PySem.F.excBase_ValueError T.x_BadBase T.g_BadBase T.k_BadBase (raises_own T.s_BadBase T.t_BadBase) rfl))) pss_nil)), ?_⟩
    refine ⟨_, rfl, _, _, _, rfl, a, _, rfl, ?_⟩
    cases e : intIn x 2 16 with
    | true => exact iteF (k1 e)
    | false => exact iteT (k2 e)

theorem ok_check_take (T : Tx P K mg) : FnOk P w K mg base (L2.CX P w) lv_check_take T.a_check_take T.d_check_take ["take"] (spChk T T.C_BadTake 1 2) := by
  refine T.F_check_take.okX sc_check_take (fun vs H Q E h => ?_) (fun cdv A outer s H vs Q E hr h => ?_)
  · obtain ⟨x, rfl, _⟩ := h
    rfl
  · obtain ⟨x, rfl, a, k1, k2⟩ := h
    refine ⟨_, (pss_one (ps_if (pt_not (pt_val (pe_call (ok_is_integer T) (hr.mono (by decide)) rfl T.g_is_integer T.F_is_integer.kp T.b_is_integer .nil pass0 (pa_cons (pv 0) (pa_cons pe_int (pa_cons (pe_glob (v := .int 2) rfl T.c_GREATEST_TAKE ⟨_, rfl⟩) pa_nil)))))) (pss_one (ps_raise rfl (takes_of rfl rfl rfl rfl) (pmk_own PySem.F.excBase_ValueError T.x_BadTake T.g_BadTake T.k_BadTake (raises_own T.s_BadTake T.t_BadTake) rfl))) pss_nil)), ?_⟩
    refine ⟨_, rfl, _, _, _, rfl, a, _, rfl, ?_⟩
    cases e : intIn x 1 2 with
    | true => exact iteF (k1 e)
    | false => exact iteT (k2 e)

/-! ### numbers, or the error -/
def spNumberX (T : Tx P K mg) : Sp := fun vs H Q E => ∃ x : V, vs = [x] ∧ AnyV (OwnT T) H x ∧ (intIn x (-(10 ^ 40)) (10 ^ 40) = true → Q .non H) ∧ (intIn x (-(10 ^ 40)) (10 ^ 40) = false → ∀ d, H d = none → E (.ref T.C_BadNumber) (some d) (upd H d (.xd [(("n" : Str), x)])))
theorem ok_check_number (T : Tx P K mg) : FnOk P w K mg base (L2.CX P w) lv_check_number T.a_check_number T.d_check_number ["n"] (spNumberX T) := by
  refine T.F_check_number.okX sc_check_number (fun vs H Q E h => ?_) (fun cdv A outer s H vs Q E hr h => ?_)
  · obtain ⟨x, rfl, _⟩ := h
    rfl
  · obtain ⟨x, rfl, a, k1, k2⟩ := h
    refine ⟨_, (pss_one (ps_if (pt_not (pt_val (pe_call (ok_is_number T) (hr.mono (by decide)) rfl T.g_is_number T.F_is_number.kp T.b_is_number .nil pass0 (pa_cons (pv 0) pa_nil)))) (pss_one (ps_raiseF T.x_BadNumber ar_BadNumber rfl hr (takes_of rfl rfl rfl rfl) (pa_cons (pv 0) pa_nil))) pss_nil)), ?_⟩
    refine ⟨_, rfl, x, rfl, a, _, rfl, ?_⟩
    cases e : intIn x (-(10 ^ 40)) (10 ^ 40) with
    | true => exact iteF (k1 e)
    | false => exact iteT ⟨_, rfl, _, rfl, trivial, fun d hd => k2 e d hd⟩

/-! ### a call of what an expression gives: one def of a family -/
structure HeldX (P : Program) (w : World) (K : PySem.W.Frag) (mg : Str → Option Value) (base : Heap) (CX : CXT) (k : Nat) (f : Addr) (sp : Sp) : Prop where
  ex : ∃ (k2 : Nat) (fd : FuncData) (ps : List Str), k2 ≤ k ∧ FnOk P w K mg base CX k2 f fd ps sp ∧ PySem.W.keepIn K (.ref f) = true ∧ Binds K fd ps []
def tCallE (te : TE) (fam : Addr → Sp → Prop) (E : XK) (t : TA) : TE := fun σ H Q => te σ H fun x H0 => ∃ f sp, x = .ref f ∧ fam f sp ∧ t σ H0 fun vs H1 => sp vs H1 Q E
theorem pe_callE {X : Cx} {CX : CXT} {k : Nat} {fam : Addr → Sp → Prop} {E : XK} {e0 : PySem.Expr} {te : TE} {e : PySem.Expr} {es : List PySem.Expr} {t : TA} {pos : Pos} (A : ∀ f sp, fam f sp → HeldX X.prog X.w X.K X.mg X.base CX k f sp) (hr : Room k X.A) (h0 : PE X e0 te) (hx : Passes CX X E) (ha : PA X (e :: es) t)
    (hev : eval (.Call e0 (e :: es) [] pos) X.env = (do callWith pos (← eval e0 X.env) [] (backTo pos (starEach (e :: es) X.env)) []) := by rfl)
    (he : starEach (e :: es) X.env = (false, eval e X.env) :: starEach es X.env := by rfl) (hpl : (backTo pos (starEach es X.env)).any (·.1) = false := by rfl) : PE X (.Call e0 (e :: es) [] pos) (tCallE te fam E t) := by
  refine ⟨fun pins s σ H Q I h => ?_⟩
  rw [hev]
  refine wpAny_bind (thn (h0.run pins s σ H _ I h) fun u s1 hh => ?_)
  obtain ⟨x, H1, I1, r1, f, sp, rfl, hf, ht⟩ := hh
  obtain rfl : u = Value.ref f := r1
  obtain ⟨k2, fd, ps, lk, F, hk, hb⟩ := (A f sp hf).ex
  refine PySem.W.callWith_K (h₀ := X.base) I.ok.mod.kin hk (thn (ha.run pos pins s1 σ _ _ I1 ht) fun us s2 ⟨vs, H2, I2, r, q⟩ => ⟨I2.kIn, ?_⟩) he hpl
  exact run_fn F (hr.mono lk) hb .nil hx I2 r (by rw [List.append_nil]; exact q)
/-- the same, where what it lets out may speak of the slots -/
def tCallES (te : TE) (fam : Addr → Sp → Prop) (E : L2.St → XK) (t : TA) : TE := fun σ H Q => te σ H fun x H0 => ∃ f sp, x = .ref f ∧ fam f sp ∧ t σ H0 fun vs H1 => sp vs H1 Q (E σ)
theorem pe_callES {X : Cx} {CX : CXT} {k : Nat} {fam : Addr → Sp → Prop} {E : L2.St → XK} {e0 : PySem.Expr} {te : TE} {e : PySem.Expr} {es : List PySem.Expr} {t : TA} {pos : Pos} (A : ∀ f sp, fam f sp → HeldX X.prog X.w X.K X.mg X.base CX k f sp) (hr : Room k X.A) (h0 : PE X e0 te) (hx : ∀ σ, PassesAt CX X σ (E σ)) (ha : PA X (e :: es) t)
    (hev : eval (.Call e0 (e :: es) [] pos) X.env = (do callWith pos (← eval e0 X.env) [] (backTo pos (starEach (e :: es) X.env)) []) := by rfl)
    (he : starEach (e :: es) X.env = (false, eval e X.env) :: starEach es X.env := by rfl) (hpl : (backTo pos (starEach es X.env)).any (·.1) = false := by rfl) : PE X (.Call e0 (e :: es) [] pos) (tCallES te fam E t) := by
  refine ⟨fun pins s σ H Q I h => ?_⟩
  rw [hev]
  refine wpAny_bind (thn (h0.run pins s σ H _ I h) fun u s1 hh => ?_)
  obtain ⟨x, H1, I1, r1, f, sp, rfl, hf, ht⟩ := hh
  obtain rfl : u = Value.ref f := r1
  obtain ⟨k2, fd, ps, lk, F, hk, hb⟩ := (A f sp hf).ex
  refine PySem.W.callWith_K (h₀ := X.base) I.ok.mod.kin hk (thn (ha.run pos pins s1 σ _ _ I1 ht) fun us s2 ⟨vs, H2, I2, r, q⟩ => ⟨I2.kIn, ?_⟩) he hpl
  exact run_fnS F (hr.mono lk) hb (hx σ) I2 r q

/-! ### enumerate(tuple) -/
end
end Rt
namespace EnumX
open PySem PyProof.Rows
theorem new1 {u : Value} {ob : Obj} {Z : Heap → Prop} (B : Begins u ob Z) : Meets (Builtin.«enumerate.__new__» ⟨[.type "enumerate", u], []⟩) (fun _ R s => Z s.heap ∧
      R (.ok (.ret (.ref (s.heap.push ob).objs.size))) { s with heap := (s.heap.push ob).push ⟨.type "enumerate", none, .fields #[.none, .bool false, .ref s.heap.objs.size, rawInt 0, .none, .none], #[]⟩ }) := by
  refine Meets.of_wp fun P w A R s hyp => ?_
  obtain ⟨z, fin⟩ := hyp
  obtain ⟨hp, g, d, tk, os⟩ := s
  have se := sub_enumerate
  have go : ∀ {A2 : Around} {E2 Q2 : Value → Shared → Prop}, Q2 (.ref hp.objs.size) ⟨hp.push ob, g, d, tk, os⟩ → wpAny (model P w) A2 (pyIter u) Q2 E2 ⟨hp, g, d, tk, os⟩ := fun q => B.iter P w _ _ ⟨hp, g, d, tk, os⟩ _ z q
  wp_walk using go
  refine wpAny_stack_any fun stk => (wpAny_pure ?_)
  split
  · rename_i cc _ _ _ _ _
    cases (cc == Value.type "enumerate") <;> (wp_walk using go; exact ⟨_, rfl, fin⟩)
  · wp_walk using go
    exact ⟨_, rfl, fin⟩
theorem made1 {P : Program} {w : World} {A : Around} {E Q : Value → Shared → Prop} {s : Shared} {u : Value} {ob : Obj} {Z : Heap → Prop} (B : Begins u ob Z) (z : Z s.heap)
    (q : ∀ h2, IsEnum h2 (s.heap.objs.size + 1) s.heap.objs.size 0 .none → h2.get? s.heap.objs.size = some ob → (∀ b o, s.heap.get? b = some o → h2.get? b = some o) → Q (.ref (s.heap.objs.size + 1)) { s with heap := h2 }) :
    wpAny (model P w) A (call (.type "enumerate") [u]) Q E s := by
  refine callType_new F.called_enumerate (by decide) (F.typeCall_enumerate_1 u) (F.newCall_enumerate_1 u) (fun ob => F.args_object_init_2 ob u) F.entry_enumerate_new (new1 B) ⟨z, ?_⟩
  have sz : (s.heap.push ob).objs.size = s.heap.objs.size + 1 := Heap.size_push ..
  have at1 : ((s.heap.push ob).push ⟨.type "enumerate", none, .fields #[.none, .bool false, .ref s.heap.objs.size, rawInt 0, .none, .none], #[]⟩).get? (s.heap.objs.size + 1) = some ⟨.type "enumerate", none, .fields #[.none, .bool false, .ref s.heap.objs.size, rawInt 0, .none, .none], #[]⟩ := by
    rw [← sz]
    exact Heap.get?_push_size _ rfl
  show _ ∧ _
  rw [sz]
  exact ⟨⟨_, at1, rfl⟩, q _ at1 (Heap.get?_push_of_some _ (Heap.get?_push_size _ B.free)) fun b o e => Heap.get?_push_of_some _ (Heap.get?_push_of_some _ e)⟩
/-- at the end nothing is drawn -/
theorem drawn_out {P : Program} {w : World} {A : Around} (hh : A.handled = none) (it t : Addr) (ne : t ≠ it) (its : Array Value) (n : Nat) (hn : its.size ≤ n) : Draws P w A it [it, t] n (fun _ _ => True) (fun j h => j = n ∧ h.IsTupleIter it t n ∧ h.IsTuple t its) where
  live := fun _ _ ⟨_, ⟨o, e, _⟩, _⟩ => ⟨o, e⟩
  frame := fun _ _ _ ⟨z, a, b⟩ k => ⟨z, a.at fun o e => k it List.mem_cons_self o e, b.at fun o e => k t (List.mem_cons_of_mem _ List.mem_cons_self) o e⟩
  item := fun j _ _ _ lt ⟨z, _⟩ _ => absurd z (Nat.ne_of_lt lt)
  done := fun s Q E ⟨_, a, b⟩ q => wpAny_nextOf_tuple_end hh a b (Array.getElem?_eq_none hn) q
end EnumX
namespace L2
open PySem PySem.Spec PyProof.Rows
/-- the tuple at a, each item in a new pair with its place -/
def IteT (K : PySem.W.Frag) (a : Addr) : It where
  go := fun i H => ∃ (ys : List V) (y : V), SqT K H a ys ∧ ys[i]? = some y
  yld := fun i H v H2 => ∃ c y, v = .ref c ∧ H c = none ∧ H2 = upd H c (.tup [.int (i : Nat), y]) ∧ ∀ ys, SqT K H a ys → ys[i]? = some y
  stop := fun i H => ∃ ys : List V, SqT K H a ys ∧ ys.length ≤ i
theorem turn_enumT {P : Program} {w : World} {K : PySem.W.Frag} {elts : List PySem.Expr} {kk : Nat} {tpos : Pos} (a e it : Addr) :
    Turn P w K (.Tuple elts kk tpos) (IteT K a) [e, it] e (fun i h => (∃ old, IsEnum h e it ((i : Nat) : Int) old) ∧ h.IsTupleIter it a i ∧ e ≠ it) where
  mem := List.mem_cons_self
  obj := fun i h st b hb => by
    obtain ⟨⟨v0, en⟩, ⟨o, g1, g2, g3⟩, _⟩ := st
    rcases List.mem_cons.mp hb with z | hb2
    · rw [z]
      exact ⟨_, en, fun v q => nomatch q⟩
    · rw [List.mem_singleton.mp hb2]
      exact ⟨o, g1, fun v q => by rw [g3] at q; cases q⟩
  keep := fun i h h2 st k => by
    obtain ⟨⟨v0, en⟩, ti, ne⟩ := st
    exact ⟨⟨v0, k e List.mem_cons_self _ en⟩, ti.at fun o q => k it (List.mem_cons_of_mem _ List.mem_cons_self) o q, ne⟩
  item := by
    intro X hP hw hK hc i pins s σ H E I hf st hg
    subst hP hw hK
    obtain ⟨⟨v0, en⟩, ti, ne⟩ := st
    obtain ⟨ys, y, sq, hy⟩ := hg
    obtain ⟨its, vals, tp, ln⟩ := I.tuple sq
    obtain ⟨u, hu, ru⟩ := vals.get hy
    have tpl : s.heap.IsTuple a its.toArray := tp
    have le : e < s.heap.objs.size := Heap.lt_size en
    have li : it < s.heap.objs.size := by
      obtain ⟨_, q, _⟩ := ti
      exact Heap.lt_size q
    have nea : e ≠ a := fun z => by
      obtain ⟨o, g1, g2, _⟩ := tpl
      rw [← z, (show s.heap.get? e = some _ from en)] at g1
      rw [← Option.some.inj g1] at g2
      exact absurd (show Value.type "enumerate" = Value.type "tuple" from g2) (by decide)
    have nia : it ≠ a := fun z => by
      obtain ⟨o, g1, g2, _⟩ := tpl
      obtain ⟨o2, f1, f2, _⟩ := ti
      rw [← z, f1] at g1
      rw [← Option.some.inj g1, f2] at g2
      exact absurd g2 (by decide)
    refine wpAny_pyNext_enum_itemD (Draws.tuple (show X.A.in1.handled = none from I.ok.hd hc) it a (Ne.symm nia) its.toArray) en ⟨ti, tpl⟩ (by have := (List.getElem?_eq_some_iff.mp hu).1; simpa using this) ne (by simp [ne, nea]) fun x h2 tk px eo st2 nt sz kp => ?_
    have exu : x = u := by
      have px2 : its.toArray[i]? = some x := px
      rw [List.getElem?_toArray, hu] at px2
      exact (Option.some.inj px2).symm
    subst exu
    refine ⟨_, rfl, wpAny_letOwnedTupleGo_enum (s := { s with heap := h2, toks := tk + 1 }) eo fun h3 en3 sb => ?_⟩
    have nt3 : h3.get? s.heap.objs.size = some { cls := .type "tuple", data := .seq #[.int i tk, x] } := (sb.2 _ (Nat.ne_of_gt le)).trans nt
    have nw : ObjOk X.prog X.w (upd H s.heap.objs.size (.tup [.int (i : Nat), y])) h3 s.heap.objs.size (.tup [.int (i : Nat), y]) := ⟨by show 2 ≤ sizeLine; decide, [.int i tk, x], .cons ⟨_, rfl⟩ (.cons ru .nil), ⟨_, nt3, rfl, _, rfl⟩⟩
    have J : Inv X pins σ (upd H s.heap.objs.size (.tup [.int (i : Nat), y])) { s with heap := h3, toks := tk + 1 } :=
      I.turnedNew (ch := [e, it]) (fun b ob hb q => (sb.2 b (fun z => hb (z ▸ List.mem_cons_self))).trans (kp b ob (fun z => hb (z ▸ List.mem_cons_self)) (fun z => hb (z ▸ List.mem_cons_of_mem _ List.mem_cons_self)) q)) hf (Nat.le_refl _) nw
    refine ⟨.ref s.heap.objs.size, _, J, rfl, ⟨_, y, rfl, I.hok.fresh (Nat.le_refl _), rfl, fun zs hz => by rw [I.tuple_inj hz sq]; exact hy⟩, ⟨⟨x, ?_⟩, st2.1.at fun o q => (sb.2 it (Ne.symm ne)).trans q, ne⟩, fun b hb => ?_⟩
    · rw [show ((i + 1 : Nat) : Int) = (i : Int) + 1 from by omega]
      exact en3
    · have lb : b < s.heap.objs.size := by
        rcases List.mem_cons.mp hb with z | hb2
        · rw [z]
          exact le
        · rw [List.mem_singleton.mp hb2]
          exact li
      rw [upd_ne (Nat.ne_of_lt lb)]
      exact (hf b hb).1
  done := by
    intro X hP hw hK hc i pins s σ H E I hf st hg
    subst hP hw hK
    obtain ⟨⟨v0, en⟩, ti, ne⟩ := st
    obtain ⟨ys, sq, ln⟩ := hg
    obtain ⟨its, vals, tp, _⟩ := I.tuple sq
    obtain ⟨f0, f1, f2, f3, f4, f5⟩ := hf it (List.mem_cons_of_mem _ List.mem_cons_self)
    have tpl : s.heap.IsTuple a its.toArray := tp
    have nia : it ≠ a := fun z => by
      obtain ⟨o, g1, g2, _⟩ := tpl
      obtain ⟨o2, q1, q2, _⟩ := ti
      rw [← z, q1] at g1
      rw [← Option.some.inj g1, q2] at g2
      exact absurd g2 (by decide)
    have hl := vals.length
    refine wpAny_pyNext_enum_endD (EnumX.drawn_out (show X.A.in1.handled = none from I.ok.hd hc) it a (Ne.symm nia) its.toArray i (by simp; omega)) en ⟨rfl, ti, tpl⟩ fun h2 eb => ⟨rfl, I.turned (t' := s.toks) (fun b o hb q => eb b o hb q) f0 f1 f3 f4 f5⟩
  self := fun A i s Q E st h => let ⟨⟨_, en⟩, _⟩ := st; wpAny_pyIter_enum en h
def iEnumT (K : PySem.W.Frag) (ta : TA) : TI := fun σ H R => ta σ H fun vs H1 => ∃ a ys, vs = [.ref a] ∧ SqT K H1 a ys ∧ R (IteT K a) H1
theorem pi_enumT {X : Cx} {e : PySem.Expr} {ta : TA} {p pos tpos : Pos} {elts : List PySem.Expr} {kk : Nat} (hg : Gl X "enumerate") (hm : X.mg "enumerate" = none) (ha : PA X [e] ta) (hs : starEach [e] X.env = [(false, eval e X.env)] := by rfl) :
    PI X (.Tuple elts kk tpos) (.Call (.Name "enumerate" p) [e] [] pos) (iEnumT X.K ta) := by
  refine ⟨fun pins s σ H R I wish => ?_⟩
  refine Call_ (ld_blt I hg hm boot_enumerate (PyProof.Rows.callWith_type1 (thn (ha.run pos pins s σ H _ I wish) fun us s1 hh => ?_) hs rfl))
  obtain ⟨vs, H1, I1, r1, a, ys, rfl, sq, q⟩ := hh
  cases r1 with
  | cons r rr =>
    cases rr
    cases r
    obtain ⟨its, vals, tp, ln⟩ := I1.tuple sq
    have tpl : s1.heap.IsTuple a its.toArray := tp
    refine EnumX.made1 (begins_tuple a its.toArray) tpl fun h2 en nw kp => wpAny_pyIter_enum en ?_
    have J : Inv X pins σ H1 { s1 with heap := h2 } := I1.kept (t' := s1.toks) kp
    refine ⟨s1.heap.objs.size + 1, [s1.heap.objs.size + 1, s1.heap.objs.size], _, _, H1, rfl, J, turn_enumT a (s1.heap.objs.size + 1) s1.heap.objs.size, ⟨⟨.none, en⟩, ⟨_, nw, rfl, rfl⟩, Nat.succ_ne_self _⟩, fun b hb => ?_, q⟩
    have le : s1.heap.objs.size ≤ b := by
      rcases List.mem_cons.mp hb with z | hb2
      · rw [z]
        exact Nat.le_succ _
      · rw [List.mem_singleton.mp hb2]
        exact Nat.le_refl _
    exact I1.fpOk le (I1.hok.fresh le)
theorem walk_enumT {K : PySem.W.Frag} {a : Addr} {ys : List V} : Walk (IteT K a) ys.length (fun H => SqT K H a ys) (YPair (fun i => some (.int (i : Nat))) (fun i => ys[i]?)) := by
  refine ⟨fun i _ lt q => ⟨ys, ys[i], q, by simp [lt]⟩, fun _ q => ⟨ys, q, Nat.le_refl _⟩, fun i H v H2 _ q w => ?_⟩
  obtain ⟨c, y, e1, e2, e3, e4⟩ := w
  exact ⟨c, .int (i : Nat), y, e1, e2, e3, rfl, e4 ys q⟩
end L2
namespace Rt
open PySem L2 PySem.Spec PyProof.Rows
section
variable {P : Program} {w : World} {K : PySem.W.Frag} {mg : Str → Option Value} {base : Heap}

/-! ### a program's own == ; errors that leave a call within a try -/
def NoSub (K : PySem.W.Frag) (C : Addr) (H : Hp) (y : V) : Prop := (∃ b dy gs, y = .ref b ∧ H b = some (.ins C dy gs)) ∨ (∃ b xs, y = .ref b ∧ H b = some (.tup xs) ∧ PySem.W.subIn K (.type "tuple") (.ref C) = some false)
def rOwn (K : PySem.W.Frag) (C : Addr) (sp : Sp) (E : XK) : R2 := fun x y H Q => ∃ a dx fs, x = .ref a ∧ H a = some (.ins C dx fs) ∧ NoSub K C H y ∧ sp [x, y] H (fun v H' => (∃ k, v = .bl k) ∧ Q v H') E
section
variable {X : Cx}
theorem op_own {n : Nat} {CX : CXT} {C f : Addr} {fd : FuncData} {ps : List Str} {sp : Sp} {E : XK} (G : FnOk X.prog X.w X.K X.mg X.base CX n f fd ps sp) (hr : Room n X.A)
    (hs : PySem.W.findIn X.K (.ref C) "__eq__" = some (some (.ref f))) (hf : PySem.W.isFn X.K (.ref f) = true) (hb : Binds X.K fd ps []) (hx : Passes CX X E) : OpR X (compareOp .Eq) (rOwn X.K C sp E) := by
  intro pins s σ H x y v u Q I rx ry hq
  obtain ⟨a, dx, fs, rfl, ha, hy, hsp⟩ := hq
  obtain rfl : v = Value.ref a := rx
  obtain ⟨mA, O, _⟩ := ins_get I.hok ha
  obtain ⟨od, J, _⟩ := O.look
  obtain ⟨m, hF⟩ := I.fr
  have hl : ([V.ref a, y] : List V).length = ps.length := G.len _ _ _ _ hsp
  have back : wpAny (model X.prog X.w) X.A (call (.ref f) [.ref a, u]) (PySem.W.CmpBack (EP X pins σ Q)) X.xe s := by
    have rv : Vals [V.ref a, y] [Value.ref a, u] := .cons rfl (.cons ry .nil)
    have bd := hb s [.ref a, u] I.kIn (by rw [List.append_nil]; exact hl)
    rw [List.append_nil] at bd
    refine wpAny_call (codeAny_mono (G.run X.A X.stack s H ⟨[.ref a, u], []⟩ [.ref a, u] _ _ E hr I.env0 bd rv hsp) fun r s' hw => ?_)
    match r, hw with
    | .error e, hw => exact hx pins σ H s e s' I hw
    | .ok (.ret w'), hw =>
      obtain ⟨z, H', I', rz, ⟨k, ek⟩, qz⟩ := I.after hw
      subst ek
      cases rz
      exact ⟨.bl k, H', I', rfl, qz⟩
    | .ok .next, hw => exact hw.elim
    | .ok .brk, hw => exact hw.elim
    | .ok .cont, hw => exact hw.elim
  show wpAny (model X.prog X.w) X.A (richCompare .Eq (.ref a) u) _ _ s
  rcases hy with ⟨b, dy, gs, rfl, hb'⟩ | ⟨b, xs, rfl, hb', hsub⟩
  · obtain rfl : u = Value.ref b := ry
    obtain ⟨mB, O', _⟩ := ins_get I.hok hb'
    obtain ⟨od', J', _⟩ := O'.look
    exact PySem.W.cmp_K (op := .Eq) (tb := .ref C) hr.units0 hF I.ok.mod.kin J J'.type (by simp [PySem.W.notFirst]) hs hf back
  · obtain rfl : u = Value.ref b := ry
    obtain ⟨_, its, _, o, ho, hc, _⟩ := (show ObjOk X.prog X.w H s.heap b (.tup xs) from I.hok b _ hb')
    exact PySem.W.cmp_K (op := .Eq) (tb := .type "tuple") hr.units0 hF I.ok.mod.kin J (fun A' Q' E' s2 k2 q2 => wpAny_typeOf_ref (k2 _ _ ho) (by rw [hc]; exact q2)) (by simp [PySem.W.notFirst, hsub]) hs hf back
/-- what a call lets out is taken, whatever the slots hold -/
theorem passN {W : WX} (tk : Takes X W) : Passes (L2.CX X.prog X.w) X (fun cls d H => ∀ σ : L2.St, σ.length = X.N.length → W cls d σ H) :=
  fun _ σ _ _ e s' I c => tk e s' (XE.of_call I (fun _ _ _ h => h σ I.len) c)
end

/-! ### try with clauses, each with a name or without one -/
structure Cl where
  cls : Value
  slot : Option Nat
  ts : Addr → Value → Option Addr → TS
/-- behind a suite its name is forgotten -/
def offName (D : Ends) (i : Nat) : Ends := ⟨fun σ H => D.nx (σ.set i none) H, D.rt, fun σ H => D.bk (σ.set i none) H, fun σ H => D.ct (σ.set i none) H⟩
def Cl.wish (q : Cl) (a : Addr) (k : Value) (d : Option Addr) (D : Ends) (σ : L2.St) (H : Hp) : Prop := match q.slot with
  | none => q.ts a k d D σ H
  | some i => q.ts a k d (offName D i) (σ.set i (some (.ref a))) H
def wX (K : PySem.W.Frag) (Wo : WX) (D : Ends) : List Cl → WX
  | [] => Wo
  | q :: r => fun k d σ H => ∃ b, PySem.W.exmOne K k q.cls = some b ∧ (b = true → ∀ a, H a = none → q.wish a k d D σ H) ∧ (b = false → wX K Wo D r k d σ H)
inductive HdsX (X : Cx) : List ExceptHandler → List Cl → Prop
  | nil : HdsX X [] []
  | un {x : Str} {c : Value} {ts : Addr → Value → Option Addr → TS} {s0 : Stmt} {su : List Stmt} {p1 p2 : Pos} {hs : List ExceptHandler} {l : List Cl} (nm : Names X x c)
      (ok : ∀ (a : Addr) (oe : Obj) (k : Value) (d : Option Addr) (pn : List (Addr × Obj)), Zc k d oe → (∃ vs, oe.data = .fields vs) → PSs (X.suite a ((a, oe) :: pn)) (s0 :: su) (ts a k d)) (r : HdsX X hs l) :
      HdsX X (.ExceptHandler (some (.Name x p1)) none (s0 :: su) p2 :: hs) (⟨c, none, ts⟩ :: l)
  | as {x n : Str} {i : Nat} {c : Value} {ts : Addr → Value → Option Addr → TS} {s0 : Stmt} {su : List Stmt} {p1 p2 : Pos} {hs : List ExceptHandler} {l : List Cl} (hi : X.N[i]? = some n) (hl : X.env.kindOf n = some .local) (nm : Names X x c)
      (ok : ∀ (a : Addr) (oe : Obj) (k : Value) (d : Option Addr) (pn : List (Addr × Obj)), Zc k d oe → (∃ vs, oe.data = .fields vs) → PSs (X.suite a ((a, oe) :: pn)) (s0 :: su) (ts a k d)) (r : HdsX X hs l) :
      HdsX X (.ExceptHandler (some (.Name x p1)) (some n) (s0 :: su) p2 :: hs) (⟨c, some i, ts⟩ :: l)
section
variable {X : Cx} {tb : WX → TS} {Wo : WX}
/-- a flight that was landed at the try: what every clause needs of it -/
structure Land (X : Cx) (pins : List (Addr × Obj)) (σ : L2.St) (H : Hp) (a : Addr) (B : Heap) (sI : Shared) (k : Value) (d : Option Addr) (s : Shared) (h : Heap) : Prop where
  ok : X.Ok
  inv : Inv X pins σ H sI
  nb : ∀ b o, sI.heap.get? b = some o → b ∉ frs X.stack → B.get? b = some o
  up : sI.heap.UpToSlots h
  fly : HandSPX.FlyingZ B (X.env :: X.outer) a (Zc k d) h
  na : H a = none
  nL : a ≠ X.env.locals
  nF : a ∉ X.fs
  os : s.os = sI.os
  ag : AllBare s.gens
theorem clauses (hst : X.stack = X.env :: X.outer) (hfr : X.env.frame = some X.env.locals) (hN : X.N.Nodup) (tk : Takes X Wo) {pins : List (Addr × Obj)} {σ : L2.St} {H : Hp} {a : Addr} {B : Heap} {sI : Shared} {k : Value} {d : Option Addr} {s : Shared} {h : Heap} {D : Ends}
    (L : Land X pins σ H a B sI k d s h) : ∀ {hds : List ExceptHandler} {l : List Cl}, HdsX X hds l → wX X.K Wo D l k d σ H → wpAny (model X.prog X.w) X.A (handleBy (.ref a) X.env hds) (SP X pins D) X.xe { s with heap := h } := by
  have Jh : Inv X pins σ H { s with heap := h } := L.inv.landed L.nb L.fly.1 L.up L.os L.ag
  -- a clause's test
  have tst : ∀ {x : Str} {c : Value} {p1 : Pos} {b : Bool} {Q : Bool → Shared → Prop} {E E2 : Value → Shared → Prop}, Names X x c → PySem.W.exmOne X.K k c = some b → Q b { s with heap := h } →
      wpAny (model X.prog X.w) (X.A.mark (some (.ref a))) (eval (.Name x p1) X.env) (fun v s1 => wpAny (model X.prog X.w) (X.A.mark (some (.ref a))) (excMatches (.ref a) v) Q E s1) E2 { s with heap := h } := by
    intro x c p1 b Q E E2 nm e q
    obtain ⟨oe, fv, g1, g2, g3⟩ := L.fly.there
    have S := Jh.suite g1 g3 L.na L.nL L.nF
    have look : PySem.W.Looks (model X.prog X.w) h (typeOf (.ref a)) k := fun A' Q' E' s2 k2 q2 => wpAny_typeOf_ref (k2 _ _ g1) (by rw [g2.1]; exact q2)
    have m := PySem.W.exm_one (M := model X.prog X.w) Jh.kIn look e
    obtain ⟨n1, n2, n3 | ⟨n3, n4, n5⟩⟩ := nm
    · exact ld_glob (X := X.suite a ((a, oe) :: (X.pn ++ pins))) S n1 n3 (m.here q) n2
    · exact ld_blt (X := X.suite a ((a, oe) :: (X.pn ++ pins))) S n1 n3 n4 (m.here q) n5 n2
  intro hds l hk
  induction hk with
  | nil =>
    intro w
    refine wpAny_handleBy_nil ?_
    obtain ⟨_, _, _, oe, fv, t0, _, _, g1, g2, g3, g4, _⟩ := id L.fly
    have out : wpAny (model X.prog X.w) X.A (setFlight (.ref a) X.env.frame) (fun _ s4 => wpAny (model X.prog X.w) X.A (throw (.ref a) : Sem Flow) (SP X pins D) X.xe s4) X.xe { s with heap := h } := by
      rw [hfr]
      exact HandSPX.setFlight_upZ L.fly fun h4 hh4 up4 => wpAny_throw (tk _ _ ⟨a, B, sI, pins, σ, H, k, d, rfl, L.inv, L.nb, L.up.trans up4, .inr (.inr (by rw [hst]; exact hh4)), L.na, L.os, L.ag, w⟩)
    have neN : ¬ ((Value.ref t0 == Value.none) = true) := by simp
    unfold PySem.passOn
    refine wpAny_bind (wpAny_field g1 g3 g4 ?_)
    rw [if_neg neN]
    first
      | exact wpAny_bind (wpAny_pure (wpAny_bind out))
      | exact wpAny_bind out
  | un nm ok r ih =>
    intro w
    obtain ⟨b, e, yes, no⟩ := w
    refine wpAny_handleBy_cons (codeAny_handlers_test (tst nm e ?_)) (by intro q; cases q)
    cases b with
    | false => exact ih (no rfl)
    | true =>
      refine codeAny_handlers_suite (HandSPX.lands_againZ L.fly fun h4 fl4 up4 => ?_)
      obtain ⟨oe, fv, g1, g2, g3⟩ := fl4.there
      have J4 : Inv X pins σ H { s with heap := h4 } := L.inv.landed L.nb fl4.1 (L.up.trans up4) L.os L.ag
      have S := J4.suite g1 g3 L.na L.nL L.nF
      refine wpAny_mono ((ok a oe k d (X.pn ++ pins) g2 ⟨_, g3⟩).run [] _ _ H _ S (yes rfl a L.na)) (fun f s6 z => ?_) (fun _ _ z => z.elim)
      match f, z with
      | .next, ⟨_, _, z, q⟩ => exact ⟨_, _, z.unsuite L.ok, q⟩
      | .brk, ⟨_, _, z, q⟩ => exact ⟨_, _, z.unsuite L.ok, q⟩
      | .cont, ⟨_, _, z, q⟩ => exact ⟨_, _, z.unsuite L.ok, q⟩
      | .ret _, ⟨_, _, _, z, rv, q⟩ => exact ⟨_, _, _, z.unsuite L.ok, rv, q⟩
  | @as x n i c ts s0 su p1 p2 hs l hi hl nm ok r ih =>
    intro w
    obtain ⟨b, e, yes, no⟩ := w
    refine wpAny_handleBy_cons (codeAny_handlers_test (tst nm e ?_)) (by intro q; cases q)
    cases b with
    | false => exact ih (no rfl)
    | true =>
      refine codeAny_handlers_suite_as (HandSPX.lands_againZ L.fly fun h4 fl4 up4 => ?_)
      obtain ⟨oe, fv, g1, g2, g3⟩ := fl4.there
      have J4 : Inv X pins σ H { s with heap := h4 } := L.inv.landed L.nb fl4.1 (L.up.trans up4) L.os L.ag
      have S := J4.suite g1 g3 L.na L.nL L.nF
      refine store_ok (X := X.suite a ((a, oe) :: (X.pn ++ pins))) (v := .ref a) S hN hi (.inl hl) rfl (fun s5 S5 => ?_) (.inr hl)
      refine wpAny_mono ((ok a oe k d (X.pn ++ pins) g2 ⟨_, g3⟩).run [] s5 _ H _ S5 (yes rfl a L.na)) (fun f s6 z => ?_) (fun _ _ z => z.elim)
      have off : ∀ {σ6 : L2.St} {H6 : Hp} {Q : Shared → Prop}, Inv (X.suite a ((a, oe) :: (X.pn ++ pins))) [] σ6 H6 s6 → (∀ s7, Inv X pins (σ6.set i none) H6 s7 → Q s7) →
          wpAny (model X.prog X.w) X.A (do bindName X.env n .none; unbindBehindTheSuite X.env n p2) (fun _ s7 => Q s7) X.xe s6 := fun z hq => gone_ok (z.unsuite L.ok) hN hi hl hq
      match f, z with
      | .next, ⟨_, _, z, q⟩ => exact off z fun s7 J => ⟨_, _, J, q⟩
      | .brk, ⟨_, _, z, q⟩ => exact off z fun s7 J => ⟨_, _, J, q⟩
      | .cont, ⟨_, _, z, q⟩ => exact off z fun s7 J => ⟨_, _, J, q⟩
      | .ret _, ⟨_, _, _, z, rv, q⟩ => exact off z fun s7 J => ⟨_, _, _, J, rv, q⟩
theorem ps_try_x {body : List Stmt} {h0 : ExceptHandler} {hds : List ExceptHandler} {l : List Cl} {pos : Pos} (hst : X.stack = X.env :: X.outer) (hfr : X.env.frame = some X.env.locals) (hN : X.N.Nodup) (tk : Takes X Wo)
    (hb : ∀ (W : WX) (pn : List (Addr × Obj)) (xe : Value → Shared → Prop), Takes (X.tr pn xe) W → PassesOwn (model X.prog X.w) X.A X.env xe → PSs (X.tr pn xe) body (tb W)) (hh : HdsX X (h0 :: hds) l) :
    PS X (.Try body (h0 :: hds) [] [] pos) (fun D σ H => tb (wX X.K Wo D l) D σ H) := by
  refine ⟨fun pins s σ H D I w => wpAny_Try_except ?_⟩
  have ok := I.ok
  refine wpAny_mono ((hb (wX X.K Wo D l) (X.pn ++ pins) (fun e s1 => wpAny (model X.prog X.w) X.A (noteFrame e X.env) (fun _ s2 => wpAny (model X.prog X.w) X.A (setFlight e none) (fun _ s3 =>
    wpAny (model X.prog X.w) X.A (handleBy e X.env (h0 :: hds)) (SP X pins D) X.xe s3) X.xe s2) X.xe s1) (fun u s' q => ?_) PassesOwn.looking).run [] s σ H D (I.toTry _) w) (fun f s1 z => ?_) (fun _ _ z => z)
  · obtain ⟨a, B, sI, pi, σ', H', k, d, rfl, J', nb, up, sky, na, os, ag, w'⟩ := q
    have J := J'.ofTry (X := X) ok
    rw [show (X.tr (X.pn ++ pins) _).stack = X.stack from rfl, hst] at sky
    show wpAny (model X.prog X.w) X.A (noteFrame (.ref a) X.env) _ _ _
    refine Sky.land Zc.steady (by rw [ok.frames, hst]) hfr sky fun h3 fl3 up3 => ?_
    obtain ⟨oe, fv, g1, g2, g3⟩ := fl3.there
    have far : a ∉ frs (X.env :: X.outer) := fun hm => by
      obtain ⟨_, o', e', nf⟩ := fl3.2.2.1.mem hm
      exact nf _ ((Option.some.inj (g1.symm.trans e')) ▸ g3)
    refine clauses hst hfr hN tk ⟨ok, J, nb, up.trans up3, fl3, na, fun z => far ?_, fun hm => far ?_, os, ag⟩ hh w'
    · exact List.mem_filterMap.mpr ⟨X.env, List.mem_cons_self, by rw [hfr, z]⟩
    · obtain ⟨e2, he2, q2⟩ := List.mem_filterMap.mp hm
      exact List.mem_filterMap.mpr ⟨e2, List.mem_cons_of_mem _ he2, q2⟩
  · match f, z with
    | .next, ⟨_, _, z, q⟩ => exact wpAny_execs_nil ⟨_, _, z.ofTry ok, q⟩
    | .brk, ⟨_, _, z, q⟩ => exact ⟨_, _, z.ofTry ok, q⟩
    | .cont, ⟨_, _, z, q⟩ => exact ⟨_, _, z.ofTry ok, q⟩
    | .ret _, ⟨_, _, _, z, rv, q⟩ => exact ⟨_, _, _, z.ofTry ok, rv, q⟩
end

/-! ### what stands where a value points -/
theorem AnyV.at {T : Addr → Prop} {H H1 : Hp} {c : Addr} {o : HO} (a : AnyV T H (.ref c)) (S : Same H H1) (e : H1 c = some o) : H c = some o := by
  cases a with
  | lst e2 => rw [S _ _ e2] at e; rw [← e]; exact e2
  | tup e2 => rw [S _ _ e2] at e; rw [← e]; exact e2
  | dct e2 => rw [S _ _ e2] at e; rw [← e]; exact e2
  | ins t e2 => rw [S _ _ e2] at e; rw [← e]; exact e2
/-- the things of the tuple x -/
def tupOf (H : Hp) (x : V) : Option (List V) := match x with
  | .ref c => match H c with
    | some (.tup ys) => some ys
    | _ => none
  | _ => none
theorem tupOf_ref {H : Hp} {c : Addr} {ys : List V} (h : H c = some (.tup ys)) : tupOf H (.ref c) = some ys := by
  show (match H c with | some (.tup ys) => some ys | _ => none) = _
  rw [h]
theorem tupOf_some {H : Hp} {x : V} {ys : List V} (h : tupOf H x = some ys) : ∃ c, x = .ref c ∧ H c = some (.tup ys) := by
  cases x with
  | ref c =>
    refine ⟨c, rfl, ?_⟩
    have h2 : (match H c with | some (.tup ys) => some ys | _ => none) = some ys := h
    split at h2
    · rename_i zs e
      cases h2
      exact e
    · cases h2
  | _ => cases h
theorem tupOf_same {T : Addr → Prop} {H H2 : Hp} {x : V} (a : AnyV T H x) (S : Same H H2) : tupOf H2 x = tupOf H x := by
  cases e : tupOf H x with
  | some ys =>
    obtain ⟨c, rfl, h⟩ := tupOf_some e
    exact tupOf_ref (S _ _ h)
  | none =>
    cases e2 : tupOf H2 x with
    | none => rfl
    | some ys =>
      obtain ⟨c, rfl, h⟩ := tupOf_some e2
      rw [tupOf_ref (a.at S h)] at e
      cases e
/-- its things are any values -/
def ItemsAny (T : Addr → Prop) (H : Hp) (x : V) : Prop := ∀ ys, tupOf H x = some ys → ∀ y ∈ ys, AnyV T H y
theorem ItemsAny.same {T : Addr → Prop} {H H2 : Hp} {x : V} (h : ItemsAny T H x) (a : AnyV T H x) (S : Same H H2) : ItemsAny T H2 x := fun ys e y hy => by
  rw [tupOf_same a S] at e
  exact (h ys e y hy).mono S
theorem ItemsAny.ints {T : Addr → Prop} {H : Hp} {c : Addr} {ns : List Int} (h : H c = some (.tup (ns.map V.int))) : ItemsAny T H (.ref c) := fun ys e y hy => by
  rw [tupOf_ref h] at e
  cases e
  obtain ⟨z, _, rfl⟩ := List.mem_map.mp hy
  exact .int z
theorem ItemsAny.non {T : Addr → Prop} {H : Hp} {x : V} (h : tupOf H x = none) : ItemsAny T H x := fun ys e => by
  rw [h] at e
  cases e
/-- the place of the first thing that is no integer from a to b -/
def firstW (a b : Int) : List V → Option Nat
  | [] => none
  | y :: ys => if intIn y a b = true then (firstW a b ys).map (· + 1) else some 0
theorem firstW_none {a b : Int} : ∀ {ys : List V}, (∀ y ∈ ys, intIn y a b = true) → firstW a b ys = none
  | [], _ => rfl
  | y :: ys, h => by
    unfold firstW
    rw [if_pos (h y List.mem_cons_self), firstW_none fun z hz => h z (List.mem_cons_of_mem _ hz)]
    rfl
theorem firstW_all {a b : Int} : ∀ {ys : List V}, firstW a b ys = none → ∀ y ∈ ys, intIn y a b = true
  | [], _, _, hy => by cases hy
  | z :: ys, h, y, hy => by
    unfold firstW at h
    by_cases e : intIn z a b = true
    · rw [if_pos e] at h
      rcases List.mem_cons.mp hy with rfl | hy
      · exact e
      · exact firstW_all (Option.map_eq_none_iff.mp h) y hy
    · rw [if_neg e] at h
      cases h
theorem firstW_at {a b : Int} : ∀ {ys : List V} {i : Nat} {y : V}, (∀ (j : Nat) (z : V), j < i → ys[j]? = some z → intIn z a b = true) → ys[i]? = some y → intIn y a b = false → firstW a b ys = some i
  | [], i, y, _, h, _ => by cases h
  | z :: ys, 0, y, _, h, e => by
    cases h
    unfold firstW
    rw [if_neg (by rw [e]; exact Bool.false_ne_true)]
  | z :: ys, i + 1, y, h0, h, e => by
    unfold firstW
    rw [if_pos (h0 0 z (Nat.succ_pos _) rfl), firstW_at (i := i) (y := y) (fun j x hj hx => h0 (j + 1) x (Nat.succ_lt_succ hj) hx) h e]
    rfl
theorem firstW_lt {a b : Int} : ∀ {ys : List V} {i : Nat}, firstW a b ys = some i → i < ys.length
  | [], _, h => by cases h
  | y :: ys, i, h => by
    unfold firstW at h
    by_cases e : intIn y a b = true
    · rw [if_pos e] at h
      obtain ⟨j, hj, rfl⟩ := Option.map_eq_some_iff.mp h
      exact Nat.succ_lt_succ (firstW_lt hj)
    · rw [if_neg e] at h
      cases h
      exact Nat.succ_pos _
theorem firstW_some {a b : Int} : ∀ {ys : List V} {i : Nat}, firstW a b ys = some i → (∀ (j : Nat) (z : V), j < i → ys[j]? = some z → intIn z a b = true) ∧ ∃ y, ys[i]? = some y ∧ intIn y a b = false
  | [], _, h => by cases h
  | y :: ys, i, h => by
    unfold firstW at h
    by_cases e : intIn y a b = true
    · rw [if_pos e] at h
      obtain ⟨j, hj, rfl⟩ := Option.map_eq_some_iff.mp h
      obtain ⟨h1, z, h2, h3⟩ := firstW_some hj
      refine ⟨fun m v hm hv => ?_, z, h2, h3⟩
      cases m with
      | zero =>
        cases hv
        exact e
      | succ m => exact h1 m v (by omega) hv
    · rw [if_neg e] at h
      cases h
      exact ⟨fun m v hm => absurd hm (Nat.not_lt_zero _), y, rfl, by simpa using e⟩
/-- what is wrong of a tuple of lo to hi integers from a to b: nothing, None, or the first wrong place -/
def verdict (lo hi : Nat) (a b : Int) (o : Option (List V)) : Option V := match o with
  | none => some .non
  | some ys => if lo ≤ ys.length ∧ ys.length ≤ hi then (firstW a b ys).map fun i => .int (i : Nat) else some .non
theorem verdict_some (lo hi : Nat) (a b : Int) (ys : List V) : verdict lo hi a b (some ys) = if lo ≤ ys.length ∧ ys.length ≤ hi then (firstW a b ys).map fun i => .int (i : Nat) else some .non := rfl
theorem verdict_good {lo hi : Nat} {a b : Int} {ys : List V} (l1 : lo ≤ ys.length) (l2 : ys.length ≤ hi) (h : ∀ y ∈ ys, intIn y a b = true) : verdict lo hi a b (some ys) = none := by
  rw [verdict_some, if_pos ⟨l1, l2⟩, firstW_none h]
  rfl
theorem verdict_none {lo hi : Nat} {a b : Int} {o : Option (List V)} (h : verdict lo hi a b o = none) : ∃ ys, o = some ys ∧ lo ≤ ys.length ∧ ys.length ≤ hi ∧ ∀ y ∈ ys, intIn y a b = true := by
  cases o with
  | none => cases h
  | some ys =>
    rw [verdict_some] at h
    by_cases l : lo ≤ ys.length ∧ ys.length ≤ hi
    · rw [if_pos l] at h
      exact ⟨ys, rfl, l.1, l.2, firstW_all (Option.map_eq_none_iff.mp h)⟩
    · rw [if_neg l] at h
      cases h

/-! ### for over a list or a tuple -/
end
end Rt
namespace L2
open PySem PySem.Spec PyProof.Rows
def iSeqA (K : PySem.W.Frag) (tl : TE) : TI := fun σ H R => iList K tl σ H R ∨ iTup K tl σ H R
theorem pi_seqA {X : Cx} {tg l : PySem.Expr} {tl : TE} (hl : PE X l tl) : PI X tg l (iSeqA X.K tl) :=
  ⟨fun pins s σ H R I h => h.elim ((pi_list hl).run pins s σ H R I) ((pi_tup hl).run pins s σ H R I)⟩
def iEnumA (K : PySem.W.Frag) (ta : TA) : TI := fun σ H R => iEnum K ta σ H R ∨ iEnumT K ta σ H R
theorem pi_enumA {X : Cx} {e : PySem.Expr} {ta : TA} {p pos tpos : Pos} {elts : List PySem.Expr} {kk : Nat} (hg : Gl X "enumerate") (hm : X.mg "enumerate" = none) (ha : PA X [e] ta) (hs : starEach [e] X.env = [(false, eval e X.env)] := by rfl) :
    PI X (.Tuple elts kk tpos) (.Call (.Name "enumerate" p) [e] [] pos) (iEnumA X.K ta) :=
  ⟨fun pins s σ H R I h => h.elim ((pi_enum hg hm ha hs).run pins s σ H R I) ((pi_enumT hg hm ha hs).run pins s σ H R I)⟩
/-- a list or a tuple stands at c -/
def SqA (H : Hp) (c : Addr) (ys : List V) : Prop := H c = some (.lst ys) ∨ H c = some (.tup ys)
theorem SqA.same {H H2 : Hp} {c : Addr} {ys : List V} (h : SqA H c ys) (S : Same H H2) : SqA H2 c ys := h.imp (S _ _) (S _ _)
theorem SqA.len {K : PySem.W.Frag} {H : Hp} {c : Addr} {ys : List V} (h : SqA H c ys) : SqL K H c ys ∨ SqT K H c ys := h.imp SqL.of SqT.of
theorem seqA_of {K : PySem.W.Frag} {i : Nat} {σ : L2.St} {H : Hp} {R : It → Hp → Prop} {c : Addr} {ys : List V} (hv : σ[i]? = some (some (.ref c))) (hc : SqA H c ys)
    (k : ∀ (J : It) (G : Hp → Prop), Walk J ys.length G (YAt ys) → (∀ H2, Same H H2 → G H2) → R J H) : iSeqA K (tVar i) σ H R := by
  rcases hc with hc | hc
  · exact .inl ⟨_, hv, c, rfl, ⟨_, SqL.of hc⟩, k _ _ walk_list fun H2 S => SqL.of (S _ _ hc)⟩
  · exact .inr ⟨_, hv, c, rfl, ⟨_, SqT.of hc⟩, k _ _ walk_tup fun H2 S => SqT.of (S _ _ hc)⟩
theorem enumA_of {K : PySem.W.Frag} {i : Nat} {σ : L2.St} {H : Hp} {R : It → Hp → Prop} {c : Addr} {ys : List V} (hv : σ[i]? = some (some (.ref c))) (hc : SqA H c ys)
    (k : ∀ (J : It) (G : Hp → Prop), Walk J ys.length G (YPair (fun i => some (.int (i : Nat))) (fun i => ys[i]?)) → (∀ H2, Same H H2 → G H2) → R J H) : iEnumA K (tCons (tVar i) tNil) σ H R := by
  rcases hc with hc | hc
  · exact .inl ⟨_, hv, c, ys, rfl, SqL.of hc, k _ _ walk_enum fun H2 S => SqL.of (S _ _ hc)⟩
  · exact .inr ⟨_, hv, c, ys, rfl, SqT.of hc, k _ _ walk_enumT fun H2 S => SqT.of (S _ _ hc)⟩
end L2
namespace Rt
open PySem L2 PySem.Spec PyProof.Rows
section
variable {P : Program} {w : World} {K : PySem.W.Frag} {mg : Str → Option Value} {base : Heap}

/-! ### the block -/
def blockOf (b t : Int) : Int := if t = 1 then b else b * b
theorem block_bd {b t : Int} (h1 : 2 ≤ b) (h2 : b ≤ 16) : 2 ≤ blockOf b t ∧ blockOf b t ≤ 256 := by
  unfold blockOf
  split
  · omega
  · have q : b * b ≤ 16 * 16 := Int.mul_le_mul h2 h2 (by omega) (by omega)
    have r : 2 * 2 ≤ b * b := Int.mul_le_mul h1 h1 (by omega) (by omega)
    omega
theorem pow_block {b t : Int} (t1 : 1 ≤ t) (t2 : t ≤ 2) : b ^ t.toNat = blockOf b t := by
  unfold blockOf
  by_cases h : t = 1
  · rw [if_pos h, h]
    exact Int.pow_succ b 0 |>.trans (by rw [Int.pow_zero, Int.one_mul])
  · have h2 : t = 2 := by omega
    rw [if_neg h, h2]
    exact Int.pow_succ b 1 |>.trans (by rw [Int.pow_succ, Int.pow_zero, Int.one_mul])

/-! ### tricks -/
def spBlockOf : Sp := fun vs H Q _ => ∃ b t : Int, vs = [.int b, .int t] ∧ 2 ≤ b ∧ b ≤ 16 ∧ Q (.int (blockOf b t)) H
theorem ok_block_of (T : Tx P K mg) : FnOk P w K mg base CX0 lv_block_of T.a_block_of T.d_block_of ["base", "take"] spBlockOf := by
  refine T.F_block_of.ok sc_block_of (fun vs H Q E h => ?_) (fun cdv A outer s H vs Q E hr h => ?_)
  · obtain ⟨b, t, rfl, _⟩ := h
    rfl
  · obtain ⟨b, t, rfl, h1, h2, k⟩ := h
    refine ⟨_, (pss_one (ps_ret (pe_ifExp (pt_cmpR op_eq (pv 1) pe_int (nomark _)) (pv 0) (pe_op op_mul (pv 0) (pv 0))))), ?_⟩
    refine ⟨_, rfl, rfl, _, rfl, ?_⟩
    refine ite2 (fun c => ?_) (fun c => ?_)
    · have c1 : t = 1 := by simpa using c
      have k2 : Q (.int b) H := by
        have e : blockOf b t = b := by unfold blockOf; rw [if_pos c1]
        rw [e] at k
        exact k
      exact ⟨_, rfl, k2⟩
    · have c1 : ¬ t = 1 := by simpa using c
      have k2 : Q (.int (b * b)) H := by
        have e : blockOf b t = b * b := by unfold blockOf; rw [if_neg c1]
        rw [e] at k
        exact k
      exact ⟨_, rfl, _, rfl, _, _, rfl, rfl, .inl ⟨by omega, by omega⟩, k2⟩

/-- a trick's attributes -/
def tf (b t m : Int) : List (Str × V) := putF "_times" (.int m) (putF "_take" (.int t) (putF "_base" (.int b) []))
theorem n1 : ¬ (("_base" : Str) = "_take") := by decide +kernel
theorem n2 : ¬ (("_base" : Str) = "_times") := by decide +kernel
theorem n3 : ¬ (("_take" : Str) = "_times") := by decide +kernel
theorem tf_eq (b t m : Int) : tf b t m = ([("_base", V.int b), ("_take", V.int t), ("_times", V.int m)] : List (Str × V)) := by
  have e2 : putF "_take" (V.int t) (putF "_base" (V.int b) []) = ([("_base", V.int b), ("_take", V.int t)] : List (Str × V)) := by
    show (if ("_base" : Str) = "_take" then [(("_base" : Str), V.int t)] else (("_base" : Str), V.int b) :: putF "_take" (V.int t) []) = _
    rw [if_neg n1]
    all_goals rfl
  unfold tf
  rw [e2]
  show (if ("_base" : Str) = "_times" then _ else (("_base" : Str), V.int b) :: (if ("_take" : Str) = "_times" then _ else (("_take" : Str), V.int t) :: putF "_times" (V.int m) [])) = _
  rw [if_neg n2, if_neg n3]
  all_goals rfl
theorem tf_base (b t m : Int) : (tf b t m).lookup ("_base" : Str) = some (.int b) := by
  unfold tf
  rw [lookup_putF, if_neg n2, lookup_putF, if_neg n1, lookup_putF, if_pos rfl]
theorem tf_take (b t m : Int) : (tf b t m).lookup ("_take" : Str) = some (.int t) := by
  unfold tf
  rw [lookup_putF, if_neg n3, lookup_putF, if_pos rfl]
theorem tf_times (b t m : Int) : (tf b t m).lookup ("_times" : Str) = some (.int m) := by
  unfold tf
  rw [lookup_putF, if_pos rfl]
/-- the Trick of these parts stands at p -/
def TrickAt (T : Tx P K mg) (H : Hp) (p : Addr) (b t m : Int) : Prop := (∃ dx, H p = some (.ins T.C_Trick dx (tf b t m))) ∧ 2 ≤ b ∧ b ≤ 16 ∧ 1 ≤ t ∧ t ≤ 2 ∧ -100 ≤ m ∧ m ≤ 100
theorem TrickAt.same {T : Tx P K mg} {H H' : Hp} {p : Addr} {b t m : Int} (h : TrickAt T H p b t m) (s : Same H H') : TrickAt T H' p b t m :=
  let ⟨⟨dx, e⟩, r⟩ := h
  ⟨⟨dx, s _ _ e⟩, r⟩
theorem TrickAt.but {T : Tx P K mg} {H H' : Hp} {p r : Addr} {b t m : Int} (h : TrickAt T H p b t m) (s : But r H H') (n : p ≠ r) : TrickAt T H' p b t m :=
  let ⟨⟨dx, e⟩, q⟩ := h
  ⟨⟨dx, s _ _ e n⟩, q⟩
theorem TrickAt.any {T : Tx P K mg} {H : Hp} {p : Addr} {b t m : Int} (h : TrickAt T H p b t m) : AnyV (OwnT T) H (.ref p) :=
  let ⟨⟨_, e⟩, _⟩ := h
  .ins (by first | exact rfl | exact Or.inl rfl) e
theorem isi_trick (T : Tx P K mg) {H : Hp} {x : V} (a : AnyV (fun _ => False) H x) : ∃ t, TyX K H x t ∧ PySem.W.kitOne K t (.ref T.C_Trick) = some false := by
  cases a with
  | non => exact ⟨_, .base .non, T.kin_Trick_NoneType⟩
  | bl b => exact ⟨_, .base (.bl b), T.kin_Trick_bool⟩
  | int i => exact ⟨_, .base (.int i), T.kin_Trick_int⟩
  | str x => exact ⟨_, .base (.str x), T.kin_Trick_str⟩
  | lst e => exact ⟨_, .base (.lst e), T.kin_Trick_list⟩
  | tup e => exact ⟨_, .base (.tup e), T.kin_Trick_tuple⟩
  | dct e => exact ⟨_, .base (.dK e), T.kin_Trick_dict⟩
  | ins t e => exact t.elim

/-- Trick(b, t, m) of good parts: a new object; nothing that stood is changed -/
def spTrickI (T : Tx P K mg) : Sp := fun vs H Q _ => ∃ (p dx : Addr) (b t m : Int), vs = [.ref p, .int b, .int t, .int m] ∧ H p = some (.ins T.C_Trick dx []) ∧ 2 ≤ b ∧ b ≤ 16 ∧ 1 ≤ t ∧ t ≤ 2 ∧ -100 ≤ m ∧ m ≤ 100 ∧
  ∀ H', TrickAt T H' p b t m → (∀ c o, H c = some o → c ≠ p → H' c = some o) → Q .non H'
theorem ok_Trick___init__ (T : Tx P K mg) : FnOk P w K mg base CX0 lv_Trick___init__ T.a_Trick___init__ T.d_Trick___init__ ["self", "base", "take", "times"] (spTrickI T) := by
  refine T.F_Trick___init__.ok sc_Trick___init__ (fun vs H Q E h => ?_) (fun cdv A outer s H vs Q E hr h => ?_)
  · obtain ⟨p, dx, b, t, m, rfl, _⟩ := h
    rfl
  · obtain ⟨p, dx, b, t, m, rfl, hp, b1, b2, t1, t2, m1, m2, k⟩ := h
    refine ⟨_, (pss_cons (ps_expr (pe_call (ok_check_base T) (hr.mono (by decide)) rfl T.g_check_base T.F_check_base.kp T.b_check_base .nil passL (pa_cons (pv 1) pa_nil)))
      (pss_cons (ps_expr (pe_call (ok_check_take T) (hr.mono (by decide)) rfl T.g_check_take T.F_check_take.kp T.b_check_take .nil passL (pa_cons (pv 2) pa_nil)))
      (pss_cons (ps_if (pt_not (pt_val (pe_call (ok_is_integer T) (hr.mono (by decide)) rfl T.g_is_integer T.F_is_integer.kp T.b_is_integer .nil pass0 (pa_cons (pv 3) (pa_cons (pe_un un_neg (pe_glob (v := .int 100) rfl T.c_GREATEST_TIMES ⟨_, rfl⟩)) (pa_cons (pe_glob (v := .int 100) rfl T.c_GREATEST_TIMES ⟨_, rfl⟩) pa_nil)))))) (pss_one ps_never) pss_nil)
      (pss_cons (ps_fld (pv 0) (pv 1) rfl)
      (pss_cons (ps_fld (pv 0) (pv 2) rfl)
      (pss_one (ps_fld (pv 0) (pv 3) rfl))))))), ?_⟩
    refine ⟨_, rfl, _, rfl, .int b, fun _ => ?_, fun z => Bool.noConfusion ((intIn_of b1 b2).symm.trans z)⟩
    refine ⟨_, rfl, _, rfl, .int t, fun _ => ?_, fun z => Bool.noConfusion ((intIn_of t1 t2).symm.trans z)⟩
    refine ⟨_, rfl, _, rfl, _, _, _, rfl, .int m, _, rfl, ?_⟩
    rw [intIn_of m1 m2]
    refine iteF ?_
    refine ⟨_, rfl, _, rfl, p, _, dx, _, rfl, hp, T.cl_Trick, T.na_Trick_base, (by show 0 < 1000; decide), ?_⟩
    refine ⟨_, rfl, _, rfl, p, _, dx, _, rfl, upd_same, T.cl_Trick, T.na_Trick_take, (by show 1 < 1000; decide), ?_⟩
    refine ⟨_, rfl, _, rfl, p, _, dx, _, rfl, upd_same, T.cl_Trick, T.na_Trick_times, (by show 2 < 1000; decide), ?_⟩
    refine k _ ⟨⟨dx, upd_same⟩, b1, b2, t1, t2, m1, m2⟩ fun c o e hc => ?_
    rw [upd_ne hc, upd_ne hc, upd_ne hc]
    exact e
/-- a Trick of good parts is made -/
theorem mk_trick {T : Tx P K mg} {H1 : Hp} {p dx : Addr} {b t m : Int} {R : Hp → Prop} {E : XK} (np : H1 p = none) (nd : H1 dx = none) (b1 : 2 ≤ b) (b2 : b ≤ 16) (t1 : 1 ≤ t) (t2 : t ≤ 2) (m1 : -100 ≤ m) (m2 : m ≤ 100)
    (k : ∀ H2, TrickAt T H2 p b t m → Same H1 H2 → R H2) : spTrickI T (.ref p :: ([.int b, .int t, .int m] ++ [])) (upd (upd H1 dx (.own p)) p (.ins T.C_Trick dx [])) (fun v H2 => v = .non ∧ R H2) E :=
  ⟨p, dx, b, t, m, rfl, upd_same, b1, b2, t1, t2, m1, m2, fun H2 hT kp => ⟨rfl, k H2 hT (Same.made np nd kp)⟩⟩

/-! ### a trick's parts, its block -/
def spGet (T : Tx P K mg) (f : Int → Int → Int → Int) : Sp := fun vs H Q _ => ∃ (p : Addr) (b t m : Int), vs = [.ref p] ∧ TrickAt T H p b t m ∧ Q (.int (f b t m)) H
theorem ok_Trick_base (T : Tx P K mg) : FnOk P w K mg base CX0 lv_Trick_base T.a_Trick_base T.d_Trick_base ["self"] (spGet T fun b _ _ => b) := by
  refine T.F_Trick_base.ok sc_Trick_base (fun vs H Q E h => ?_) (fun cdv A outer s H vs Q E hr h => ?_)
  · obtain ⟨p, b, t, m, rfl, _⟩ := h
    rfl
  · obtain ⟨p, b, t, m, rfl, ⟨⟨dx, e⟩, _⟩, k⟩ := h
    exact ⟨_, (pss_one (ps_ret (pe_fld (pv 0) rfl))), _, rfl, p, _, dx, _, _, rfl, e, T.cl_Trick, T.na_Trick_base, tf_base b t m, k⟩
theorem ok_Trick_take (T : Tx P K mg) : FnOk P w K mg base CX0 lv_Trick_take T.a_Trick_take T.d_Trick_take ["self"] (spGet T fun _ t _ => t) := by
  refine T.F_Trick_take.ok sc_Trick_take (fun vs H Q E h => ?_) (fun cdv A outer s H vs Q E hr h => ?_)
  · obtain ⟨p, b, t, m, rfl, _⟩ := h
    rfl
  · obtain ⟨p, b, t, m, rfl, ⟨⟨dx, e⟩, _⟩, k⟩ := h
    exact ⟨_, (pss_one (ps_ret (pe_fld (pv 0) rfl))), _, rfl, p, _, dx, _, _, rfl, e, T.cl_Trick, T.na_Trick_take, tf_take b t m, k⟩
theorem ok_Trick_times (T : Tx P K mg) : FnOk P w K mg base CX0 lv_Trick_times T.a_Trick_times T.d_Trick_times ["self"] (spGet T fun _ _ m => m) := by
  refine T.F_Trick_times.ok sc_Trick_times (fun vs H Q E h => ?_) (fun cdv A outer s H vs Q E hr h => ?_)
  · obtain ⟨p, b, t, m, rfl, _⟩ := h
    rfl
  · obtain ⟨p, b, t, m, rfl, ⟨⟨dx, e⟩, _⟩, k⟩ := h
    exact ⟨_, (pss_one (ps_ret (pe_fld (pv 0) rfl))), _, rfl, p, _, dx, _, _, rfl, e, T.cl_Trick, T.na_Trick_times, tf_times b t m, k⟩

theorem ok_trick_block (T : Tx P K mg) : FnOk P w K mg base CX0 lv_trick_block T.a_trick_block T.d_trick_block ["trick"] (spGet T fun b t _ => blockOf b t) := by
  refine T.F_trick_block.ok sc_trick_block (fun vs H Q E h => ?_) (fun cdv A outer s H vs Q E hr h => ?_)
  · obtain ⟨p, b, t, m, rfl, _⟩ := h
    rfl
  · obtain ⟨p, b, t, m, rfl, a, k⟩ := h
    obtain ⟨⟨dx, e⟩, b1, b2, _⟩ := id a
    exact ⟨_, (pss_one (ps_ret (pe_call (ok_block_of T) (hr.mono (by decide)) rfl T.g_block_of T.F_block_of.kp T.b_block_of .nil pass0 (pa_cons (pe_prop (pv 0) T.cl_Trick T.p_Trick_base (ok_Trick_base T) (hr.mono (by decide)) T.b_Trick_base .nil pass0 rfl) (pa_cons (pe_prop (pv 0) T.cl_Trick T.p_Trick_take (ok_Trick_take T) (hr.mono (by decide)) T.b_Trick_take .nil pass0 rfl) pa_nil))))), _, rfl, p, dx, _, rfl, e, p, b, t, m, rfl, a, _, rfl, p, dx, _, rfl, e, p, b, t, m, rfl, a, b, t, rfl, b1, b2, k⟩

/-- what is a Trick, or the error -/
def isTrick (T : Tx P K mg) (H : Hp) (x : V) : Prop := ∃ p b t m, x = .ref p ∧ TrickAt T H p b t m
def spChkTrick (T : Tx P K mg) : Sp := fun vs H Q E => ∃ x : V, vs = [x] ∧ ((∃ p dx fs, x = .ref p ∧ H p = some (.ins T.C_Trick dx fs) ∧ Q .non H) ∨ (AnyV (fun _ => False) H x ∧ E (.ref T.C_BadTrick) none H))
theorem ok_check_trick (T : Tx P K mg) : FnOk P w K mg base (L2.CX P w) lv_check_trick T.a_check_trick T.d_check_trick ["trick"] (spChkTrick T) := by
  refine T.F_check_trick.okX sc_check_trick (fun vs H Q E h => ?_) (fun cdv A outer s H vs Q E hr h => ?_)
  · obtain ⟨x, rfl, _⟩ := h
    rfl
  · obtain ⟨x, rfl, h⟩ := h
    refine ⟨_, (pss_one (ps_if (pt_not (pt_val (pe_callB call_isi (by rfl) T.n_isinstance (by decide +kernel) (pa_cons (pv 0) (pa_cons (pe_glob (v := .ref T.C_Trick) rfl T.g_Trick rfl) pa_nil))))) (pss_one (ps_raise rfl (takes_of rfl rfl rfl rfl) (pmk_own PySem.F.excBase_ValueError T.x_BadTrick T.g_BadTrick T.k_BadTrick (raises_own T.s_BadTrick T.t_BadTrick) rfl))) pss_nil)), ?_⟩
    rcases h with ⟨p, dx, fs, rfl, e, k⟩ | ⟨a, k⟩
    · exact ⟨_, rfl, _, _, _, _, _, rfl, .own _, .base (T.ins_Trick _ _ _ _ e), T.kis_Trick, _, rfl, iteF k⟩
    · obtain ⟨t, ty, e⟩ := isi_trick T a
      exact ⟨_, rfl, _, _, _, _, _, rfl, .own _, ty, e, _, rfl, iteT k⟩

/-! ### what a trick makes; the stretch behind which all comes again -/
def made (b t m n : Int) : Int := n / blockOf b t + m * n.fmod (blockOf b t)
def spMadeW (K : PySem.W.Frag) : Sp := fun vs H Q _ => ∃ B m n : Int, vs = [.int B, .int m, .int n] ∧ 2 ≤ B ∧ B ≤ 256 ∧ -100 ≤ m ∧ m ≤ 100 ∧ Q (.int (n / B + m * n.fmod B)) H
theorem ok_made_with (T : Tx P K mg) : FnOk P w K mg base CX0 lv_made_with T.a_made_with T.d_made_with ["block", "times", "n"] (spMadeW K) := by
  refine T.F_made_with.ok sc_made_with (fun vs H Q E h => ?_) (fun cdv A outer s H vs Q E hr h => ?_)
  · obtain ⟨B, m, n, rfl, _⟩ := h
    rfl
  · obtain ⟨B, m, n, rfl, B1, B2, m1, m2, k⟩ := h
    refine ⟨_, (pss_one (ps_ret (pe_op op_add (pe_op op_fdivW (pv 2) (pv 0)) (pe_op op_mul (pv 1) (pe_op op_modN (pv 2) (pv 0)))))), ?_⟩
    refine ⟨_, rfl, _, rfl, _, _, rfl, rfl, wide_div (show 0 < B by omega) (b := 9) (show B.natAbs < 2 ^ 9 by omega) (by decide) (by decide), ?_⟩
    exact ⟨_, rfl, _, rfl, _, rfl, _, _, rfl, rfl, (show B ≠ 0 by omega), _, _, rfl, rfl, .inl (show -(2 ^ 64) < m ∧ m < 2 ^ 64 from ⟨by omega, by omega⟩), _, _, rfl, rfl, k⟩
def spMade (T : Tx P K mg) : Sp := fun vs H Q _ => ∃ (p : Addr) (b t m n : Int), vs = [.ref p, .int n] ∧ TrickAt T H p b t m ∧ Q (.int (made b t m n)) H
theorem ok_made_of (T : Tx P K mg) : FnOk P w K mg base CX0 lv_made_of T.a_made_of T.d_made_of ["trick", "n"] (spMade T) := by
  refine T.F_made_of.ok sc_made_of (fun vs H Q E h => ?_) (fun cdv A outer s H vs Q E hr h => ?_)
  · obtain ⟨p, b, t, m, n, rfl, _⟩ := h
    rfl
  · obtain ⟨p, b, t, m, n, rfl, a, k⟩ := h
    obtain ⟨⟨dx, e⟩, b1, b2, t1, t2, m1, m2⟩ := id a
    obtain ⟨B1, B2⟩ := block_bd (t := t) b1 b2
    refine ⟨_, (pss_one (ps_ret (pe_call (ok_made_with T) (hr.mono (by decide)) rfl T.g_made_with T.F_made_with.kp T.b_made_with .nil pass0 (pa_cons (pe_call (ok_trick_block T) (hr.mono (by decide)) rfl T.g_trick_block T.F_trick_block.kp T.b_trick_block .nil pass0 (pa_cons (pv 0) pa_nil)) (pa_cons (pe_prop (pv 0) T.cl_Trick T.p_Trick_times (ok_Trick_times T) (hr.mono (by decide)) T.b_Trick_times .nil pass0 rfl) (pa_cons (pv 1) pa_nil)))))), ?_⟩
    refine ⟨_, rfl, p, b, t, m, rfl, a, ?_⟩
    refine ⟨_, rfl, p, dx, _, rfl, e, p, b, t, m, rfl, a, ?_⟩
    exact ⟨_, rfl, _, _, _, rfl, by omega, by omega, m1, m2, k⟩

/-! ### chains of tricks -/
abbrev Prt : Type := Int × Int × Int
/-- the values are tricks of these parts -/
def Trs (T : Tx P K mg) (H : Hp) : List V → List Prt → Prop
  | [], [] => True
  | v :: vs, z :: l => (∃ p, v = .ref p ∧ TrickAt T H p z.1 z.2.1 z.2.2) ∧ Trs T H vs l
  | _, _ => False
theorem Trs.of {T : Tx P K mg} {H H' : Hp} (e : ∀ p b t m, TrickAt T H p b t m → TrickAt T H' p b t m) : ∀ {vs : List V} {l : List Prt}, Trs T H vs l → Trs T H' vs l
  | [], [], _ => trivial
  | _ :: _, _ :: _, ⟨⟨q, h1, h2⟩, h3⟩ => ⟨⟨q, h1, e _ _ _ _ h2⟩, h3.of e⟩
  | [], _ :: _, h => h.elim
  | _ :: _, [], h => h.elim
theorem Trs.same {T : Tx P K mg} {H H' : Hp} {vs : List V} {l : List Prt} (h : Trs T H vs l) (S : Same H H') : Trs T H' vs l := h.of fun _ _ _ _ e => e.same S
theorem Trs.but {T : Tx P K mg} {H H' : Hp} {r : Addr} {ys : List V} {vs : List V} {l : List Prt} (h : Trs T H vs l) (hr : H r = some (.lst ys)) (B : But r H H') : Trs T H' vs l :=
  h.of fun p _ _ _ e => e.but B fun z => by
    obtain ⟨⟨dx, e1⟩, _⟩ := e
    rw [z, hr] at e1
    cases e1
theorem Trs.len {T : Tx P K mg} {H : Hp} : ∀ {vs : List V} {l : List Prt}, Trs T H vs l → vs.length = l.length
  | [], [], _ => rfl
  | _ :: _, _ :: _, ⟨_, h3⟩ => congrArg Nat.succ h3.len
  | [], _ :: _, h => h.elim
  | _ :: _, [], h => h.elim
theorem Trs.at {T : Tx P K mg} {H : Hp} : ∀ {vs : List V} {l : List Prt}, Trs T H vs l → ∀ {i : Nat} {y : V}, vs[i]? = some y → ∃ p z, y = .ref p ∧ l[i]? = some z ∧ TrickAt T H p z.1 z.2.1 z.2.2
  | [], [], _, i, y, h => by cases h
  | _ :: _, z :: _, ⟨⟨q, h1, h2⟩, _⟩, 0, y, h => by
    cases h
    exact ⟨q, z, h1, rfl, h2⟩
  | _ :: _, _ :: _, ⟨_, h3⟩, i + 1, y, h => h3.at (i := i) h
  | [], _ :: _, h, _, _, _ => h.elim
  | _ :: _, [], h, _, _, _ => h.elim
theorem Trs.snoc {T : Tx P K mg} {H : Hp} {q : Addr} {z : Prt} (hq : TrickAt T H q z.1 z.2.1 z.2.2) : ∀ {vs : List V} {l : List Prt}, Trs T H vs l → Trs T H (vs ++ [.ref q]) (l ++ [z])
  | [], [], _ => ⟨⟨q, rfl, hq⟩, trivial⟩
  | _ :: _, _ :: _, ⟨h1, h3⟩ => ⟨h1, h3.snoc hq⟩
  | [], _ :: _, h => h.elim
  | _ :: _, [], h => h.elim
theorem Trs.take {T : Tx P K mg} {H : Hp} : ∀ {vs : List V} {l : List Prt} (k : Nat), Trs T H vs l → Trs T H (vs.take k) (l.take k)
  | [], [], k, _ => by rw [List.take_nil, List.take_nil]; trivial
  | _ :: _, _ :: _, 0, _ => trivial
  | _ :: _, _ :: _, k + 1, ⟨h1, h3⟩ => ⟨h1, h3.take k⟩
  | [], _ :: _, _, h => h.elim
  | _ :: _, [], _, h => h.elim
/-- is a Trick -/
def isT (T : Tx P K mg) (H : Hp) (y : V) : Prop := ∃ p dx fs, y = .ref p ∧ H p = some (.ins T.C_Trick dx fs)
theorem isT.same {T : Tx P K mg} {H H' : Hp} {y : V} (h : isT T H y) (S : Same H H') : isT T H' y :=
  let ⟨p, dx, fs, e, hp⟩ := h
  ⟨p, dx, fs, e, S _ _ hp⟩
theorem Trs.isT {T : Tx P K mg} {H : Hp} {vs : List V} {l : List Prt} (h : Trs T H vs l) {i : Nat} {y : V} (hy : vs[i]? = some y) : isT T H y := by
  obtain ⟨p, z, e, _, ⟨dx, hp⟩, _⟩ := h.at hy
  exact ⟨p, dx, _, e, hp⟩
def errN (T : Tx P K mg) (E : XK) (C : Addr) (f : Str) (H : Hp) (v : V) : Prop := ∀ H2 d, Same H H2 → H2 d = none → E (.ref C) (some d) (upd H2 d (.xd [(f, v)]))
theorem take_snoc {α : Type} {l : List α} {i : Nat} {z : α} (h : l[i]? = some z) : l.take (i + 1) = l.take i ++ [z] := by
  obtain ⟨hi, e⟩ := List.getElem?_eq_some_iff.mp h
  rw [List.take_succ, h]
  rfl

/-! ### reckoners -/
def rf (u v : V) : List (Str × V) := putF "_tricks" v (putF "_numbers" u [])
theorem rn1 : ¬ (("_numbers" : Str) = "_tricks") := by decide +kernel
theorem rf_numbers (u v : V) : (rf u v).lookup ("_numbers" : Str) = some u := by
  unfold rf
  rw [lookup_putF, if_neg rn1, lookup_putF, if_pos rfl]
theorem rf_tricks (u v : V) : (rf u v).lookup ("_tricks" : Str) = some v := by
  unfold rf
  rw [lookup_putF, if_pos rfl]
theorem rf_no (u v : V) {m : Str} (h1 : ¬ m = ("_numbers" : Str)) (h2 : ¬ m = ("_tricks" : Str)) : (rf u v).lookup m = none := by
  unfold rf
  rw [lookup_putF, if_neg h2, lookup_putF, if_neg h1]
  rfl
theorem rf_put1 (u v u' : V) : putF "_numbers" u' (rf u v) = rf u' v := by rfl
theorem rf_put2 (u v v' : V) : putF "_tricks" v' (rf u v) = rf u v' := by rfl
/-- Reckoner(n) -/
def sp_Reckoner___init__ (T : Tx P K mg) : Sp := fun vs H Q E => ∃ (p dx : Addr) (x : V), vs = [.ref p, x] ∧ H p = some (.ins T.C_Reckoner dx []) ∧ AnyV (OwnT T) H x ∧
  (intIn x (-(10 ^ 40)) (10 ^ 40) = false → ∀ d, H d = none → E (.ref T.C_BadNumber) (some d) (upd H d (.xd [(("n" : Str), x)]))) ∧
  ∀ (n : Int) (H' : Hp) (l1 l2 : Addr), x = .int n → -(10 ^ 40) ≤ n → n ≤ 10 ^ 40 → H' p = some (.ins T.C_Reckoner dx (rf (.ref l1) (.ref l2))) → H' l1 = some (.lst [.int n]) → H' l2 = some (.lst []) → H l1 = none → H l2 = none → l1 ≠ l2 → (∀ c o, H c = some o → c ≠ p → H' c = some o) → Q .non H'
theorem ok_Reckoner___init__ (T : Tx P K mg) : FnOk P w K mg base (L2.CX P w) lv_Reckoner___init__ T.a_Reckoner___init__ T.d_Reckoner___init__ ["self", "n"] (sp_Reckoner___init__ T) := by
  refine T.F_Reckoner___init__.okX sc_Reckoner___init__ (fun vs H Q E h => ?_) (fun cdv A outer s H vs Q E hr h => ?_)
  · obtain ⟨p, dx, x, rfl, _⟩ := h
    rfl
  · obtain ⟨p, dx, x, rfl, hp, ax, e, k⟩ := h
    refine ⟨_, (pss_cons (ps_expr (pe_call (ok_check_number T) (hr.mono (by decide)) rfl T.g_check_number T.F_check_number.kp T.b_check_number .nil (passes_call (takes_of rfl rfl rfl rfl) fun _ _ _ _ h => h) (pa_cons (pv 1) pa_nil)))
      (pss_cons (ps_fld (pv 0) (pe_lst (pa_cons (pv 1) pa_nil)) rfl)
      (pss_one (ps_fld (pv 0) (pe_lst pa_nil) rfl)))), ?_⟩
    refine ⟨_, rfl, x, rfl, ax, fun g => ?_, e⟩
    obtain ⟨n, rfl, n1, n2⟩ := intIn_int' g
    refine ⟨_, rfl, by show 1 ≤ sizeLine; decide, fun l1 h1 => ?_⟩
    have np1 : p ≠ l1 := ne_of_none hp h1
    refine ⟨_, rfl, p, _, dx, _, rfl, same_upd h1 _ _ hp, T.cl_Reckoner, T.na_Reckoner_numbers, (by show 0 < 1000; decide), ?_⟩
    refine ⟨by show 0 ≤ sizeLine; decide, fun l2 h2 => ?_⟩
    have np2 : p ≠ l2 := fun z => by rw [← z, upd_same] at h2; cases h2
    have n12 : l1 ≠ l2 := fun z => by rw [← z, upd_ne np1.symm, upd_same] at h2; cases h2
    refine ⟨_, rfl, p, _, dx, _, rfl, same_upd h2 _ _ upd_same, T.cl_Reckoner, T.na_Reckoner_tricks, (by show 1 < 1000; decide), ?_⟩
    refine k n _ l1 l2 rfl n1 n2 upd_same ?_ ?_ h1 ?_ n12 ?_
    · rw [upd_ne np1.symm, upd_ne n12, upd_ne np1.symm, upd_same]
    · rw [upd_ne np2.symm, upd_same]
    · rw [upd_ne np2.symm, upd_ne n12.symm] at h2
      exact h2
    · intro c o e hc
      have c1 : c ≠ l1 := ne_of_none e h1
      have c2 : c ≠ l2 := fun z => by rw [← z, upd_ne hc, upd_ne c1, e] at h2; cases h2
      rw [upd_ne hc, upd_ne c2, upd_ne hc, upd_ne c1]
      exact e
/-- a reckoner: its two lists -/
structure ReckAt (T : Tx P K mg) (H : Hp) (p l1 l2 : Addr) (ns : List Int) (ts : List V) (qs : List Prt) : Prop where
  ob : ∃ dx, H p = some (.ins T.C_Reckoner dx (rf (.ref l1) (.ref l2)))
  nums : H l1 = some (.lst (ns.map V.int))
  tris : H l2 = some (.lst ts)
  trs : Trs T H ts qs
  ne : l1 ≠ l2
  len : ns.length ≤ 100 ∧ ts.length ≤ 100
/-- two lists may be changed -/
def But2 (l1 l2 : Addr) (H H' : Hp) : Prop := ∀ c o, H c = some o → c ≠ l1 → c ≠ l2 → H' c = some o
theorem But2.rd {l1 l2 c : Addr} {H H' : Hp} {o : HO} {xs ys : List V} (B : But2 l1 l2 H H') (h1 : H l1 = some (.lst xs)) (h2 : H l2 = some (.lst ys)) (e : H c = some o) (no : ∀ zs, o ≠ .lst zs) : H' c = some o :=
  B c o e (fun z => by rw [z, h1] at e; cases e; exact no _ rfl) (fun z => by rw [z, h2] at e; cases e; exact no _ rfl)
theorem ReckAt.same {T : Tx P K mg} {H H' : Hp} {p l1 l2 : Addr} {ns : List Int} {ts : List V} {qs : List Prt} (h : ReckAt T H p l1 l2 ns ts qs) (S : Same H H') : ReckAt T H' p l1 l2 ns ts qs :=
  ⟨h.ob.imp fun _ e => S _ _ e, S _ _ h.nums, S _ _ h.tris, h.trs.same S, h.ne, h.len⟩
theorem TrickAt.but2 {T : Tx P K mg} {H H' : Hp} {l1 l2 q : Addr} {b t m : Int} {xs ys : List V} (h : TrickAt T H q b t m) (B : But2 l1 l2 H H') (h1 : H l1 = some (.lst xs)) (h2 : H l2 = some (.lst ys)) : TrickAt T H' q b t m :=
  let ⟨⟨dx, e⟩, r⟩ := h
  ⟨⟨dx, B.rd h1 h2 e fun _ z => nomatch z⟩, r⟩
theorem at_last (xs : List V) (z : V) : atI (xs ++ [z]) (-1) = some z := by
  unfold atI ixN
  rw [if_neg (by decide), List.length_append, List.length_singleton]
  rw [if_pos (by omega)]
  show (xs ++ [z])[(((xs.length + 1 : Nat) : Int) + -1).toNat]? = some z
  rw [show (((xs.length + 1 : Nat) : Int) + -1).toNat = xs.length by omega, List.getElem?_append_right (Nat.le_refl _), Nat.sub_self]
  rfl
def spNow (T : Tx P K mg) : Sp := fun vs H Q _ => ∃ (p l1 l2 : Addr) (ns : List Int) (n : Int) (ts : List V) (qs : List Prt), vs = [.ref p] ∧ ReckAt T H p l1 l2 (ns ++ [n]) ts qs ∧ Q (.int n) H
theorem ok_Reckoner_now (T : Tx P K mg) : FnOk P w K mg base CX0 lv_Reckoner_now T.a_Reckoner_now T.d_Reckoner_now ["self"] (spNow T) := by
  refine T.F_Reckoner_now.ok sc_Reckoner_now (fun vs H Q E h => ?_) (fun cdv A outer s H vs Q E hr h => ?_)
  · obtain ⟨p, l1, l2, ns, n, ts, qs, rfl, _⟩ := h
    rfl
  · obtain ⟨p, l1, l2, ns, n, ts, qs, rfl, R, k⟩ := h
    obtain ⟨dx, ep⟩ := R.ob
    refine ⟨_, (pss_one (ps_ret (pe_ix ix_list (pe_fld (pv 0) rfl) (pe_un un_neg pe_int) (fun _ _ => rfl)))), ?_⟩
    refine ⟨_, rfl, p, _, dx, _, _, rfl, ep, T.cl_Reckoner, T.na_Reckoner_numbers, rf_numbers _ _, _, rfl, l1, _, _, _, rfl, rfl, SqL.of R.nums, ?_, k⟩
    rw [List.map_append]
    exact at_last _ _
def spTris (T : Tx P K mg) : Sp := fun vs H Q _ => ∃ (p l1 l2 : Addr) (ns : List Int) (ts : List V) (qs : List Prt), vs = [.ref p] ∧ ReckAt T H p l1 l2 ns ts qs ∧ ∀ c H', Same H H' → H' c = some (.tup ts) → Q (.ref c) H'
theorem ok_Reckoner_tricks (T : Tx P K mg) : FnOk P w K mg base CX0 lv_Reckoner_tricks T.a_Reckoner_tricks T.d_Reckoner_tricks ["self"] (spTris T) := by
  refine T.F_Reckoner_tricks.ok sc_Reckoner_tricks (fun vs H Q E h => ?_) (fun cdv A outer s H vs Q E hr h => ?_)
  · obtain ⟨p, l1, l2, ns, ts, qs, rfl, _⟩ := h
    rfl
  · obtain ⟨p, l1, l2, ns, ts, qs, rfl, R, k⟩ := h
    obtain ⟨dx, ep⟩ := R.ob
    refine ⟨_, (pss_one (ps_ret (pe_callTy call_tuple_of (by rfl) T.n_tuple (by decide +kernel) (pa_cons (pe_fld (pv 0) rfl) pa_nil)))), ?_⟩
    refine ⟨_, rfl, p, _, dx, _, _, rfl, ep, T.cl_Reckoner, T.na_Reckoner_tricks, rf_tricks _ _, _, ts, rfl, .inl ⟨SqL.of R.tris, fun l hl => k l _ (same_upd hl) upd_same⟩⟩
def spLen (T : Tx P K mg) : Sp := fun vs H Q _ => ∃ (p l1 l2 : Addr) (ns : List Int) (ts : List V) (qs : List Prt), vs = [.ref p] ∧ ReckAt T H p l1 l2 ns ts qs ∧ Q (.int ts.length) H
theorem ok_Reckoner___len__ (T : Tx P K mg) : FnOk P w K mg base CX0 lv_Reckoner___len__ T.a_Reckoner___len__ T.d_Reckoner___len__ ["self"] (spLen T) := by
  refine T.F_Reckoner___len__.ok sc_Reckoner___len__ (fun vs H Q E h => ?_) (fun cdv A outer s H vs Q E hr h => ?_)
  · obtain ⟨p, l1, l2, ns, ts, qs, rfl, _⟩ := h
    rfl
  · obtain ⟨p, l1, l2, ns, ts, qs, rfl, R, k⟩ := h
    obtain ⟨dx, ep⟩ := R.ob
    refine ⟨_, (pss_one (ps_ret (pe_callB call_len_seq (by rfl) T.n_len (by decide +kernel) (pa_cons (pe_fld (pv 0) rfl) pa_nil)))), ?_⟩
    refine ⟨_, rfl, p, _, dx, _, _, rfl, ep, T.cl_Reckoner, T.na_Reckoner_tricks, rf_tricks _ _, _, _, rfl, .inl (SqL.of R.tris), k⟩
def spStep (T : Tx P K mg) : Sp := fun vs H Q E => ∃ (p : Addr) (x : V), vs = [.ref p, x] ∧ ((AnyV (fun _ => False) H x ∧ E (.ref T.C_BadTrick) none H) ∨
  ∃ (q : Addr) (b t m : Int) (l1 l2 : Addr) (ns : List Int) (n : Int) (ts : List V) (qs : List Prt), x = .ref q ∧ TrickAt T H q b t m ∧ ReckAt T H p l1 l2 (ns ++ [n]) ts qs ∧ ns.length + 1 < 100 ∧ ts.length < 100 ∧
    ∀ H', ReckAt T H' p l1 l2 (ns ++ [n] ++ [made b t m n]) (ts ++ [x]) (qs ++ [(b, t, m)]) → But2 l1 l2 H H' → Q (.int (made b t m n)) H')
theorem ok_Reckoner_step (T : Tx P K mg) : FnOk P w K mg base (L2.CX P w) lv_Reckoner_step T.a_Reckoner_step T.d_Reckoner_step ["self", "trick"] (spStep T) := by
  refine T.F_Reckoner_step.okX sc_Reckoner_step (fun vs H Q E h => ?_) (fun cdv A outer s H vs Q E hr h => ?_)
  · obtain ⟨p, x, rfl, _⟩ := h
    rfl
  · obtain ⟨p, x, rfl, h⟩ := h
    refine ⟨_, (pss_cons (ps_expr (pe_call (ok_check_trick T) (hr.mono (by decide)) rfl T.g_check_trick T.F_check_trick.kp T.b_check_trick .nil (passes_call (takes_of rfl rfl rfl rfl) fun _ _ _ _ h => h) (pa_cons (pv 1) pa_nil)))
      (pss_cons (ps_set (i := 2) sc_Reckoner_step.nd rfl (Or.inl rfl) (pe_call (ok_made_of T) (hr.mono (by decide)) rfl T.g_made_of T.F_made_of.kp T.b_made_of .nil pass0 (pa_cons (pv 1) (pa_cons (pe_prop (pv 0) T.cl_Reckoner T.p_Reckoner_now (ok_Reckoner_now T) (hr.mono (by decide)) T.b_Reckoner_now .nil pass0 rfl) pa_nil))))
      (pss_cons (ps_expr (pe_bm PySem.F.plainAttrs_list PySem.F.slot_list_append PySem.F.type_list_append mt_append (pe_fld (pv 0) rfl) (pa_cons (pv 2) pa_nil)))
      (pss_cons (ps_expr (pe_bm PySem.F.plainAttrs_list PySem.F.slot_list_append PySem.F.type_list_append mt_append (pe_fld (pv 0) rfl) (pa_cons (pv 1) pa_nil)))
      (pss_one (ps_ret (pv 2))))))), ?_⟩
    rcases h with ⟨a, k⟩ | ⟨q, b, t, m, l1, l2, ns, n, ts, qs, rfl, hq, R, z1, z2, k⟩
    · exact ⟨_, rfl, _, rfl, .inr ⟨a, k⟩⟩
    · obtain ⟨dx, ep⟩ := R.ob
      obtain ⟨⟨dt, eq⟩, _⟩ := id hq
      refine ⟨_, rfl, _, rfl, .inl ⟨q, dt, _, rfl, eq, ?_⟩⟩
      refine ⟨_, rfl, _, rfl, p, dx, _, rfl, ep, p, l1, l2, ns, n, ts, qs, rfl, R, q, b, t, m, n, rfl, hq, ?_⟩
      have np1 : p ≠ l1 := fun z => by rw [z, R.nums] at ep; cases ep
      have np2 : p ≠ l2 := fun z => by rw [z, R.tris] at ep; cases ep
      refine ⟨_, rfl, p, _, dx, _, _, rfl, ep, T.cl_Reckoner, T.na_Reckoner_numbers, rf_numbers _ _, .inl ⟨rfl, _, SqL.of R.nums⟩, _, rfl, l1, _, _, rfl, rfl, R.nums, small1000 (by rw [List.length_map, List.length_append, List.length_singleton]; omega), ?_⟩
      have e2 : (upd H l1 (.lst ((ns ++ [n]).map V.int ++ [V.int (made b t m n)]))) p = some (.ins T.C_Reckoner dx (rf (.ref l1) (.ref l2))) := by rw [upd_ne np1]; exact ep
      have t2 : (upd H l1 (.lst ((ns ++ [n]).map V.int ++ [V.int (made b t m n)]))) l2 = some (.lst ts) := by rw [upd_ne R.ne.symm]; exact R.tris
      refine ⟨_, rfl, p, _, dx, _, _, rfl, e2, T.cl_Reckoner, T.na_Reckoner_tricks, rf_tricks _ _, .inl ⟨rfl, _, SqL.of t2⟩, _, rfl, l2, _, _, rfl, rfl, t2, small1000 (by omega), ?_⟩
      have B : But2 l1 l2 H (upd (upd H l1 (.lst ((ns ++ [n]).map V.int ++ [V.int (made b t m n)]))) l2 (.lst (ts ++ [V.ref q]))) := fun c o e c1 c2 => by
        rw [upd_ne c2, upd_ne c1]
        exact e
      have kT : ∀ q' b' t' m', TrickAt T H q' b' t' m' → TrickAt T (upd (upd H l1 (.lst ((ns ++ [n]).map V.int ++ [V.int (made b t m n)]))) l2 (.lst (ts ++ [V.ref q]))) q' b' t' m' := fun q' b' t' m' h => h.but2 B R.nums R.tris
      refine ⟨_, rfl, k _ ⟨⟨dx, B.rd R.nums R.tris ep (fun _ z => nomatch z)⟩, ?_, upd_same, ?_, R.ne, ?_⟩ B⟩
      · rw [upd_ne R.ne, upd_same, List.map_append (l₁ := ns ++ [n])]
        rfl
      · exact (R.trs.of kT).snoc (z := (b, t, m)) (kT _ _ _ _ hq)
      · rw [List.length_append, List.length_append, List.length_append]
        exact ⟨by show ns.length + 1 + 1 ≤ 100; omega, by show ts.length + 1 ≤ 100; omega⟩
def spUndo (T : Tx P K mg) : Sp := fun vs H Q _ => ∃ (p l1 l2 : Addr) (ns : List Int) (ts : List V) (qs : List Prt), vs = [.ref p] ∧ ReckAt T H p l1 l2 ns ts qs ∧ ns.length = ts.length + 1 ∧ (ts = [] → Q (.bl false) H) ∧
  (ts ≠ [] → ∀ H', ReckAt T H' p l1 l2 ns.dropLast ts.dropLast qs.dropLast → But2 l1 l2 H H' → Q (.bl true) H')
theorem ok_Reckoner_undo (T : Tx P K mg) : FnOk P w K mg base CX0 lv_Reckoner_undo T.a_Reckoner_undo T.d_Reckoner_undo ["self"] (spUndo T) := by
  refine T.F_Reckoner_undo.ok sc_Reckoner_undo (fun vs H Q E h => ?_) (fun cdv A outer s H vs Q E hr h => ?_)
  · obtain ⟨p, l1, l2, ns, ts, qs, rfl, _⟩ := h
    rfl
  · obtain ⟨p, l1, l2, ns, ts, qs, rfl, R, ln, k0, k⟩ := h
    obtain ⟨dx, ep⟩ := R.ob
    refine ⟨_, (pss_cons (ps_if (pt_not (pt_truth (pe_fld (pv 0) rfl) (by intro _; rfl))) (pss_one (ps_ret pe_bl)) pss_nil)
      (pss_cons (ps_expr (pe_bm0 PySem.F.plainAttrs_list PySem.F.slot_list_pop PySem.F.type_list_pop mt_pop (pe_fld (pv 0) rfl)))
      (pss_cons (ps_expr (pe_bm0 PySem.F.plainAttrs_list PySem.F.slot_list_pop PySem.F.type_list_pop mt_pop (pe_fld (pv 0) rfl)))
      (pss_one (ps_ret pe_bl))))), ?_⟩
    refine ⟨_, rfl, p, _, dx, _, _, rfl, ep, T.cl_Reckoner, T.na_Reckoner_tricks, rf_tricks _ _, !ts.isEmpty, .inl ⟨ts, SqL.of R.tris, rfl⟩, ?_⟩
    have np1 : p ≠ l1 := fun z => by rw [z, R.nums] at ep; cases ep
    have np2 : p ≠ l2 := fun z => by rw [z, R.tris] at ep; cases ep
    by_cases hts : ts = []
    · have e : (!(!ts.isEmpty)) = true := by rw [hts]; rfl
      show if (!(!ts.isEmpty)) = true then _ else _
      rw [if_pos e]
      exact k0 hts
    · have l0 : 0 < ts.length := List.length_pos_iff.mpr hts
      have e : ¬ (!(!ts.isEmpty)) = true := by
        cases ts with
        | nil => exact absurd rfl hts
        | cons => exact Bool.false_ne_true
      show if (!(!ts.isEmpty)) = true then _ else _
      rw [if_neg e]
      have y1 : (ns.map V.int)[(ns.map V.int).length - 1]? = some ((ns.map V.int)[(ns.map V.int).length - 1]'(by rw [List.length_map]; omega)) := List.getElem?_eq_getElem _
      have y2 : ts[ts.length - 1]? = some (ts[ts.length - 1]'(by omega)) := List.getElem?_eq_getElem _
      refine ⟨_, rfl, p, _, dx, _, _, rfl, ep, T.cl_Reckoner, T.na_Reckoner_numbers, rf_numbers _ _, .inl ⟨rfl, _, SqL.of R.nums⟩, l1, _, _, rfl, rfl, R.nums, y1, ?_⟩
      have e2 : (upd H l1 (.lst (ns.map V.int).dropLast)) p = some (.ins T.C_Reckoner dx (rf (.ref l1) (.ref l2))) := by rw [upd_ne np1]; exact ep
      have t2 : (upd H l1 (.lst (ns.map V.int).dropLast)) l2 = some (.lst ts) := by rw [upd_ne R.ne.symm]; exact R.tris
      refine ⟨_, rfl, p, _, dx, _, _, rfl, e2, T.cl_Reckoner, T.na_Reckoner_tricks, rf_tricks _ _, .inl ⟨rfl, _, SqL.of t2⟩, l2, _, _, rfl, rfl, t2, y2, ?_⟩
      have B : But2 l1 l2 H (upd (upd H l1 (.lst (ns.map V.int).dropLast)) l2 (.lst ts.dropLast)) := fun c o e c1 c2 => by
        rw [upd_ne c2, upd_ne c1]
        exact e
      refine k hts _ ⟨⟨dx, B.rd R.nums R.tris ep (fun _ z => nomatch z)⟩, ?_, upd_same, ?_, R.ne, ?_⟩ B
      · rw [upd_ne R.ne, upd_same, List.map_dropLast]
      · have tk := R.trs.take (ts.length - 1)
        rw [show ts.take (ts.length - 1) = ts.dropLast from List.dropLast_eq_take.symm, show qs.take (ts.length - 1) = qs.dropLast by rw [R.trs.len]; exact List.dropLast_eq_take.symm] at tk
        exact tk.of fun q' b' t' m' h => h.but2 B R.nums R.tris
      · have := R.len
        rw [List.length_dropLast, List.length_dropLast]
        omega
def spCopy (T : Tx P K mg) : Sp := fun vs H Q _ => ∃ (p l1 l2 : Addr) (n : Int) (ns : List Int) (ts : List V) (qs : List Prt), vs = [.ref p] ∧ ReckAt T H p l1 l2 (n :: ns) ts qs ∧ -(10 ^ 40) ≤ n ∧ n ≤ 10 ^ 40 ∧
  ∀ (H' : Hp) (p' l1' l2' : Addr), Same H H' → ReckAt T H' p' l1' l2' (n :: ns) ts qs → H l1' = none → H l2' = none → H p' = none → Q (.ref p') H'
theorem ok_Reckoner_copy (T : Tx P K mg) : FnOk P w K mg base CX0 lv_Reckoner_copy T.a_Reckoner_copy T.d_Reckoner_copy ["self"] (spCopy T) := by
  refine T.F_Reckoner_copy.ok sc_Reckoner_copy (fun vs H Q E h => ?_) (fun cdv A outer s H vs Q E hr h => ?_)
  · obtain ⟨p, l1, l2, n, ns, ts, qs, rfl, _⟩ := h
    rfl
  · obtain ⟨p, l1, l2, n, ns, ts, qs, rfl, R, n1, n2, k⟩ := h
    obtain ⟨dx, ep⟩ := R.ob
    refine ⟨_, (pss_cons (ps_set (i := 1) sc_Reckoner_copy.nd rfl (Or.inl rfl) (pe_make T.mk_Reckoner (ok_Reckoner___init__ T) (hr.mono (by decide)) rfl T.g_Reckoner T.b_Reckoner___init__ .nil passL (pa_cons (pe_ix ix_list (pe_fld (pv 0) rfl) pe_int (fun _ _ => rfl)) pa_nil)))
      (pss_cons (ps_fld (pv 1) (pe_callTy call_list_of (by rfl) T.n_list (by decide +kernel) (pa_cons (pe_fld (pv 0) rfl) pa_nil)) rfl)
      (pss_cons (ps_fld (pv 1) (pe_callTy call_list_of (by rfl) T.n_list (by decide +kernel) (pa_cons (pe_fld (pv 0) rfl) pa_nil)) rfl)
      (pss_one (ps_ret (pv 1)))))), ?_⟩
    refine ⟨_, rfl, p, _, dx, _, _, rfl, ep, T.cl_Reckoner, T.na_Reckoner_numbers, rf_numbers _ _, l1, _, 0, _, rfl, rfl, SqL.of R.nums, at_of (j := 0) rfl rfl, ?_⟩
    have gn : intIn (V.int n) (-(10 ^ 40)) (10 ^ 40) = true := intIn_of n1 n2
    intro q dq nq nd ne
    refine ⟨q, dq, .int n, rfl, upd_same, .int n, fun g => Bool.noConfusion (gn.symm.trans g), fun n' H1 a1 a2 en _ _ eq e1 e2 f1 f2 d12 kp => ⟨rfl, ?_⟩⟩
    have S1 := Same.made nq nd kp
    have R1 := R.same S1
    obtain ⟨dx1, ep1⟩ := R1.ob
    refine ⟨_, rfl, p, _, dx1, _, _, rfl, ep1, T.cl_Reckoner, T.na_Reckoner_numbers, rf_numbers _ _, _, _, rfl, .inl (SqL.of R1.nums), fun m1 h1 => ?_⟩
    refine ⟨_, rfl, q, _, dq, _, rfl, same_upd h1 _ _ eq, T.cl_Reckoner, T.na_Reckoner_numbers, (by show 2 < 1000; decide), ?_⟩
    rw [rf_put1]
    have nq1 : q ≠ m1 := ne_of_none eq h1
    have npq : p ≠ q := fun z => by rw [z] at ep; rw [ep] at nq; cases nq
    have S2 : Same H (upd (upd H1 m1 (.lst ((n :: ns).map V.int))) q (.ins T.C_Reckoner dq (rf (.ref m1) (.ref a2)))) := fun c o e => by
      rw [upd_ne (ne_of_none e nq)]
      exact same_upd h1 _ _ (S1 _ _ e)
    have R2 := R.same S2
    obtain ⟨dx2, ep2⟩ := R2.ob
    refine ⟨_, rfl, p, _, dx2, _, _, rfl, ep2, T.cl_Reckoner, T.na_Reckoner_tricks, rf_tricks _ _, _, _, rfl, .inl (SqL.of R2.tris), fun m2 h2 => ?_⟩
    have nq2 : q ≠ m2 := fun z => by rw [← z, upd_same] at h2; cases h2
    have n12 : m1 ≠ m2 := fun z => by rw [← z, upd_ne nq1.symm, upd_same] at h2; cases h2
    refine ⟨_, rfl, q, _, dq, _, rfl, same_upd h2 _ _ upd_same, T.cl_Reckoner, T.na_Reckoner_tricks, (by show 2 < 1000; decide), ?_⟩
    rw [rf_put2]
    have old : ∀ {HH : Hp} {c : Addr}, Same H HH → HH c = none → H c = none := fun {HH c} S hc => by
      cases e : H c with
      | none => rfl
      | some o => rw [S _ _ e] at hc; cases hc
    have hm1 := old S1 h1
    have hm2 := old S2 h2
    have S3 : Same H (upd (upd (upd (upd H1 m1 (.lst ((n :: ns).map V.int))) q (.ins T.C_Reckoner dq (rf (.ref m1) (.ref a2)))) m2 (.lst ts)) q (.ins T.C_Reckoner dq (rf (.ref m1) (.ref m2)))) := fun c o e => by
      rw [upd_ne (ne_of_none e nq), upd_ne (ne_of_none e hm2)]
      exact S2 _ _ e
    refine ⟨_, rfl, k _ q m1 m2 S3 ⟨⟨dq, upd_same⟩, ?_, ?_, R.trs.same S3, n12, R.len⟩ hm1 hm2 nq⟩
    · rw [upd_ne nq1.symm, upd_ne n12, upd_ne nq1.symm, upd_same]
    · rw [upd_ne nq2.symm, upd_same]

/-! ### equality of tricks -/
def eqB (b t m b' t' m' : Int) : Bool := decide (b = b') && (decide (t = t') && decide (m = m'))
def spEqT (T : Tx P K mg) : Sp := fun vs H Q _ => ∃ (p : Addr) (y : V) (b t m : Int), vs = [.ref p, y] ∧ TrickAt T H p b t m ∧
  ((∃ q b' t' m', y = .ref q ∧ TrickAt T H q b' t' m' ∧ Q (.bl (eqB b t m b' t' m')) H) ∨ (AnyV (fun _ => False) H y ∧ Q (.bl false) H))
theorem ok_Trick___eq__ (T : Tx P K mg) : FnOk P w K mg base CX0 lv_Trick___eq__ T.a_Trick___eq__ T.d_Trick___eq__ ["self", "other"] (spEqT T) := by
  refine T.F_Trick___eq__.ok sc_Trick___eq__ (fun vs H Q E h => ?_) (fun cdv A outer s H vs Q E hr h => ?_)
  · obtain ⟨p, y, b, t, m, rfl, _⟩ := h
    rfl
  · obtain ⟨p, y, b, t, m, rfl, ⟨⟨dx, e⟩, _⟩, h⟩ := h
    refine ⟨_, (pss_one (ps_ret (pe_and (pe_callB call_isi (by rfl) T.n_isinstance (by decide +kernel) (pa_cons (pv 1) (pa_cons (pe_glob (v := .ref T.C_Trick) rfl T.g_Trick rfl) pa_nil))) (pe_and (pe_cmpR op_eq (pe_fld (pv 0) rfl) (pe_fld (pv 1) rfl) (nomark _)) (pe_and (pe_cmpR op_eq (pe_fld (pv 0) rfl) (pe_fld (pv 1) rfl) (nomark _)) (pe_one (pe_cmpR op_eq (pe_fld (pv 0) rfl) (pe_fld (pv 1) rfl) (nomark _)))))))), ?_⟩
    rcases h with ⟨q, b', t', m', rfl, ⟨⟨dy, e'⟩, _⟩, k⟩ | ⟨a, k⟩
    · refine ⟨_, rfl, _, _, _, _, _, rfl, .own _, .base (T.ins_Trick _ _ _ _ e'), T.kis_Trick, _, rfl, iteT ?_⟩
      unfold eqB at k
      refine ⟨_, rfl, p, _, dx, _, _, rfl, e, T.cl_Trick, T.na_Trick_base, tf_base b t m, _, rfl, q, _, dy, _, _, rfl, e', T.cl_Trick, T.na_Trick_base, tf_base b' t' m', rfl, _, rfl, ?_⟩
      rw [dec_i]
      cases g1 : decide (b = b') with
      | false => rw [g1] at k; exact iteF k
      | true =>
        rw [g1, Bool.true_and] at k
        refine iteT ?_
        refine ⟨_, rfl, p, _, dx, _, _, rfl, e, T.cl_Trick, T.na_Trick_take, tf_take b t m, _, rfl, q, _, dy, _, _, rfl, e', T.cl_Trick, T.na_Trick_take, tf_take b' t' m', rfl, _, rfl, ?_⟩
        rw [dec_i]
        cases g2 : decide (t = t') with
        | false => rw [g2] at k; exact iteF k
        | true =>
          rw [g2, Bool.true_and] at k
          refine iteT ?_
          refine ⟨_, rfl, p, _, dx, _, _, rfl, e, T.cl_Trick, T.na_Trick_times, tf_times b t m, _, rfl, q, _, dy, _, _, rfl, e', T.cl_Trick, T.na_Trick_times, tf_times b' t' m', rfl, ?_⟩
          rw [dec_i]
          exact k
    · obtain ⟨u, ty, e2⟩ := isi_trick T a
      exact ⟨_, rfl, _, _, _, _, _, rfl, .own _, ty, e2, _, rfl, iteF k⟩

/-! ### the law's draws: what is drawn lies in its range; nothing but the row of the draws changes -/
theorem fmod_bd (x : Int) {m : Int} (h : 0 < m) : 0 ≤ x.fmod m ∧ x.fmod m < m := by
  rw [Int.fmod_eq_emod_of_nonneg x (by omega)]
  exact ⟨Int.emod_nonneg x (by omega), Int.emod_lt_of_pos x h⟩
abbrev rowL (a : Addr) (i s c : Int) : List V := [.ref a, .int i, .int s, .int c]
/-- the script at a: locked, or of the top's own -/
def Scr (K : PySem.W.Frag) (H : Hp) (a : Addr) (xs : List V) : Prop := (∃ o, H a = some (.frz o (.lst xs))) ∨ SqL K (fun _ => none) a xs
theorem scr_of {H : Hp} {a : Addr} {xs : List V} (hO : ∀ b, H b = none ∨ ∃ o xs, H b = some (.frz o (.lst xs))) (h : SqL K H a xs) : Scr K H a xs := by
  rcases h with (h | h) | h
  · rcases hO a with z | ⟨o, ys, z⟩
    · rw [z] at h; cases h
    · rw [z] at h; cases h
  · exact .inl h
  · exact .inr (.inr h)
theorem Scr.seq {H : Hp} {a : Addr} {xs : List V} (h : Scr K H a xs) : SqL K H a xs := by
  rcases h with h | (h | ⟨o, h⟩) | h
  · exact .inl (.inr h)
  · cases h
  · cases h
  · exact .inr h
theorem Scr.mono {H H' : Hp} {a : Addr} {xs : List V} (h : Scr K H a xs) (k : ∀ b o u, H b = some (.frz o u) → H' b = some (.frz o u)) : Scr K H' a xs := by
  rcases h with ⟨o, h⟩ | h
  · exact .inl ⟨o, k _ _ _ h⟩
  · exact .inr h
/-- at r the row of the draws over the script at a -/
def RowAt (K : PySem.W.Frag) (H : Hp) (r a : Addr) (ns : List Int) : Prop := ∃ i s c : Int, H r = some (.lst (rowL a i s c)) ∧ 0 ≤ i ∧ 0 ≤ c ∧ Scr K H a (ns.map V.int) ∧ ns.length ≤ 63
theorem RowAt.same {H H' : Hp} {r a : Addr} {ns : List Int} (h : RowAt K H r a ns) (e : Same H H') : RowAt K H' r a ns :=
  let ⟨i, s, c, h1, h2, h3, h4, h5⟩ := h
  ⟨i, s, c, e _ _ h1, h2, h3, h4.mono fun _ _ _ z => e _ _ z, h5⟩
/-- another list is changed -/
theorem RowAt.put {H : Hp} {r a q : Addr} {ns : List Int} {ys : List V} {o : HO} (h : RowAt K H r a ns) (hq : H q = some (.lst ys)) (n : q ≠ r) : RowAt K (upd H q o) r a ns :=
  let ⟨i, s, c, h1, h2, h3, h4, h5⟩ := h
  ⟨i, s, c, by rw [upd_ne (Ne.symm n)]; exact h1, h2, h3, h4.mono fun b o' u z => by rw [upd_ne (ne_of z hq (by intro y; cases y))]; exact z, h5⟩
/-- the row as the law lays it -/
theorem RowAt.start {H : Hp} {r a : Addr} {ns : List Int} {i s c : Int} (hr : H r = none) (hS : Scr K H a (ns.map V.int)) (hl : ns.length ≤ 63) (hi : 0 ≤ i) (hc : 0 ≤ c) : RowAt K (upd H r (.lst (rowL a i s c))) r a ns :=
  ⟨i, s, c, upd_same, hi, hc, hS.mono fun b o u z => by rw [upd_ne (ne_of_none z hr)]; exact z, hl⟩
def spTaken (K : PySem.W.Frag) : Sp := fun vs H Q _ => ∃ (r a : Addr) (ns : List Int) (m : Int), vs = [.ref r, .int m] ∧ 0 < m ∧ m ≤ 10 ^ 41 ∧ RowAt K H r a ns ∧
  ∀ (v : Int) (H' : Hp), 0 ≤ v → v < m → RowAt K H' r a ns → But r H H' → Q (.int v) H'
theorem ok__law_taken (T : Tx P K mg) : FnOk P w K mg base CX0 lv__law_taken T.a__law_taken T.d__law_taken ["_law_row", "_law_many"] (spTaken K) := by
  refine T.F__law_taken.ok sc__law_taken (fun vs H Q E h => ?_) (fun cdv A outer s H vs Q E hr h => ?_)
  · obtain ⟨r, a, ns, m, rfl, _⟩ := h
    rfl
  · obtain ⟨r, a, ns, m, rfl, m0, m1, ⟨i, s, c, hR, i0, c0, hK, hlen⟩, k⟩ := h
    have hKB : ∀ H', But r H H' → Scr K H' a (ns.map V.int) := fun H' b => hK.mono fun c o u z => b c _ z (ne_of z hR (by intro y; cases y))
    have hdv : ∀ x : Int, CDivW x m := fun x => wide_div m0 (b := 140) (by omega) (by decide) (by decide)
    have back : ∀ (v : Int) (i' s' c' : Int) (H' : Hp), 0 ≤ v → v < m → 0 ≤ i' → 0 ≤ c' → H' r = some (.lst (rowL a i' s' c')) → But r H H' → Q (.int v) H' := fun v i' s' c' H' v0 v1 z1 z2 e b =>
      k v H' v0 v1 ⟨i', s', c', e, z1, z2, hKB _ b, hlen⟩ b
    refine ⟨_, (pss_cons (ps_if (pt_cmpR op_gt (pe_ix ix_list (pv 0) pe_int (fun _ _ => rfl)) pe_int (nomark _)) (pss_cons (ps_set (i := 2) sc__law_taken.nd rfl (Or.inl rfl) (pe_op op_modN (pe_callTy call_int1 (by rfl) T.n_int (by decide +kernel) (pa_cons (pe_ix ix_list (pv 0) pe_int (fun _ _ => rfl)) pa_nil)) (pv 1)))
      (pss_cons (ps_asg (pe_op op_fdivW (pe_ix ix_list (pv 0) pe_int (fun _ _ => rfl)) (pv 1)) (pg_sub (pv 0) pe_int set_list))
      (pss_one (ps_ret (pv 2))))) pss_nil)
      (pss_cons (ps_asg (pe_op op_add (pe_ix ix_list (pv 0) pe_int (fun _ _ => rfl)) pe_int) (pg_sub (pv 0) pe_int set_list))
      (pss_cons (ps_if (pt_cmpR op_gt (pe_ix ix_list (pv 0) pe_int (fun _ _ => rfl)) (pe_callB call_len_seq (by rfl) T.n_len (by decide +kernel) (pa_cons (pe_ix ix_list (pv 0) pe_int (fun _ _ => rfl)) pa_nil)) (nomark _)) (pss_cons (ps_asg (pe_op op_modN (pe_callTy call_int1 (by rfl) T.n_int (by decide +kernel) (pa_cons (pe_op op_add (pe_op op_mul (pe_ix ix_list (pv 0) pe_int (fun _ _ => rfl)) pe_int) pe_int) pa_nil)) pe_int) (pg_sub (pv 0) pe_int set_list))
      (pss_one (ps_ret (pe_op op_modN (pe_callTy call_int1 (by rfl) T.n_int (by decide +kernel) (pa_cons (pe_op op_fdivW (pe_ix ix_list (pv 0) pe_int (fun _ _ => rfl)) pe_int) pa_nil)) (pv 1))))) pss_nil)
      (pss_cons (ps_set (i := 3) sc__law_taken.nd rfl (Or.inl rfl) (pe_ix ix_list (pe_ix ix_list (pv 0) pe_int (fun _ _ => rfl)) (pe_op op_sub (pe_ix ix_list (pv 0) pe_int (fun _ _ => rfl)) pe_int) (fun _ _ => rfl)))
      (pss_cons (ps_asg (pe_op op_modN (pe_callTy call_int1 (by rfl) T.n_int (by decide +kernel) (pa_cons (pe_op op_add (pe_op op_add (pe_op op_mul (pe_ix ix_list (pv 0) pe_int (fun _ _ => rfl)) pe_int) (pv 3)) pe_int) pa_nil)) pe_int) (pg_sub (pv 0) pe_int set_list))
      (pss_cons (ps_if (pt_cmpR op_ge (pv 3) (pe_op op_pow pe_int pe_int) (nomark _)) (pss_one (ps_asg (pe_op op_fdivW (pv 3) (pv 1)) (pg_sub (pv 0) pe_int set_list))) pss_nil)
      (pss_one (ps_ret (pe_op op_modN (pe_callTy call_int1 (by rfl) T.n_int (by decide +kernel) (pa_cons (pv 3) pa_nil)) (pv 1)))))))))), ?_⟩
    refine ⟨_, rfl, r, _, _, _, rfl, rfl, SqL.of hR, rfl, _, _, rfl, rfl, _, rfl, ?_⟩
    refine ite2 (fun g => ?_) (fun g => ?_)
    · -- a great cell's digits
      obtain ⟨v0, v1⟩ := fmod_bd c m0
      refine ⟨_, rfl, r, _, _, _, rfl, rfl, SqL.of hR, rfl, .inl ⟨_, rfl, _, rfl, _, _, rfl, rfl, by omega, ?_⟩⟩
      refine ⟨_, rfl, r, _, _, _, rfl, rfl, SqL.of hR, rfl, _, rfl, _, _, rfl, rfl, hdv c, _, rfl, r, _, _, _, rfl, rfl, hR, rfl, ?_⟩
      exact ⟨_, rfl, back _ i s (c / m) _ v0 v1 i0 (Int.ediv_nonneg c0 (by omega)) upd_same But.put⟩
    · refine ⟨_, rfl, r, _, _, _, rfl, rfl, SqL.of hR, rfl, _, _, rfl, rfl, _, rfl, r, _, _, _, rfl, rfl, hR, rfl, ?_⟩
      -- behind the script's end?
      have hR1 : upd H r (.lst (rowL a (i + 1) s c)) r = some (.lst (rowL a (i + 1) s c)) := upd_same
      have hB1 : But r H (upd H r (.lst (rowL a (i + 1) s c))) := But.put
      have hS1 : SqL K (upd H r (.lst (rowL a (i + 1) s c))) a (ns.map V.int) := (hKB _ hB1).seq
      refine ⟨_, rfl, r, _, _, _, rfl, rfl, SqL.of hR1, rfl, _, rfl, r, _, _, _, rfl, rfl, SqL.of hR1, rfl, a, _, rfl, .inl hS1, _, _, rfl, rfl, _, rfl, ?_⟩
      refine ite2 (fun g2 => ?_) (fun g2 => ?_)
      · refine ⟨_, rfl, r, _, _, _, rfl, rfl, SqL.of hR1, rfl, _, _, rfl, rfl, .inr ⟨by decide, by decide⟩, _, _, rfl, rfl, .inl ⟨_, rfl, _, _, rfl, rfl, (show (2147483647 : Int) ≠ 0 by decide), ?_⟩⟩
        refine ⟨_, rfl, r, _, _, _, rfl, rfl, hR1, rfl, ?_⟩
        refine ⟨_, rfl, r, _, _, _, rfl, rfl, SqL.of upd_same, rfl, _, _, rfl, rfl, wide_div (by decide) (b := 3) (by decide) (by decide) (by decide), .inl ⟨_, rfl, _, rfl, _, _, rfl, rfl, by omega, ?_⟩⟩
        obtain ⟨v0, v1⟩ := fmod_bd ((s * 48271 + 11).fmod 2147483647 / 7) m0
        exact back _ (i + 1) _ c _ v0 v1 (by omega) c0 upd_same (hB1.trans But.put)
      · have g3 : i + 1 ≤ (ns.length : Int) := by
          simp only [decide_eq_true_eq, List.length_map] at g2
          omega
        obtain ⟨z, hz⟩ : ∃ z, ns[i.toNat]? = some z := ⟨ns[i.toNat]'(by omega), List.getElem?_eq_getElem (by omega)⟩
        have hz1 : atI (ns.map V.int) (i + 1 - 1) = some (V.int z) := at_of (j := i.toNat) (by omega) (by rw [List.getElem?_map, hz]; rfl)
        refine ⟨_, rfl, r, _, _, _, rfl, rfl, SqL.of hR1, rfl, _, rfl, r, _, _, _, rfl, rfl, SqL.of hR1, rfl, _, _, rfl, rfl, a, _, _, _, rfl, rfl, hS1, hz1, ?_⟩
        refine ⟨_, rfl, r, _, _, _, rfl, rfl, SqL.of hR1, rfl, _, _, rfl, rfl, .inr ⟨by decide, by decide⟩, _, rfl, _, _, rfl, rfl, _, _, rfl, rfl, .inl ⟨_, rfl, _, _, rfl, rfl, (show (2147483647 : Int) ≠ 0 by decide), ?_⟩⟩
        refine ⟨_, rfl, r, _, _, _, rfl, rfl, hR1, rfl, ?_⟩
        have hR2 : upd (upd H r (.lst (rowL a (i + 1) s c))) r (.lst (rowL a (i + 1) ((s * 48271 + z + 11).fmod 2147483647) c)) r = some (.lst (rowL a (i + 1) ((s * 48271 + z + 11).fmod 2147483647) c)) := upd_same
        have hB2 : But r H (upd (upd H r (.lst (rowL a (i + 1) s c))) r (.lst (rowL a (i + 1) ((s * 48271 + z + 11).fmod 2147483647) c))) := hB1.trans But.put
        obtain ⟨v0, v1⟩ := fmod_bd z m0
        refine ⟨_, rfl, _, _, rfl, rfl, ⟨by decide, by decide, by decide⟩, _, _, rfl, rfl, _, rfl, ?_⟩
        refine ite2 (fun g4 => ?_) (fun g4 => ?_)
        · refine ⟨_, rfl, _, rfl, _, _, rfl, rfl, hdv z, _, rfl, r, _, _, _, rfl, rfl, hR2, rfl, ?_⟩
          have z0 : 0 ≤ z := by
            have g5 : (10 : Int) ^ 18 ≤ z := by simpa using g4
            exact Int.le_trans (by decide) g5
          refine ⟨_, rfl, .inl ⟨_, rfl, _, rfl, _, _, rfl, rfl, by omega, ?_⟩⟩
          exact back _ (i + 1) _ (z / m) _ v0 v1 (by omega) (Int.ediv_nonneg z0 (by omega)) upd_same (hB2.trans But.put)
        · refine ⟨_, rfl, .inl ⟨_, rfl, _, rfl, _, _, rfl, rfl, by omega, ?_⟩⟩
          exact back _ (i + 1) _ c _ v0 v1 (by omega) c0 hR2 hB2

/-! ### a menu: an item of a written list at a drawn place -/
theorem RowAt.new {H : Hp} {r a p : Addr} {ns : List Int} {o : HO} (h : RowAt K H r a ns) (hp : H p = none) : RowAt K (upd H p o) r a ns := h.same (same_upd hp)
theorem RowAt.ne {H : Hp} {r a p : Addr} {ns : List Int} (h : RowAt K H r a ns) (hp : H p = none) : p ≠ r :=
  let ⟨_, _, _, h1, _⟩ := h
  (ne_of_none h1 hp).symm
theorem But.new {H H1 : Hp} {r p : Addr} {o : HO} (b : But r H H1) (hp : H1 p = none) : But r H (upd H1 p o) := b.trans (Same.but (same_upd hp))
theorem But.free {H H1 : Hp} {r p : Addr} (b : But r H H1) (n : p ≠ r) (hp : H1 p = none) : H p = none := by
  cases q : H p with
  | none => rfl
  | some o =>
    rw [b p o q n] at hp
    cases hp
/-- an item of the list laid at p, at a place that is drawn -/
theorem menu {H1 : Hp} {r a p : Addr} {ns items : List Int} {m : Int} (Pr : Int → Prop) (hP : ∀ z ∈ items, Pr z) (hl : (items.length : Int) = m) (R1 : RowAt K H1 r a ns) (hp : H1 p = none) {Q : VK}
    (k : ∀ (z : Int) (H2 : Hp), Pr z → RowAt K H2 r a ns → But r H1 H2 → H2 p = some (.lst (items.map V.int)) → Q (.int z) H2) (h0 : 0 < m) (h1 : m ≤ 10 ^ 41) :
    spTaken K ([.ref r, .int m] ++ []) (upd H1 p (.lst (items.map V.int))) (fun y H2 => rIxL K (.ref p) y H2 Q) E0 := by
  refine ⟨r, a, ns, m, rfl, h0, h1, R1.new hp, fun w H2 w0 w1 R2 B2 => ?_⟩
  obtain ⟨z, hz, he⟩ := at_some Pr hP w0 (by omega)
  have npr := R1.ne hp
  exact ⟨p, _, _, _, rfl, rfl, SqL.of (B2 _ _ upd_same npr), he, k z H2 hz R2 ((Same.but (same_upd hp)).trans B2) (B2 _ _ upd_same npr)⟩
theorem at_someV (Pr : V → Prop) {xs : List V} (h : ∀ z ∈ xs, Pr z) {i : Int} (h0 : 0 ≤ i) (h1 : i < xs.length) : ∃ z, Pr z ∧ atI xs i = some z := by
  obtain ⟨z, hz⟩ : ∃ z, xs[i.toNat]? = some z := ⟨xs[i.toNat]'(by omega), List.getElem?_eq_getElem (by omega)⟩
  exact ⟨z, h z (List.mem_of_getElem? hz), at_of (j := i.toNat) (by omega) hz⟩
theorem menuV {H1 : Hp} {r a p : Addr} {ns : List Int} {items : List V} {m : Int} (Pr : V → Prop) (hP : ∀ z ∈ items, Pr z) (hl : (items.length : Int) = m) (R1 : RowAt K H1 r a ns) (hp : H1 p = none) {Q : VK}
    (k : ∀ (z : V) (H2 : Hp), Pr z → RowAt K H2 r a ns → But r H1 H2 → H2 p = some (.lst items) → Q z H2) (h0 : 0 < m) (h1 : m ≤ 10 ^ 41) :
    spTaken K ([.ref r, .int m] ++ []) (upd H1 p (.lst items)) (fun y H2 => rIxL K (.ref p) y H2 Q) E0 := by
  refine ⟨r, a, ns, m, rfl, h0, h1, R1.new hp, fun w H2 w0 w1 R2 B2 => ?_⟩
  obtain ⟨z, hz, he⟩ := at_someV Pr hP w0 (by omega)
  have npr := R1.ne hp
  exact ⟨p, _, _, _, rfl, rfl, SqL.of (B2 _ _ upd_same npr), he, k z H2 hz R2 ((Same.but (same_upd hp)).trans B2) (B2 _ _ upd_same npr)⟩
/-- a plain value: None, a bool, an int, a text -/
def flatA : V → Bool
  | .non => true | .bl _ => true | .int _ => true | .str _ => true | _ => false
theorem any_flat {T : Addr → Prop} {H : Hp} {v : V} (h : flatA v = true) : AnyV T H v := by
  cases v with
  | non => exact .non
  | bl b => exact .bl b
  | int i => exact .int i
  | str x => exact .str x
  | _ => cases h

/-! ### the row is a list -/
theorem RowAt.lst {H : Hp} {r a : Addr} {ns : List Int} (h : RowAt K H r a ns) : ∃ ys, H r = some (.lst ys) := let ⟨_, _, _, h1, _⟩ := h; ⟨_, h1⟩

/-! ### a power -/
def spPower : Sp := fun vs H Q _ => ∃ b k : Int, vs = [.int b, .int k] ∧ 0 ≤ b ∧ b ≤ 1000 ∧ 0 ≤ k ∧ k ≤ 1000 ∧ Q (.int (b ^ k.toNat)) H
theorem ok__law_power (T : Tx P K mg) : FnOk P w K mg base CX0 lv__law_power T.a__law_power T.d__law_power ["_law_base", "_law_many"] spPower := by
  refine T.F__law_power.ok sc__law_power (fun vs H Q E h => ?_) (fun cdv A outer s H vs Q E hr h => ?_)
  · obtain ⟨b, k, rfl, _⟩ := h
    rfl
  · obtain ⟨b, k, rfl, b0, b1, k0, k1, q⟩ := h
    refine ⟨_, (pss_cons (ps_set (i := 2) sc__law_power.nd rfl (Or.inl rfl) pe_int)
      (pss_cons (ps_for PassesOwn.never rfl (pi_range1 (by rfl) T.n_range (pa_cons (pv 1) pa_nil)) (pg_name (i := 3) sc__law_power.nd rfl (Or.inl rfl)) (pss_one (ps_set (i := 2) sc__law_power.nd rfl (Or.inl rfl) (pe_op op_mul (pv 2) (pv 0)))))
      (pss_one (ps_ret (pv 2))))), ?_⟩
    refine ⟨_, rfl, k, rfl, by omega, by omega, ?_⟩
    refine for_range (lo := 0) (fun i σ H2 => ∃ v : Option V, σ = [some (.int b), some (.int k), some (.int (b ^ i)), v] ∧ H2 = H) ⟨none, by rw [Int.pow_zero]; rfl, rfl⟩ ?_ ?_
    · rintro i σ H2 hi ⟨v, rfl, rfl⟩
      refine ⟨_, rfl, _, rfl, _, _, rfl, rfl, .inr ⟨by omega, by omega⟩, ?_⟩
      exact ⟨_, by rw [Int.pow_succ]; rfl, rfl⟩
    · rintro σ H2 ⟨v, rfl, rfl⟩
      exact ⟨_, rfl, q⟩

/-! ### a drawn trick's parts -/
def spLawTrick (K : PySem.W.Frag) : Sp := fun vs H Q _ => ∃ (r a : Addr) (ns : List Int) (small : Bool), vs = [.ref r, .bl small] ∧ RowAt K H r a ns ∧
  ∀ (b t m : Int) (q : Addr) (H' : Hp), 2 ≤ b → b ≤ 16 → 1 ≤ t → t ≤ 2 → (small = true → b ≤ 5 ∨ t = 1) → -100 ≤ m → m ≤ 100 → RowAt K H' r a ns → But r H H' → H q = none → H' q = some (.lst [.int b, .int t, .int m]) → q ≠ r → Q (.ref q) H'
theorem ok__law_trick (T : Tx P K mg) : FnOk P w K mg base CX0 lv__law_trick T.a__law_trick T.d__law_trick ["_law_row", "_law_small"] (spLawTrick K) := by
  refine T.F__law_trick.ok sc__law_trick (fun vs H Q E h => ?_) (fun cdv A outer s H vs Q E hr h => ?_)
  · obtain ⟨r, a, ns, sm, rfl, _⟩ := h
    rfl
  · obtain ⟨r, a, ns, sm, rfl, R0, k⟩ := h
    refine ⟨_, (Evl.pss_cut (ps_set (i := 2) sc__law_trick.nd rfl (Or.inr rfl) (pe_ix ix_list (pe_lst (pa_cons pe_int (pa_cons pe_int (pa_cons pe_int (pa_cons pe_int (pa_cons pe_int (pa_cons pe_int (pa_cons (pe_op op_add pe_int (pe_call (ok__law_taken T) (hr.mono (by decide)) rfl T.g__law_taken T.F__law_taken.kp T.b__law_taken .nil pass0 (pa_cons (pv 0) (pa_cons pe_int pa_nil)))) pa_nil)))))))) (pe_call (ok__law_taken T) (hr.mono (by decide)) rfl T.g__law_taken T.F__law_taken.kp T.b__law_taken .nil pass0 (pa_cons (pv 0) (pa_cons pe_int pa_nil))) (fun _ _ => rfl)))
      (Evl.pss_cut (ps_set (i := 3) sc__law_trick.nd rfl (Or.inr rfl) (pe_ifExp (PW.pt (pw_and (pt_val (pv 1)) (pw_and1 (pt_cmpR op_gt (pv 2) pe_int (nomark _))))) pe_int (pe_op op_add pe_int (pe_call (ok__law_taken T) (hr.mono (by decide)) rfl T.g__law_taken T.F__law_taken.kp T.b__law_taken .nil pass0 (pa_cons (pv 0) (pa_cons pe_int pa_nil))))))
      (Evl.pss_cut (ps_set (i := 4) sc__law_trick.nd rfl (Or.inl rfl) (pe_ix ix_list (pe_lst (pa_cons pe_int (pa_cons (pe_un un_neg pe_int) (pa_cons (pe_un un_neg pe_int) (pa_cons pe_int (pa_cons (pe_op op_sub (pe_call (ok__law_taken T) (hr.mono (by decide)) rfl T.g__law_taken T.F__law_taken.kp T.b__law_taken .nil pass0 (pa_cons (pv 0) (pa_cons pe_int pa_nil))) pe_int) (pa_cons (pe_op op_sub (pe_call (ok__law_taken T) (hr.mono (by decide)) rfl T.g__law_taken T.F__law_taken.kp T.b__law_taken .nil pass0 (pa_cons (pv 0) (pa_cons pe_int pa_nil))) pe_int) pa_nil))))))) (pe_call (ok__law_taken T) (hr.mono (by decide)) rfl T.g__law_taken T.F__law_taken.kp T.b__law_taken .nil pass0 (pa_cons (pv 0) (pa_cons pe_int pa_nil))) (fun _ _ => rfl)))
      (Evl.pss_cut (ps_if (pt_cmpR op_eq (pe_call (ok__law_taken T) (hr.mono (by decide)) rfl T.g__law_taken T.F__law_taken.kp T.b__law_taken .nil pass0 (pa_cons (pv 0) (pa_cons pe_int pa_nil))) pe_int (nomark _)) (pss_cons (ps_set (i := 5) sc__law_trick.nd rfl (Or.inr rfl) (pe_op op_add pe_int (pe_call (ok__law_taken T) (hr.mono (by decide)) rfl T.g__law_taken T.F__law_taken.kp T.b__law_taken .nil pass0 (pa_cons (pv 0) (pa_cons pe_int pa_nil)))))
      (pss_cons (ps_setLc (i := 6) (own := [("_law_one", 7)]) (g := gName 7) rfl sc__law_trick.nd rfl rfl (sw_true rfl rfl rfl (by decide +kernel)) (pi_range1 (by rfl) T.n_range (pa_cons (pv 5) pa_nil)) (blkOk_by (own := [("_law_one", 7)]) (N := ["_law_row", "_law_small", "_law_base", "_law_take", "_law_times", "_law_d", "_law_some", "_law_one"]) (sc := defScope s__law_trick) (by decide +kernel)) (fun _ _ _ _ _ => pg_name (i := 7) sc__law_trick.nd rfl (Or.inl rfl)) (fun _ _ _ _ _ => pts_one (pt_cmpR op_eq (pe_op op_modN (pe_op op_mul (pv 7) (pe_call (ok__law_power T) (hr.mono (by decide)) rfl T.g__law_power T.F__law_power.kp T.b__law_power .nil pass0 (pa_cons (pv 2) (pa_cons (pv 3) pa_nil)))) (pv 5)) pe_int (nomark _))) (fun _ _ _ _ _ => (pv 7)))
      (pss_one (ps_set (i := 4) sc__law_trick.nd rfl (Or.inl rfl) (pe_ifExp (pt_cmpR (op_neD hr.units) (pv 6) (pe_lst pa_nil) (nomark _)) (pe_op op_sub (pe_ix ix_list (pv 6) pe_int (fun _ _ => rfl)) (pe_op op_mul (pv 5) (pe_call (ok__law_taken T) (hr.mono (by decide)) rfl T.g__law_taken T.F__law_taken.kp T.b__law_taken .nil pass0 (pa_cons (pv 0) (pa_cons pe_int pa_nil))))) (pv 4)))))) pss_nil)
      (pss_one (ps_ret (pe_lst (pa_cons (pv 2) (pa_cons (pv 3) (pa_cons (pv 4) pa_nil)))))))))), ?_⟩
    -- the base
    refine ⟨fun σ H1 => ∃ b : Int, 2 ≤ b ∧ b ≤ 16 ∧ RowAt K H1 r a ns ∧ But r H H1 ∧ σ = [some (.ref r), some (.bl sm), some (.int b), none, none, none, none, none], ?_, ?_⟩
    · refine ⟨_, rfl, r, a, ns, _, rfl, by decide, by decide, R0, fun v H1 v0 v1 R1 B1 => ?_⟩
      refine ⟨_, _, rfl, rfl, by show 7 ≤ sizeLine; decide, fun p hp => ?_⟩
      refine ⟨_, rfl, menu (items := [10, 2, 3, 7, 8, 16, 2 + v]) (fun z => 2 ≤ z ∧ z ≤ 16) (by simp; omega) rfl R1 hp (fun z H2 hz R2 B2 _ => ?_) (by show (0 : Int) < 7; decide) (by show (7 : Int) ≤ 10 ^ 41; decide)⟩
      exact ⟨z, hz.1, hz.2, R2, B1.trans B2, rfl⟩
    rintro σ H1 ⟨b, b1, b2, R1, B1, rfl⟩
    -- the figures
    refine ⟨fun σ H2 => ∃ t : Int, 1 ≤ t ∧ t ≤ 2 ∧ (sm = true → b ≤ 5 ∨ t = 1) ∧ RowAt K H2 r a ns ∧ But r H H2 ∧ σ = [some (.ref r), some (.bl sm), some (.int b), some (.int t), none, none, none, none], ?_, ?_⟩
    · refine ⟨_, rfl, _, rfl, ?_⟩
      refine ite2 (fun g => ?_) (fun g => ?_)
      · refine ⟨_, rfl, _, _, rfl, rfl, _, rfl, ?_⟩
        refine ite2 (fun g2 => ?_) (fun g2 => ?_)
        · exact ⟨1, by decide, by decide, fun _ => .inr rfl, R1, B1, rfl⟩
        · refine ⟨_, rfl, r, a, ns, _, rfl, by decide, by decide, R1, fun v H2 v0 v1 R2 B2 => ?_⟩
          refine ⟨_, _, rfl, rfl, 1 + v, by omega, by omega, fun _ => .inl ?_, R2, B1.trans B2, rfl⟩
          simpa using g2
      · refine iteF ?_
        refine ⟨_, rfl, r, a, ns, _, rfl, by decide, by decide, R1, fun v H2 v0 v1 R2 B2 => ?_⟩
        exact ⟨_, _, rfl, rfl, 1 + v, by omega, by omega, fun z => absurd z g, R2, B1.trans B2, rfl⟩
    clear R1 B1
    rintro σ H1 ⟨t, t1, t2, hst, R1, B1, rfl⟩
    -- the multiplier
    refine ⟨fun σ H2 => ∃ m : Int, -100 ≤ m ∧ m ≤ 100 ∧ RowAt K H2 r a ns ∧ But r H H2 ∧ σ = [some (.ref r), some (.bl sm), some (.int b), some (.int t), some (.int m), none, none, none], ?_, ?_⟩
    · refine ⟨_, rfl, _, rfl, _, rfl, r, a, ns, _, rfl, by decide, by decide, R1, fun v H2 v0 v1 R2 B2 => ?_⟩
      refine ⟨_, _, rfl, rfl, _, rfl, r, a, ns, _, rfl, by decide, by decide, R2, fun v' H3 v0' v1' R3 B3 => ?_⟩
      refine ⟨_, _, rfl, rfl, by show 6 ≤ sizeLine; decide, fun p hp => ?_⟩
      refine ⟨_, rfl, menu (items := [1, -1, -2, 0, v - 10, v' - 100]) (fun z => -100 ≤ z ∧ z ≤ 100) (by simp; omega) rfl R3 hp (fun z H4 hz R4 B4 _ => ?_) (by show (0 : Int) < 6; decide) (by show (6 : Int) ≤ 10 ^ 41; decide)⟩
      exact ⟨z, hz.1, hz.2, R4, B1.trans (B2.trans (B3.trans B4)), rfl⟩
    clear R1 B1
    rintro σ H1 ⟨m, m1, m2, R1, B1, rfl⟩
    -- a multiplier that tells multiples
    refine ⟨fun σ H2 => ∃ (m : Int) (x y z : Option V), -100 ≤ m ∧ m ≤ 100 ∧ RowAt K H2 r a ns ∧ But r H H2 ∧ σ = [some (.ref r), some (.bl sm), some (.int b), some (.int t), some (.int m), x, y, z], ?_, ?_⟩
    · refine ⟨_, rfl, r, a, ns, _, rfl, by decide, by decide, R1, fun v H2 v0 v1 R2 B2 => ?_⟩
      refine ⟨rfl, _, rfl, ?_⟩
      refine ite2 (fun g => ?_) (fun g => ?_)
      · refine ⟨_, rfl, r, a, ns, _, rfl, by decide, by decide, R2, fun d' H3 d0 d1 R3 B3 => ?_⟩
        refine ⟨_, _, rfl, rfl, ?_⟩
        dsimp only
        generalize hd : 2 + d' = d
        refine ⟨_, rfl, d, rfl, by omega, by omega, fun D hD => ?_⟩
        have hDr := R3.ne hD
        refine lc_range (lo := 0) (n := d.toNat) (fun i H4 => ∃ acc : List Int, (∀ z ∈ acc, 0 ≤ z ∧ z < d) ∧ acc.length ≤ i ∧ H4 = upd H3 D (.lst (acc.map V.int))) ⟨[], by simp, Nat.le_refl _, rfl⟩ ?_ ?_
        · rintro i H4 hi ⟨acc, hacc, hlen, rfl⟩
          refine ⟨rfl, ?_⟩
          refine ⟨_, rfl, _, rfl, _, rfl, b, t, rfl, by omega, by omega, by omega, by omega, ?_⟩
          refine ⟨_, _, rfl, rfl, .inl ⟨by omega, by omega⟩, _, rfl, _, _, rfl, rfl, (show d ≠ 0 by omega), rfl, _, rfl, ?_⟩
          refine ite2 (fun g2 => ?_) (fun g2 => ?_)
          · refine ⟨_, rfl, _, upd_same, by rw [List.length_map]; exact small1000 (by omega), acc ++ [(0 : Int) + (i : Int)], ?_, by simp; omega, by rw [upd_upd, List.map_append]; rfl⟩
            intro z hz
            rcases List.mem_append.mp hz with hz | hz
            · exact hacc z hz
            · have ez : z = 0 + (i : Int) := by simpa using hz
              omega
          · exact ⟨acc, hacc, by omega, rfl⟩
        · rintro H4 ⟨acc, hacc, hlen, rfl⟩
          have R4 := R3.new (o := .lst (acc.map V.int)) hD
          have B4 := (B2.trans B3).new (o := .lst (acc.map V.int)) hD
          have eD : upd H3 D (.lst (acc.map V.int)) D = some (.lst (acc.map V.int)) := upd_same
          generalize upd H3 D (.lst (acc.map V.int)) = H4 at R4 B4 eD ⊢
          refine ⟨_, rfl, by show 0 ≤ sizeLine; decide, fun p hp => ?_⟩
          have npD : D ≠ p := ne_of_none eD hp
          refine ⟨_, _, dp_ints (SqL.of (by rw [upd_ne npD]; exact eD)), dp_ints (ns := []) (SqL.of upd_same), shaped_lints _, shaped_lints _, ?_⟩
          rw [eqv_ints]
          refine ⟨_, rfl, ?_⟩
          refine ite2 (fun g2 => ?_) (fun g2 => ?_)
          · have hne : acc ≠ [] := by simpa using g2
            obtain ⟨z, acc', rfl⟩ : ∃ z acc', acc = z :: acc' := by
              cases acc with
              | nil => exact absurd rfl hne
              | cons z acc' => exact ⟨z, acc', rfl⟩
            obtain ⟨z0, z1⟩ := hacc z List.mem_cons_self
            refine ⟨_, rfl, D, _, _, _, rfl, rfl, SqL.of (by rw [upd_ne npD]; exact eD), at_of (j := 0) rfl rfl, _, rfl, _, rfl, r, a, ns, _, rfl, by decide, by decide, R4.new hp, fun v3 H5 v30 v31 R5 B5 => ?_⟩
            refine ⟨_, _, rfl, rfl, .inl ⟨by omega, by omega⟩, _, _, rfl, rfl, ?_⟩
            refine ⟨z - d * v3, _, _, _, ?_, ?_, R5, (B1.trans (B4.new hp)).trans B5, rfl⟩
            · have q : d * v3 ≤ d * 1 := Int.mul_le_mul_of_nonneg_left (by omega) (by omega)
              omega
            · have q : 0 ≤ d * v3 := Int.mul_nonneg (by omega) v30
              omega
          · exact ⟨_, rfl, m, _, _, _, m1, m2, R4.new hp, B1.trans (B4.new hp), rfl⟩
      · exact ⟨m, none, none, none, m1, m2, R2, B1.trans B2, rfl⟩
    clear R1 B1 m1 m2
    rintro σ H1 ⟨m, x, y, z, m1, m2, R1, B1, rfl⟩
    refine ⟨_, rfl, _, rfl, _, rfl, by show 3 ≤ sizeLine; decide, fun q hq => ?_⟩
    exact k b t m q _ b1 b2 t1 t2 hst m1 m2 (R1.new hq) (B1.new hq) (B1.free (R1.ne hq) hq) upd_same (R1.ne hq)

/-! ### the number behind a trick -/
def behind (b t m n : Int) : Int := (n - n.fmod (blockOf b t)) / blockOf b t + m * n.fmod (blockOf b t)
def spBehind (K : PySem.W.Frag) : Sp := fun vs H Q _ => ∃ (q : Addr) (b t m n : Int), vs = [.ref q, .int n] ∧ SqL K H q [.int b, .int t, .int m] ∧ 2 ≤ b ∧ b ≤ 16 ∧ -100 ≤ m ∧ m ≤ 100 ∧ Q (.int (behind b t m n)) H
theorem ok__law_behind (T : Tx P K mg) : FnOk P w K mg base CX0 lv__law_behind T.a__law_behind T.d__law_behind ["_law_told", "_law_n"] (spBehind K) := by
  refine T.F__law_behind.ok sc__law_behind (fun vs H Q E h => ?_) (fun cdv A outer s H vs Q E hr h => ?_)
  · obtain ⟨q, b, t, m, n, rfl, _⟩ := h
    rfl
  · obtain ⟨q, b, t, m, n, rfl, hq, b1, b2, m1, m2, k⟩ := h
    obtain ⟨B1, B2⟩ := block_bd (t := t) b1 b2
    refine ⟨_, (pss_cons (ps_asg (pv 0) (pg_unl rfl (pgs_cons (pg_name (i := 2) sc__law_behind.nd rfl (Or.inl rfl)) (pgs_cons (pg_name (i := 3) sc__law_behind.nd rfl (Or.inl rfl)) (pgs_cons (pg_name (i := 4) sc__law_behind.nd rfl (Or.inl rfl)) pgs_nil)))))
      (Evl.pss_cut (ps_set (i := 5) sc__law_behind.nd rfl (Or.inl rfl) (pe_ifExp (pt_cmpR op_eq (pv 3) pe_int (nomark _)) (pv 2) (pe_op op_mul (pv 2) (pv 2))))
      (pss_cons (ps_set (i := 6) sc__law_behind.nd rfl (Or.inl rfl) (pe_op op_modN (pv 1) (pv 5)))
      (pss_one (ps_ret (pe_op op_add (pe_op op_fdivW (pe_op op_sub (pv 1) (pv 6)) (pv 5)) (pe_op op_mul (pv 4) (pv 6)))))))), ?_⟩
    refine ⟨_, rfl, q, _, rfl, hq, rfl, _, _, rfl, _, _, rfl, _, _, rfl, rfl, ?_⟩
    -- the block
    refine ⟨fun σ H1 => ∃ x : Option V, H1 = H ∧ σ = [some (.ref q), some (.int n), some (.int b), some (.int t), some (.int m), some (.int (blockOf b t)), x], ?_, ?_⟩
    · refine ⟨_, rfl, rfl, _, rfl, ?_⟩
      refine ite2 (fun c => ?_) (fun c => ?_)
      · have c1 : t = 1 := by simpa using c
        exact ⟨_, rfl, none, rfl, by unfold blockOf; rw [if_pos c1]; rfl⟩
      · have c1 : ¬ t = 1 := by simpa using c
        exact ⟨_, rfl, _, rfl, _, _, rfl, rfl, .inl ⟨by omega, by omega⟩, none, rfl, by unfold blockOf; rw [if_neg c1]; rfl⟩
    rintro σ H1 ⟨x, rfl, rfl⟩
    refine ⟨_, rfl, _, rfl, _, _, rfl, rfl, (show blockOf b t ≠ 0 by omega), ?_⟩
    exact ⟨_, rfl, _, rfl, _, _, rfl, rfl, _, rfl, _, _, rfl, rfl, wide_div (by omega) (b := 9) (by omega) (by decide) (by decide), _, rfl, _, rfl, _, _, rfl, rfl, .inl ⟨by omega, by omega⟩, _, _, rfl, rfl, k⟩

/-! ### the two ways to say what is behind a trick -/
theorem behind_made {b t m n : Int} (h : 2 ≤ blockOf b t) : behind b t m n = made b t m n := by
  unfold behind made
  congr 1
  rw [Int.fmod_eq_emod_of_nonneg n (by omega)]
  have e := Int.mul_ediv_add_emod n (blockOf b t)
  have e2 : n - n % blockOf b t = blockOf b t * (n / blockOf b t) := by omega
  rw [e2, Int.mul_ediv_cancel_left _ (by omega)]

/-! ### a drawn number -/
def spNumber (K : PySem.W.Frag) : Sp := fun vs H Q _ => ∃ (r a : Addr) (ns : List Int), vs = [.ref r] ∧ RowAt K H r a ns ∧ ∀ (v : Int) (H' : Hp), -(10 ^ 40) ≤ v → v ≤ 10 ^ 40 → RowAt K H' r a ns → But r H H' → Q (.int v) H'
theorem ok__law_number (T : Tx P K mg) : FnOk P w K mg base CX0 lv__law_number T.a__law_number T.d__law_number ["_law_row"] (spNumber K) := by
  refine T.F__law_number.ok sc__law_number (fun vs H Q E h => ?_) (fun cdv A outer s H vs Q E hr h => ?_)
  · obtain ⟨r, a, ns, rfl, _⟩ := h
    rfl
  · obtain ⟨r, a, ns, rfl, R0, k⟩ := h
    refine ⟨_, (Evl.pss_cut (ps_set (i := 1) sc__law_number.nd rfl (Or.inl rfl) (pe_ix ix_list (pe_lst (pa_cons pe_int (pa_cons pe_int (pa_cons (pe_op op_pow pe_int pe_int) (pa_cons (pe_op op_pow pe_int pe_int) pa_nil))))) (pe_call (ok__law_taken T) (hr.mono (by decide)) rfl T.g__law_taken T.F__law_taken.kp T.b__law_taken .nil pass0 (pa_cons (pv 0) (pa_cons pe_int pa_nil))) (fun _ _ => rfl)))
      (Evl.pss_cut (ps_set (i := 2) sc__law_number.nd rfl (Or.inl rfl) (pe_ifExp (pt_cmpR op_gt (pe_call (ok__law_taken T) (hr.mono (by decide)) rfl T.g__law_taken T.F__law_taken.kp T.b__law_taken .nil pass0 (pa_cons (pv 0) (pa_cons pe_int pa_nil))) pe_int (nomark _)) (pe_call (ok__law_taken T) (hr.mono (by decide)) rfl T.g__law_taken T.F__law_taken.kp T.b__law_taken .nil pass0 (pa_cons (pv 0) (pa_cons (pe_op op_add (pv 1) pe_int) pa_nil))) (pv 1)))
      (pss_one (ps_ret (pe_ifExp (pt_cmpR op_gt (pe_call (ok__law_taken T) (hr.mono (by decide)) rfl T.g__law_taken T.F__law_taken.kp T.b__law_taken .nil pass0 (pa_cons (pv 0) (pa_cons pe_int pa_nil))) pe_int (nomark _)) (pv 2) (pe_un un_neg (pv 2))))))), ?_⟩
    refine ⟨fun σ H1 => ∃ z : Int, 1 ≤ z ∧ z ≤ 10 ^ 40 ∧ RowAt K H1 r a ns ∧ But r H H1 ∧ σ = [some (.ref r), some (.int z), none], ?_, ?_⟩
    · refine ⟨_, _, rfl, rfl, ⟨by decide, by decide, by decide⟩, _, _, rfl, rfl, ⟨by decide, by decide, by decide⟩, by show 4 ≤ sizeLine; decide, fun p hp => ?_⟩
      refine ⟨_, rfl, menu (items := [9, 200, 10 ^ (6 : Int).toNat, 10 ^ (40 : Int).toNat]) (fun z => 1 ≤ z ∧ z ≤ 10 ^ 40) ?_ rfl R0 hp (fun z H2 hz R2 B2 _ => ?_) (by show (0 : Int) < 4; decide) (by show (4 : Int) ≤ 10 ^ 41; decide)⟩
      · intro z hz
        rcases List.mem_cons.mp hz with rfl | hz
        · decide
        rcases List.mem_cons.mp hz with rfl | hz
        · decide
        rcases List.mem_cons.mp hz with rfl | hz
        · decide
        rcases List.mem_cons.mp hz with rfl | hz
        · decide
        · cases hz
      · exact ⟨z, hz.1, hz.2, R2, B2, rfl⟩
    rintro σ H1 ⟨z, z1, z2, R1, B1, rfl⟩
    refine ⟨fun σ H2 => ∃ n : Int, 0 ≤ n ∧ n ≤ 10 ^ 40 ∧ RowAt K H2 r a ns ∧ But r H H2 ∧ σ = [some (.ref r), some (.int z), some (.int n)], ?_, ?_⟩
    · refine ⟨_, rfl, r, a, ns, _, rfl, by decide, by decide, R1, fun v H2 v0 v1 R2 B2 => ?_⟩
      refine ⟨_, _, rfl, rfl, _, rfl, ?_⟩
      refine ite2 (fun g => ?_) (fun g => ?_)
      · refine ⟨_, rfl, _, rfl, _, _, rfl, rfl, r, a, ns, _, rfl, by omega, by omega, R2, fun n H3 n0 n1 R3 B3 => ?_⟩
        exact ⟨n, n0, by omega, R3, B1.trans (B2.trans B3), rfl⟩
      · exact ⟨_, rfl, z, by omega, z2, R2, B1.trans B2, rfl⟩
    clear R1 B1
    rintro σ H1 ⟨n, n0, n1, R1, B1, rfl⟩
    refine ⟨_, rfl, r, a, ns, _, rfl, by decide, by decide, R1, fun v H2 v0 v1 R2 B2 => ?_⟩
    refine ⟨_, _, rfl, rfl, _, rfl, ?_⟩
    refine ite2 (fun g => ?_) (fun g => ?_)
    · exact ⟨_, rfl, k n H2 (by omega) n1 R2 (B1.trans B2)⟩
    · exact ⟨_, rfl, _, rfl, k (-n) H2 (by omega) (by omega) R2 (B1.trans B2)⟩

/-! ### lists of one plain value -/
def datF : V → PyData
  | .bl b => .bool b
  | .int i => .int i
  | .str x => .str x
  | _ => .none
theorem dp_flat {H : Hp} {x : V} (h : flatA x = true) : Dp K H x (datF x) := by
  cases x with
  | non => exact .non
  | bl b => exact .bl b
  | int i => exact .int i
  | str x => exact .str x
  | _ => cases h
theorem dp_flat1 {H : Hp} {a : Addr} {x : V} (h : flatA x = true) (hs : SqL K H a [x]) : Dp K H (.ref a) (.list [datF x]) := .lst hs (.cons (dp_flat h) .nil)
theorem eqv_datF (x : V) : PyData.eqv (datF x) (datF x) = true := by
  cases x <;> simp [datF, PyData.eqv]
theorem eqv_flat1 (x : V) : PyData.eqv (.list [datF x]) (.list [datF x]) = true := by
  show (PyData.eqv (datF x) (datF x) && true) = true
  rw [eqv_datF, Bool.and_true]
/-- a plain value whose list of one is compared at once -/
def flatS (x : V) : Prop := flatA x = true ∧ SeqAt.shaped (.list [datF x]) = true
/-- the same of a list of two, a text first -/
def flatN (x : V) : Prop := flatA x = true ∧ SeqAt.shaped (.list [.str "number", datF x]) = true
theorem dp_num1 {H : Hp} {a : Addr} {x : V} (h : flatA x = true) (hs : SqL K H a [.str "number", x]) : Dp K H (.ref a) (.list [.str "number", datF x]) := .lst hs (.cons (.str _) (.cons (dp_flat h) .nil))
theorem eqv_num1 (x : V) : PyData.eqv (.list [.str "number", datF x]) (.list [.str "number", datF x]) = true := by
  show (PyData.eqv (.str "number") (.str "number") && (PyData.eqv (datF x) (datF x) && true)) = true
  rw [eqv_datF, Bool.and_true, Bool.and_true]
  simp [PyData.eqv]

/-! ### values that are no numbers -/
/-- a value that is no number: a plain one, or a tuple, a dict -/
inductive Odd (H : Hp) : V → Prop where
  | flat {x : V} (f : flatS x) (i : intIn x (-(10 ^ 40)) (10 ^ 40) = false) : Odd H x
  | tup {a : Addr} {xs : List V} (e : H a = some (.tup xs)) : Odd H (.ref a)
  | dct {a : Addr} (e : H a = some (.dK [])) : Odd H (.ref a)
theorem Odd.same {H H' : Hp} {v : V} (h : Odd H v) (S : Same H H') : Odd H' v := by
  cases h with
  | flat f i => exact .flat f i
  | tup e => exact .tup (S _ _ e)
  | dct e => exact .dct (S _ _ e)
theorem Odd.but {H H' : Hp} {r : Addr} {ys : List V} {v : V} (h : Odd H v) (hr : H r = some (.lst ys)) (B : But r H H') : Odd H' v := by
  cases h with
  | flat f i => exact .flat f i
  | tup e => exact .tup (B _ _ e (ne_of e hr (by intro z; cases z)))
  | dct e => exact .dct (B _ _ e (ne_of e hr (by intro z; cases z)))
theorem Odd.any {T : Addr → Prop} {H : Hp} {v : V} (h : Odd H v) : AnyV T H v := by
  cases h with
  | flat f i => exact any_flat f.1
  | tup e => exact .tup e
  | dct e => exact .dct e
theorem Odd.no {H : Hp} {v : V} (h : Odd H v) : intIn v (-(10 ^ 40)) (10 ^ 40) = false := by
  cases h with
  | flat f i => exact i
  | tup e => rfl
  | dct e => rfl
/-- two lists of it are equal -/
theorem Odd.ne1 {H : Hp} {v : V} {a b : Addr} {Q : VK} (h : Odd H v) (ha : H a = some (.lst [v])) (hb : H b = some (.lst [v])) (q : Q (.bl false) H) : rNe1 K (.ref a) (.ref b) H Q := by
  cases h with
  | flat f i => exact .inr ⟨_, _, dp_flat1 f.1 (SqL.of ha), dp_flat1 f.1 (SqL.of hb), f.2, f.2, by rw [eqv_flat1]; exact q⟩
  | tup e => exact .inl ⟨a, b, _, rfl, rfl, SqL.of ha, SqL.of hb, q⟩
  | dct e => exact .inl ⟨a, b, _, rfl, rfl, SqL.of ha, SqL.of hb, q⟩
theorem flat_ne1 {H : Hp} {v : V} {a b : Addr} {Q : VK} (f : flatS v) (ha : H a = some (.lst [v])) (hb : H b = some (.lst [v])) (q : Q (.bl false) H) : rNe1 K (.ref a) (.ref b) H Q :=
  .inr ⟨_, _, dp_flat1 f.1 (SqL.of ha), dp_flat1 f.1 (SqL.of hb), f.2, f.2, by rw [eqv_flat1]; exact q⟩
def spOdd (K : PySem.W.Frag) : Sp := fun vs H Q _ => ∃ (r a : Addr) (ns : List Int), vs = [.ref r] ∧ RowAt K H r a ns ∧ ∀ (v : V) (H' : Hp), Odd H' v → RowAt K H' r a ns → But r H H' → Q v H'
theorem ok__law_odd_number (T : Tx P K mg) : FnOk P w K mg base CX0 lv__law_odd_number T.a__law_odd_number T.d__law_odd_number ["_law_row"] (spOdd K) := by
  refine T.F__law_odd_number.ok sc__law_odd_number (fun vs H Q E h => ?_) (fun cdv A outer s H vs Q E hr h => ?_)
  · obtain ⟨r, a, ns, rfl, _⟩ := h
    rfl
  · obtain ⟨r, a, ns, rfl, R0, k⟩ := h
    refine ⟨_, (pss_one (ps_ret (pe_ix ix_list (pe_lst (pa_cons pe_non (pa_cons (pe_op op_add (pe_op op_pow pe_int pe_int) pe_int) (pa_cons (pe_op op_sub (pe_un un_neg (pe_op op_pow pe_int pe_int)) pe_int) (pa_cons pe_bl (pa_cons pe_str (pa_cons (pe_tup (pa_cons pe_int pa_nil)) (pa_cons pe_dnewK pa_nil)))))))) (pe_call (ok__law_taken T) (hr.mono (by decide)) rfl T.g__law_taken T.F__law_taken.kp T.b__law_taken .nil pass0 (pa_cons (pv 0) (pa_cons pe_int pa_nil))) (fun _ _ => rfl)))), ?_⟩
    refine ⟨_, _, rfl, rfl, ⟨by decide, by decide, by decide⟩, _, _, rfl, rfl, _, _, rfl, rfl, ⟨by decide, by decide, by decide⟩, _, rfl, _, _, rfl, rfl, by show 1 ≤ sizeLine; decide, fun p hp => ?_⟩
    intro q hq
    refine ⟨by show 7 ≤ sizeLine; decide, fun l hl => ⟨_, rfl, ?_⟩⟩
    have npr := R0.ne hp
    have R1 := R0.new (o := .tup [.int 7]) hp
    have nqr := R1.ne hq
    have R2 := R1.new (o := .dK []) hq
    have hpq : upd (upd H p (.tup [.int 7])) q (.dK []) p = some (.tup [.int 7]) := same_upd hq _ _ upd_same
    refine menuV (items := [.non, .int (10 ^ (40 : Int).toNat + 1), .int (-(10 ^ (40 : Int).toNat) - 1), .bl true, .str "7", .ref p, .ref q]) (fun z => z ∈ ([.non, .int (10 ^ (40 : Int).toNat + 1), .int (-(10 ^ (40 : Int).toNat) - 1), .bl true, .str "7", .ref p, .ref q] : List V)) (fun z h => h) rfl R2 hl (fun z H6 hz R6 B6 _ => ?_) (by show (0 : Int) < 7; decide) (by show (7 : Int) ≤ 10 ^ 41; decide)
    refine k z H6 ?_ R6 ((Same.but ((same_upd hp).trans (same_upd hq))).trans B6)
    have hp6 := B6 _ _ hpq npr
    have hq6 := B6 _ _ (upd_same (a := q)) nqr
    simp only [List.mem_cons, List.not_mem_nil, or_false] at hz
    rcases hz with rfl | rfl | rfl | rfl | rfl | rfl | rfl
    · exact .flat ⟨rfl, by decide +kernel⟩ (by decide +kernel)
    · exact .flat ⟨rfl, by decide +kernel⟩ (by decide +kernel)
    · exact .flat ⟨rfl, by decide +kernel⟩ (by decide +kernel)
    · exact .flat ⟨rfl, by decide +kernel⟩ (by decide +kernel)
    · exact .flat ⟨rfl, by decide +kernel⟩ (by decide +kernel)
    · exact .tup hp6
    · exact .dct hq6

/-! ### drawn chains -/
/-- the values are lists of these parts -/
def Pls (N : Addr → Prop) (H : Hp) : List V → List Prt → Prop
  | [], [] => True
  | v :: vs, z :: l => (∃ p, v = .ref p ∧ N p ∧ H p = some (.lst [.int z.1, .int z.2.1, .int z.2.2]) ∧ (2 ≤ z.1 ∧ z.1 ≤ 16 ∧ 1 ≤ z.2.1 ∧ z.2.1 ≤ 2 ∧ -100 ≤ z.2.2 ∧ z.2.2 ≤ 100)) ∧ Pls N H vs l
  | _, _ => False
theorem Pls.of {N N' : Addr → Prop} {H H' : Hp} (e : ∀ p o, N p → H p = some o → N' p ∧ H' p = some o) : ∀ {vs : List V} {l : List Prt}, Pls N H vs l → Pls N' H' vs l
  | [], [], _ => trivial
  | _ :: _, _ :: _, ⟨⟨q, h1, hn, h2, b⟩, h3⟩ => ⟨⟨q, h1, (e _ _ hn h2).1, (e _ _ hn h2).2, b⟩, h3.of e⟩
  | [], _ :: _, h => h.elim
  | _ :: _, [], h => h.elim
theorem Pls.same {N : Addr → Prop} {H H' : Hp} {vs : List V} {l : List Prt} (h : Pls N H vs l) (S : Same H H') : Pls N H' vs l := h.of fun p o n e => ⟨n, S _ _ e⟩
theorem Pls.but {N : Addr → Prop} {H H' : Hp} {r : Addr} {vs : List V} {l : List Prt} (h : Pls N H vs l) (hN : ∀ p, N p → p ≠ r) (B : But r H H') : Pls N H' vs l := h.of fun p o n e => ⟨n, B _ _ e (hN p n)⟩
theorem Pls.len {N : Addr → Prop} {H : Hp} : ∀ {vs : List V} {l : List Prt}, Pls N H vs l → vs.length = l.length
  | [], [], _ => rfl
  | _ :: _, _ :: _, ⟨_, h3⟩ => congrArg Nat.succ h3.len
  | [], _ :: _, h => h.elim
  | _ :: _, [], h => h.elim
theorem Pls.at {N : Addr → Prop} {H : Hp} : ∀ {vs : List V} {l : List Prt}, Pls N H vs l → ∀ {i : Nat} {y : V}, vs[i]? = some y → ∃ p z, y = .ref p ∧ l[i]? = some z ∧ N p ∧ H p = some (.lst [.int z.1, .int z.2.1, .int z.2.2]) ∧ (2 ≤ z.1 ∧ z.1 ≤ 16 ∧ 1 ≤ z.2.1 ∧ z.2.1 ≤ 2 ∧ -100 ≤ z.2.2 ∧ z.2.2 ≤ 100)
  | [], [], _, i, y, h => by cases h
  | _ :: _, z :: _, ⟨⟨q, h1, h2⟩, _⟩, 0, y, h => by
    cases h
    exact ⟨q, z, h1, rfl, h2⟩
  | _ :: _, _ :: _, ⟨_, h3⟩, i + 1, y, h => h3.at (i := i) h
  | [], _ :: _, h, _, _, _ => h.elim
  | _ :: _, [], h, _, _, _ => h.elim
theorem Pls.snoc {N : Addr → Prop} {H : Hp} {q : Addr} {z : Prt} (hn : N q) (hq : H q = some (.lst [.int z.1, .int z.2.1, .int z.2.2])) (b : 2 ≤ z.1 ∧ z.1 ≤ 16 ∧ 1 ≤ z.2.1 ∧ z.2.1 ≤ 2 ∧ -100 ≤ z.2.2 ∧ z.2.2 ≤ 100) : ∀ {vs : List V} {l : List Prt}, Pls N H vs l → Pls N H (vs ++ [.ref q]) (l ++ [z])
  | [], [], _ => ⟨⟨q, rfl, hn, hq, b⟩, trivial⟩
  | _ :: _, _ :: _, ⟨h1, h3⟩ => ⟨h1, h3.snoc hn hq b⟩
  | [], _ :: _, h => h.elim
  | _ :: _, [], h => h.elim
theorem But.putF {r p : Addr} {H H1 : Hp} {o : HO} (b : But r H H1) (hp : H p = none) : But r H (upd H1 p o) := fun c o' e n => by
  rw [upd_ne (ne_of_none e hp)]
  exact b c o' e n

/-! ### their tricks -/
def spLawTricks (T : Tx P K mg) : Sp := fun vs H Q _ => ∃ (N : Addr → Prop) (F : Addr) (ys : List V) (qs : List Prt), vs = [.ref F] ∧ H F = some (.lst ys) ∧ Pls N H ys qs ∧ ys.length ≤ 100 ∧
  ∀ (D : Addr) (us : List V) (H' : Hp), Same H H' → H D = none → H' D = some (.lst us) → Trs T H' us qs → Q (.ref D) H'
theorem ok__law_tricks (T : Tx P K mg) : FnOk P w K mg base CX0 lv__law_tricks T.a__law_tricks T.d__law_tricks ["_law_told"] (spLawTricks T) := by
  refine T.F__law_tricks.ok sc__law_tricks (fun vs H Q E h => ?_) (fun cdv A outer s H vs Q E hr h => ?_)
  · obtain ⟨N, F, ys, qs, rfl, _⟩ := h
    rfl
  · obtain ⟨N, F, ys, qs, rfl, hF, hP, ln, k⟩ := h
    refine ⟨_, (pss_one (ps_ret (pe_lc (own := [("_law_base", 1), ("_law_take", 2), ("_law_times", 3)]) (tt := tYes) (g := gUnl K 3 (gCons (gName 1) (gCons (gName 2) (gCons (gName 3) gNil)))) rfl sc__law_tricks.nd (pi_list (pv 0)) (blkOk_by (own := [("_law_base", 1), ("_law_take", 2), ("_law_times", 3)]) (N := ["_law_told", "_law_base", "_law_take", "_law_times"]) (sc := defScope s__law_tricks) (by decide +kernel)) (fun _ _ _ _ _ => pg_unl rfl (pgs_cons (pg_name (i := 1) sc__law_tricks.nd rfl (Or.inl rfl)) (pgs_cons (pg_name (i := 2) sc__law_tricks.nd rfl (Or.inl rfl)) (pgs_cons (pg_name (i := 3) sc__law_tricks.nd rfl (Or.inl rfl)) pgs_nil)))) (fun _ _ _ _ _ => pts_nil) (fun _ _ _ _ _ => (pe_make T.mk_Trick (ok_Trick___init__ T) (hr.mono (by decide)) rfl T.g_Trick T.b_Trick___init__ .nil pass0 (pa_cons (pv 1) (pa_cons (pv 2) (pa_cons (pv 3) pa_nil)))))))), ?_⟩
    refine ⟨_, rfl, F, rfl, ⟨_, SqL.of hF⟩, fun D hD => ?_⟩
    refine lc_it walk_list (fun i H2 => Same H H2 ∧ ∃ us, H2 D = some (.lst us) ∧ Trs T H2 us (qs.take i)) ⟨same_upd hD, [], upd_same, trivial⟩ (fun i H2 _ ⟨S2, _⟩ => SqL.of (S2 _ _ hF)) ?_ ?_
    · rintro i y H2 H3 hi ⟨S2, us, hD2, hT⟩ ⟨rfl, hy⟩
      obtain ⟨p, z, rfl, hz, _, hp, b1, b2, t1, t2, m1, m2⟩ := (hP.same S2).at hy
      refine ⟨p, _, rfl, SqL.of hp, rfl, _, _, rfl, _, _, rfl, _, _, rfl, rfl, rfl, _, rfl, _, rfl, _, rfl, fun q dx nq nd nn => mk_trick nq nd b1 b2 t1 t2 m1 m2 fun H4 hQ S4 => ?_⟩
      have hD4 := S4 _ _ hD2
      have el : us.length = i := by
        rw [hT.len, List.length_take]
        have := hP.len
        omega
      refine ⟨us, hD4, small1000 (by omega), fun e o he => ?_, us ++ [.ref q], upd_same, ?_⟩
      · rw [upd_ne (ne_of_none he hD)]
        exact S4 _ _ (S2 _ _ he)
      · have kT : ∀ p b t m, TrickAt T H4 p b t m → TrickAt T (upd H4 D (.lst (us ++ [.ref q]))) p b t m := fun p b t m h => by
          obtain ⟨⟨dx', e⟩, rest⟩ := h
          refine ⟨⟨dx', ?_⟩, rest⟩
          rw [upd_ne (fun z => by rw [z, hD4] at e; cases e)]
          exact e
        rw [take_snoc hz]
        exact ((hT.same S4).of kT).snoc (kT _ _ _ _ hQ)
    · rintro H2 ⟨S2, us, hD2, hT⟩
      rw [hP.len, List.take_length] at hT
      exact k D us H2 S2 hD hD2 hT

/-! ### reckoners in the law -/
def eqR (T : Tx P K mg) : Addr → Addr → Hp → Prop := fun a b H => ∃ x y z, TrickAt T H a x y z ∧ TrickAt T H b x y z
theorem eqR_mono (T : Tx P K mg) : ∀ a b H H', Ext H H' → eqR T a b H → eqR T a b H' := fun _ _ _ _ S ⟨x, y, z, h1, h2⟩ => ⟨x, y, z, h1.same S, h2.same S⟩
theorem eqR_ok (T : Tx P K mg) : FnOk P w K mg base CX0 lv_Trick___eq__ T.a_Trick___eq__ T.d_Trick___eq__ ["self", "other"] (spEq (eqR T)) :=
  (ok_Trick___eq__ T).imp fun vs H Q E ⟨a, b, e, ⟨x, y, z, h1, h2⟩, k⟩ => ⟨a, .ref b, x, y, z, e, h1, .inl ⟨b, x, y, z, rfl, h2, by
    rw [show eqB x y z x y z = true by simp [eqB]]
    exact k H fun _ _ e => e⟩⟩
abbrev sp_Reckoner_step (T : Tx P K mg) : Sp := spStep T
def spStepped (T : Tx P K mg) : Sp := fun vs H Q _ => ∃ (p : Addr) (x : V) (l1 l2 : Addr) (ns : List Int) (n : Int) (ts : List V) (qs : List Prt), vs = [.ref p, x] ∧ ReckAt T H p l1 l2 (ns ++ [n]) ts qs ∧ ((AnyV (fun _ => False) H x ∧ ∀ H', Same H H' → Q (.str "trick") H') ∨
  ∃ (q : Addr) (b t m : Int), x = .ref q ∧ TrickAt T H q b t m ∧ ns.length + 1 < 100 ∧ ts.length < 100 ∧
    ∀ H', ReckAt T H' p l1 l2 (ns ++ [n] ++ [made b t m n]) (ts ++ [x]) (qs ++ [(b, t, m)]) → But2 l1 l2 H H' → Q (.int (made b t m n)) H')
theorem ok__law_stepped (T : Tx P K mg) : FnOk P w K mg base CX0 lv__law_stepped T.a__law_stepped T.d__law_stepped ["_law_reckoner", "_law_trick_here"] (spStepped T) := by
  refine T.F__law_stepped.ok sc__law_stepped (fun vs H Q E h => ?_) (fun cdv A outer s H vs Q E hr h => ?_)
  · obtain ⟨p, x, l1, l2, ns, n, ts, qs, rfl, _⟩ := h
    rfl
  · obtain ⟨p, x, l1, l2, ns, n, ts, qs, rfl, R, h⟩ := h
    refine ⟨_, (pss_cons (ps_set (i := 2) sc__law_stepped.nd rfl (Or.inl rfl) pe_non)
      (pss_cons (ps_try_x (tb := fun W => (tAsg (tMeth T.C_Reckoner "step" (sp_Reckoner_step T) [] (fun cls d H => ∀ σ : L2.St, σ.length = 3 → W cls d σ H) (tVar 0) (tCons (tVar 1) tNil)) (gName 2))) rfl rfl sc__law_stepped.nd takes0 (fun W pn xe tk _ => (pss_one (ps_set (i := 2) sc__law_stepped.nd rfl (Or.inl rfl) (pe_meth (pv 0) T.cl_Reckoner T.m_Reckoner_step (ok_Reckoner_step T) (hr.mono (by decide)) T.b_Reckoner_step .nil (passN tk) (pa_cons (pv 1) pa_nil))))) (HdsX.un ⟨rfl, by decide, Or.inl T.g_BadTrick⟩ (fun a oe cls d pn hz hf => (pss_one (ps_set (i := 2) sc__law_stepped.nd rfl (Or.inl rfl) pe_str))) HdsX.nil))
      (pss_one (ps_ret (pv 2))))), ?_⟩
    obtain ⟨dx, ep⟩ := R.ob
    refine ⟨_, rfl, p, dx, _, rfl, ep, rf_no _ _ (by decide +kernel) (by decide +kernel), _, rfl, p, x, rfl, ?_⟩
    rcases h with ⟨ax, k⟩ | ⟨q, b, t, m, rfl, hq, z1, z2, k⟩
    · refine .inl ⟨ax, fun σ hσ => ?_⟩
      obtain ⟨v1, v2, v3, rfl⟩ : ∃ a b c, σ = [a, b, c] := match σ, hσ with
        | [a, b, c], _ => ⟨a, b, c, rfl⟩
      exact ⟨_, T.xm_BadTrick_BadTrick, fun _ c nc => ⟨_, rfl, k _ (Same.refl H)⟩, fun z => nomatch z⟩
    · exact .inr ⟨q, b, t, m, l1, l2, ns, n, ts, qs, rfl, hq, R, z1, z2, fun H' R' B => ⟨_, rfl, k H' R' B⟩⟩
def spIsReck (T : Tx P K mg) : Sp := fun vs H Q _ => ∃ (p s d l1 l2 : Addr) (ns : List Int) (n : Int) (ts ys : List V) (qs : List Prt) (N : Addr → Prop), vs = [.ref p, .ref s, .ref d] ∧ ReckAt T H p l1 l2 (ns ++ [n]) ts qs ∧ H s = some (.lst ((ns ++ [n]).map V.int)) ∧ H d = some (.lst ys) ∧ Pls N H ys qs ∧
  ∀ H', Same H H' → Q (.bl true) H'
theorem ok__law_is_reckoner (T : Tx P K mg) : FnOk P w K mg base CX0 lv__law_is_reckoner T.a__law_is_reckoner T.d__law_is_reckoner ["_law_reckoner", "_law_states", "_law_done_so"] (spIsReck T) := by
  refine T.F__law_is_reckoner.ok sc__law_is_reckoner (fun vs H Q E h => ?_) (fun cdv A outer s H vs Q E hr h => ?_)
  · obtain ⟨p, s, d, l1, l2, ns, n, ts, ys, qs, N, rfl, _⟩ := h
    rfl
  · obtain ⟨p, s, d, l1, l2, ns, n, ts, ys, qs, N, rfl, R, hs, hd, hP, k⟩ := h
    refine ⟨_, (pss_cons (ps_if (PW.pt (pw_or (pt_cmpR op_ne (pe_prop (pv 0) T.cl_Reckoner T.p_Reckoner_now (ok_Reckoner_now T) (hr.mono (by decide)) T.b_Reckoner_now .nil pass0 rfl) (pe_ix ix_list (pv 1) (pe_un un_neg pe_int) (fun _ _ => rfl)) (nomark _)) (pw_or (pt_cmpR op_ne (pe_callB (call_lenO (ok_Reckoner___len__ T) (hr.mono (by decide)) T.m_Reckoner___len__.at_ T.m_Reckoner___len__.fn T.b_Reckoner___len__ pass0) (by rfl) T.n_len (by decide +kernel) (pa_cons (pv 0) pa_nil)) (pe_callB call_len_seq (by rfl) T.n_len (by decide +kernel) (pa_cons (pv 2) pa_nil)) (nomark _)) (pw_or1 (pt_not (pt_val (pe_callB call_isi (by rfl) T.n_isinstance (by decide +kernel) (pa_cons (pe_prop (pv 0) T.cl_Reckoner T.p_Reckoner_tricks (ok_Reckoner_tricks T) (hr.mono (by decide)) T.b_Reckoner_tricks .nil pass0 rfl) (pa_cons (pe_bltn (v := .ty "tuple") rfl T.n_tuple (by decide +kernel) rfl) pa_nil))))))))) (pss_one (ps_ret pe_bl)) pss_nil)
      (pss_one (ps_ret (pe_cmpR (op_eqG (rcG_list (mon_ins (eqR_mono T)) (eqG_ins (eqR_ok T) T.m_Trick___eq__.at_ T.m_Trick___eq__.fn T.b_Trick___eq__ pass0)) (hr.mono (by decide))) (pe_callTy call_list_of (by rfl) T.n_list (by decide +kernel) (pa_cons (pe_prop (pv 0) T.cl_Reckoner T.p_Reckoner_tricks (ok_Reckoner_tricks T) (hr.mono (by decide)) T.b_Reckoner_tricks .nil pass0 rfl) pa_nil)) (pe_call (ok__law_tricks T) (hr.mono (by decide)) rfl T.g__law_tricks T.F__law_tricks.kp T.b__law_tricks .nil pass0 (pa_cons (pv 2) pa_nil)) (nomark _))))), ?_⟩
    obtain ⟨dx, ep⟩ := R.ob
    refine ⟨_, rfl, p, dx, _, rfl, ep, p, l1, l2, ns, n, ts, qs, rfl, R, _, rfl, _, rfl, s, _, _, _, rfl, rfl, SqL.of hs, (by rw [List.map_append]; exact at_last _ _), rfl, _, rfl, ?_⟩
    rw [decide_eq_true rfl]
    refine iteF ?_
    refine ⟨_, rfl, p, dx, _, rfl, ep, p, l1, l2, _, ts, qs, rfl, R, ts.length, rfl, Nat.le_of_lt (small1000 (by have := R.len; omega)), ?_⟩
    refine ⟨_, rfl, d, _, rfl, .inl (SqL.of hd), rfl, _, rfl, ?_⟩
    rw [decide_eq_true (show V.int (ts.length : Nat) = V.int (ys.length : Nat) by rw [R.trs.len, hP.len])]
    refine iteF ?_
    refine ⟨_, rfl, p, dx, _, rfl, ep, p, l1, l2, _, ts, qs, rfl, R, fun c H1 S1 hc => ?_⟩
    refine ⟨_, _, _, _, true, rfl, .ty _, .base (.tup hc), kit_ty (by decide +kernel), true, rfl, ?_⟩
    refine iteF ?_
    have R1 := R.same S1
    obtain ⟨dx1, ep1⟩ := R1.ob
    refine ⟨_, rfl, p, dx1, _, rfl, ep1, p, l1, l2, _, ts, qs, rfl, R1, fun c2 H2 S2 hc2 => ?_⟩
    refine ⟨_, _, rfl, .inr (SqT.of hc2), fun L hL => ?_⟩
    have S3 := (S1.trans S2).trans (same_upd (o := .lst ts) hL)
    refine ⟨_, rfl, N, d, ys, qs, rfl, S3 _ _ hd, hP.same S3, by rw [hP.len, ← R.trs.len]; exact R.len.2, fun D us H3 S4 hD0 hD hT => ?_⟩
    have S5 := S3.trans S4
    have R5 := R.same S5
    refine ⟨⟨L, D, ts, us, rfl, rfl, S4 _ _ upd_same, hD, by rw [R5.trs.len, hT.len], fun i x y hx hy => ?_⟩, fun H4 E4 => k H4 (S5.trans E4)⟩
    obtain ⟨a, z, rfl, hz, ha⟩ := R5.trs.at hx
    obtain ⟨b, z2, rfl, hz2, hb⟩ := hT.at hy
    rw [hz] at hz2
    cases hz2
    obtain ⟨⟨d1, e1⟩, _⟩ := id ha
    obtain ⟨⟨d2, e2⟩, _⟩ := id hb
    exact ⟨a, b, d1, d2, _, _, rfl, rfl, e1, e2, _, _, _, ha, hb⟩

/-! ### tuples cut and joined -/
theorem cutV_take (xs : List V) (k : Nat) : cutV xs none (some (k : Int)) = xs.take k := by
  unfold cutV
  rw [HT.sIx_none, HT.sIx_nat, List.drop_zero, Nat.sub_zero]
  rcases Nat.le_total k xs.length with h | h
  · rw [Nat.min_eq_left h]
  · rw [Nat.min_eq_right h, List.take_of_length_le (Nat.le_refl _), List.take_of_length_le h]
theorem cutV_drop (xs : List V) (k : Nat) : cutV xs (some (k : Int)) none = xs.drop k := by
  unfold cutV
  rw [HT.sIx_none, HT.sIx_nat]
  rcases Nat.le_total k xs.length with h | h
  · rw [Nat.min_eq_left h, List.take_of_length_le (by rw [List.length_drop]; exact Nat.le_refl _)]
  · rw [Nat.min_eq_right h, List.drop_of_length_le (Nat.le_refl _), List.drop_of_length_le h, List.take_nil]
/-- what is before it, then t[k + 1:] -/
theorem tail_cat {σ : L2.St} {H : Hp} {c q : Addr} {ys xs : List V} {k : Nat} {Q : VK} (h6 : σ[6]? = some (some (.ref q))) (h7 : σ[7]? = some (some (.int (k : Int)))) (hq : H q = some (.tup xs)) (hc : H c = some (.tup ys)) (ny : ys ≠ []) (sz : ys.length + xs.length ≤ 1000) (nk : xs ≠ [])
    (hQ : ∀ (w' : Addr) (H2 : Hp), Same H H2 → H2 w' = some (.tup (ys ++ xs.drop (k + 1))) → (w' = c ∨ H w' = none) → Q (.ref w') H2) :
    tSl (rSlT K) (tVar 6) (tPart (tOp (rI0 fun i j => V.int (i + j)) (tVar 7) (tC (V.int 1)))) tNoPart σ H (fun y H2 => rCatA K (.ref c) y H2 Q) := by
  have e1 : ((k : Int) + 1) = ((k + 1 : Nat) : Int) := by omega
  refine ⟨_, h6, _, h7, _, _, rfl, rfl, _, rfl, q, xs, rfl, SqT.of hq, ?_, fun p hp => ?_⟩
  · rintro ⟨z, _⟩
    rw [e1, HT.sIx_nat] at z
    have : 0 < xs.length := List.length_pos_iff.mpr nk
    omega
  · rw [e1, cutV_drop]
    have S := same_upd (o := .tup (xs.drop (k + 1))) hp
    refine ⟨c, p, ys, xs.drop (k + 1), rfl, rfl, SqT.of (S _ _ hc), SqT.of upd_same, ?_, fun e => absurd e ny, fun _ e => ?_, fun _ _ p2 hp2 => ?_⟩
    · have := List.length_drop (l := xs) (i := k + 1)
      have h2 : (1000 : Nat) ≤ sizeLine := by decide
      omega
    · refine hQ c _ S ?_ (.inl rfl)
      have e3 := S _ _ hc
      rw [e] at e3 ⊢
      rw [List.append_nil]
      exact e3
    · refine hQ p2 _ (S.trans (same_upd hp2)) upd_same (.inr ?_)
      by_cases z : p2 = p
      · rw [z]
        exact hp
      · rw [upd_ne z] at hp2
        exact hp2

/-! ### the law -/
/-- only the row and the two lists are changed -/
def Fr (r l1 l2 : Addr) (H H' : Hp) : Prop := ∀ c o, H c = some o → c ≠ r → c ≠ l1 → c ≠ l2 → H' c = some o
def LL (r l1 l2 : Addr) (H : Hp) : Prop := (∃ ys, H r = some (.lst ys)) ∧ (∃ ys, H l1 = some (.lst ys)) ∧ ∃ ys, H l2 = some (.lst ys)
def NN (r l1 l2 : Addr) (c : Addr) : Prop := c ≠ r ∧ c ≠ l1 ∧ c ≠ l2
theorem Fr.of_same {r l1 l2 : Addr} {H H' : Hp} (S : Same H H') : Fr r l1 l2 H H' := fun c o e _ _ _ => S c o e
theorem Fr.of_but {r l1 l2 : Addr} {H H' : Hp} (B : But r H H') : Fr r l1 l2 H H' := fun c o e n _ _ => B c o e n
theorem Fr.of_but2 {r l1 l2 : Addr} {H H' : Hp} (B : But2 l1 l2 H H') : Fr r l1 l2 H H' := fun c o e _ n1 n2 => B c o e n1 n2
theorem LL.nn {r l1 l2 c : Addr} {H : Hp} (L : LL r l1 l2 H) (h : H c = none) : NN r l1 l2 c := by
  obtain ⟨⟨_, e0⟩, ⟨_, e1⟩, ⟨_, e2⟩⟩ := L
  refine ⟨fun z => ?_, fun z => ?_, fun z => ?_⟩
  · rw [z, e0] at h; cases h
  · rw [z, e1] at h; cases h
  · rw [z, e2] at h; cases h
theorem LL.nno {r l1 l2 c : Addr} {H : Hp} {o : HO} (L : LL r l1 l2 H) (h : H c = some o) (no : ∀ zs, o ≠ .lst zs) : NN r l1 l2 c := by
  obtain ⟨⟨_, e0⟩, ⟨_, e1⟩, ⟨_, e2⟩⟩ := L
  refine ⟨fun z => ?_, fun z => ?_, fun z => ?_⟩
  · rw [z, e0] at h; cases h; exact no _ rfl
  · rw [z, e1] at h; cases h; exact no _ rfl
  · rw [z, e2] at h; cases h; exact no _ rfl
theorem Fr.rd {r l1 l2 c : Addr} {H H' : Hp} {o : HO} (F : Fr r l1 l2 H H') (n : NN r l1 l2 c) (h : H c = some o) : H' c = some o := F c o h n.1 n.2.1 n.2.2
theorem Fr.trick {T : Tx P K mg} {r l1 l2 q : Addr} {H H' : Hp} {b t m : Int} (F : Fr r l1 l2 H H') (L : LL r l1 l2 H) (h : TrickAt T H q b t m) : TrickAt T H' q b t m :=
  let ⟨⟨dx, e⟩, w⟩ := h
  ⟨⟨dx, F.rd (L.nno e fun _ z => nomatch z) e⟩, w⟩
/-- numbers, and parts of tricks, that stand aside -/
def St (r l1 l2 : Addr) (H : Hp) (s : Addr) (ns : List Int) : Prop := NN r l1 l2 s ∧ H s = some (.lst (ns.map V.int))
def Dn (r l1 l2 : Addr) (H : Hp) (d : Addr) (qs : List Prt) : Prop := NN r l1 l2 d ∧ ∃ ys, H d = some (.lst ys) ∧ Pls (NN r l1 l2) H ys qs
theorem St.fr {r l1 l2 s : Addr} {H H' : Hp} {ns : List Int} (h : St r l1 l2 H s ns) (F : Fr r l1 l2 H H') : St r l1 l2 H' s ns := ⟨h.1, F.rd h.1 h.2⟩
theorem Dn.fr {r l1 l2 d : Addr} {H H' : Hp} {qs : List Prt} (h : Dn r l1 l2 H d qs) (F : Fr r l1 l2 H H') : Dn r l1 l2 H' d qs :=
  let ⟨n, ys, e, P⟩ := h
  ⟨n, ys, F.rd n e, P.of fun _ _ np ep => ⟨np, F.rd np ep⟩⟩
/-- a reckoner that stands as the lists behind kp say -/
def Kept (T : Tx P K mg) (r l1 l2 : Addr) (H : Hp) (p kp : Addr) : Prop := ∃ (m1 m2 s d : Addr) (ms : List Int) (n : Int) (ts : List V) (qs : List Prt), ReckAt T H p m1 m2 (ms ++ [n]) ts qs ∧ NN r l1 l2 m1 ∧ NN r l1 l2 m2 ∧ NN r l1 l2 kp ∧ H kp = some (.lst [.ref s, .ref d]) ∧ St r l1 l2 H s (ms ++ [n]) ∧ Dn r l1 l2 H d qs
theorem Kept.fr {T : Tx P K mg} {r l1 l2 p kp : Addr} {H H' : Hp} (h : Kept T r l1 l2 H p kp) (F : Fr r l1 l2 H H') (L : LL r l1 l2 H) : Kept T r l1 l2 H' p kp := by
  obtain ⟨m1, m2, s, d, ms, n, ts, qs, R, n1, n2, nk, hk, hs, hd⟩ := h
  obtain ⟨dx, ep⟩ := R.ob
  exact ⟨m1, m2, s, d, ms, n, ts, qs, ⟨⟨dx, F.rd (L.nno ep fun _ z => nomatch z) ep⟩, F.rd n1 R.nums, F.rd n2 R.tris, R.trs.of fun _ _ _ _ h => F.trick L h, R.ne, R.len⟩, n1, n2, nk, F.rd nk hk, hs.fr F, hd.fr F⟩
/-- the reckoner of the law, and the lists that follow it -/
structure Live (T : Tx P K mg) (r a : Addr) (sc : List Int) (p l1 l2 : Addr) (H : Hp) (s d : Addr) (ms : List Int) (n : Int) (ts : List V) (qs : List Prt) : Prop where
  row : RowAt K H r a sc
  rk : ReckAt T H p l1 l2 (ms ++ [n]) ts qs
  ln : ms.length = qs.length
  n1 : l1 ≠ r
  n2 : l2 ≠ r
  st : St r l1 l2 H s (ms ++ [n])
  dn : Dn r l1 l2 H d qs
  hd : ∃ m0 rest, ms ++ [n] = m0 :: rest ∧ -(10 ^ 40) ≤ m0 ∧ m0 ≤ 10 ^ 40
theorem Live.ll {T : Tx P K mg} {r a : Addr} {sc : List Int} {p l1 l2 : Addr} {H : Hp} {s d : Addr} {ms : List Int} {n : Int} {ts : List V} {qs : List Prt} (h : Live T r a sc p l1 l2 H s d ms n ts qs) : LL r l1 l2 H :=
  ⟨h.row.lst, ⟨_, h.rk.nums⟩, ⟨_, h.rk.tris⟩⟩
theorem Live.same {T : Tx P K mg} {r a : Addr} {sc : List Int} {p l1 l2 : Addr} {H H' : Hp} {s d : Addr} {ms : List Int} {n : Int} {ts : List V} {qs : List Prt} (h : Live T r a sc p l1 l2 H s d ms n ts qs) (S : Same H H') : Live T r a sc p l1 l2 H' s d ms n ts qs :=
  ⟨h.row.same S, h.rk.same S, h.ln, h.n1, h.n2, h.st.fr (Fr.of_same S), h.dn.fr (Fr.of_same S), h.hd⟩
theorem Live.but {T : Tx P K mg} {r a : Addr} {sc : List Int} {p l1 l2 : Addr} {H H' : Hp} {s d : Addr} {ms : List Int} {n : Int} {ts : List V} {qs : List Prt} (h : Live T r a sc p l1 l2 H s d ms n ts qs) (R' : RowAt K H' r a sc) (B : But r H H') : Live T r a sc p l1 l2 H' s d ms n ts qs := by
  obtain ⟨dx, ep⟩ := h.rk.ob
  exact ⟨R', ⟨⟨dx, B _ _ ep (h.ll.nno ep fun _ z => nomatch z).1⟩, B _ _ h.rk.nums h.n1, B _ _ h.rk.tris h.n2, h.rk.trs.of fun _ _ _ _ w => (Fr.of_but B).trick h.ll w, h.rk.ne, h.rk.len⟩, h.ln, h.n1, h.n2, h.st.fr (Fr.of_but B), h.dn.fr (Fr.of_but B), h.hd⟩
theorem RowAt.but2 {r a l1 l2 : Addr} {sc : List Int} {H H' : Hp} {xs ys : List V} (h : RowAt K H r a sc) (B : But2 l1 l2 H H') (h1 : H l1 = some (.lst xs)) (h2 : H l2 = some (.lst ys)) (n1 : l1 ≠ r) (n2 : l2 ≠ r) : RowAt K H' r a sc := by
  obtain ⟨i, s, c, e1, e2, e3, e4, e5⟩ := h
  refine ⟨i, s, c, B _ _ e1 n1.symm n2.symm, e2, e3, e4.mono fun b o u z => B _ _ z (ne_of z h1 (by intro y; cases y)) (ne_of z h2 (by intro y; cases y)), e5⟩
theorem Live.kept {T : Tx P K mg} {r a : Addr} {sc : List Int} {p l1 l2 : Addr} {H H' : Hp} {s d : Addr} {ms : List Int} {n : Int} {ts : List V} {qs : List Prt} (h : Live T r a sc p l1 l2 H s d ms n ts qs) {p' m1 m2 kp : Addr} (S : Same H H') (R' : ReckAt T H' p' m1 m2 (ms ++ [n]) ts qs)
    (f1 : H m1 = none) (f2 : H m2 = none) (hk : H' kp = none) : Kept T r l1 l2 (upd H' kp (.lst [.ref s, .ref d])) p' kp := by
  have S2 := S.trans (same_upd (o := .lst [.ref s, .ref d]) hk)
  exact ⟨m1, m2, s, d, ms, n, ts, qs, R'.same (same_upd hk), h.ll.nn f1, h.ll.nn f2, (h.same S).ll.nn hk, upd_same, h.st.fr (Fr.of_same S2), h.dn.fr (Fr.of_same S2)⟩
theorem cut_states (ms : List Int) (n : Int) : cutV ((ms ++ [n]).map V.int) none (some (if ((((ms ++ [n]).map V.int).length : Nat) : Int) - 1 > 1 then ((((ms ++ [n]).map V.int).length : Nat) : Int) - 1 else 1)) = ((ms ++ [n]).take (max 1 ms.length)).map V.int := by
  have e : (if ((((ms ++ [n]).map V.int).length : Nat) : Int) - 1 > 1 then ((((ms ++ [n]).map V.int).length : Nat) : Int) - 1 else 1) = ((max 1 ms.length : Nat) : Int) := by
    rw [List.length_map, List.length_append, List.length_singleton]
    split <;> omega
  rw [e, cutV_take, List.map_take]
theorem cut_last (xs : List V) : cutV xs none (some (-1)) = xs.dropLast := by
  unfold cutV
  have e : HT.sIx xs.length xs.length (some (-1)) = xs.length - 1 := by
    show (if (-1 : Int) < 0 then ((-1 : Int) + (xs.length : Int)).toNat else min (-1 : Int).toNat xs.length) = xs.length - 1
    rw [if_pos (by decide)]
    omega
  rw [HT.sIx_none, e, List.drop_zero, Nat.sub_zero, List.dropLast_eq_take]
theorem Pls.take {N : Addr → Prop} {H : Hp} : ∀ {vs : List V} {l : List Prt} (k : Nat), Pls N H vs l → Pls N H (vs.take k) (l.take k)
  | [], [], k, _ => by rw [List.take_nil, List.take_nil]; trivial
  | _ :: _, _ :: _, 0, _ => trivial
  | _ :: _, _ :: _, k + 1, ⟨h1, h3⟩ => ⟨h1, h3.take k⟩
  | [], _ :: _, _, h => h.elim
  | _ :: _, [], _, h => h.elim
def sp_law (K : PySem.W.Frag) : Sp := fun vs H Q _ => ∃ (a : Addr) (ns : List Int), vs = [.ref a] ∧ Scr K H a (ns.map V.int) ∧ ns.length ≤ 63 ∧ ∀ H', Q (.bl true) H'
theorem ok_law (T : Tx P K mg) : FnOk P w K mg base CX0 lv_law T.a_law T.d_law ["_law_script"] (sp_law K) := by
  refine T.F_law.ok sc_law (fun vs H Q E h => ?_) (fun cdv A outer s H vs Q E hr h => ?_)
  · obtain ⟨a, ns, rfl, _⟩ := h
    rfl
  · obtain ⟨a, sc, rfl, hS, hlen, k⟩ := h
    refine ⟨_, (Evl.pss_cut (ps_set (i := 1) sc_law.nd rfl (Or.inl rfl) (pe_lst (pa_cons (pv 0) (pa_cons pe_int (pa_cons pe_int (pa_cons pe_int pa_nil))))))
      (Evl.pss_cut (ps_set (i := 2) sc_law.nd rfl (Or.inl rfl) (pe_call (ok__law_number T) (hr.mono (by decide)) rfl T.g__law_number T.F__law_number.kp T.b__law_number .nil pass0 (pa_cons (pv 1) pa_nil)))
      (Evl.pss_cut (ps_par3 (i := 3) (j := 4) (l := 5) rfl sc_law.nd rfl rfl rfl (by decide) (by decide) (by decide) rfl rfl rfl (pa_cons (pe_make T.mk_Reckoner (ok_Reckoner___init__ T) (hr.mono (by decide)) rfl T.g_Reckoner T.b_Reckoner___init__ .nil passL (pa_cons (pv 2) pa_nil)) (pa_cons (pe_lst (pa_cons (pv 2) pa_nil)) (pa_cons (pe_lst pa_nil) pa_nil))) (by rfl))
      (Evl.pss_cut (ps_par (i := 6) (j := 7) rfl sc_law.nd rfl rfl (by decide) rfl rfl (pa_cons (pe_meth0 (pv 3) T.cl_Reckoner T.m_Reckoner_copy (ok_Reckoner_copy T) (hr.mono (by decide)) T.b_Reckoner_copy .nil pass0) (pa_cons (pe_lst (pa_cons (pv 4) (pa_cons (pv 5) pa_nil))) pa_nil)) (by rfl))
      (pss_cons (ps_for PassesOwn.never rfl (pi_range1 (by rfl) T.n_range (pa_cons pe_int pa_nil)) (pg_name (i := 8) sc_law.nd rfl (Or.inl rfl)) (Evl.pss_cut (ps_set (i := 9) sc_law.nd rfl (Or.inl rfl) (pe_call (ok__law_taken T) (hr.mono (by decide)) rfl T.g__law_taken T.F__law_taken.kp T.b__law_taken .nil pass0 (pa_cons (pv 1) (pa_cons pe_int pa_nil))))
      (Evl.pss_cut (ps_if (pt_cmpR op_eq (pv 9) pe_int (nomark _)) (pss_cons (ps_if (pt_cmpR op_ne (pe_meth0 (pv 3) T.cl_Reckoner T.m_Reckoner_undo (ok_Reckoner_undo T) (hr.mono (by decide)) T.b_Reckoner_undo .nil pass0) (pe_cmpR (op_neNil hr.units) (pv 5) (pe_lst pa_nil) (nomark _)) (nomark _)) (pss_one (ps_ret pe_bl)) pss_nil)
      (pss_one (ps_par (i := 4) (j := 5) rfl sc_law.nd rfl rfl (by decide) rfl rfl (pa_cons (pe_slice sl_list (pv 4) po_none (po_some (pe_callB (call_max2 rfl) (by rfl) T.n_max (by decide +kernel) (pa_cons pe_int (pa_cons (pe_op op_sub (pe_callB call_len_seq (by rfl) T.n_len (by decide +kernel) (pa_cons (pv 4) pa_nil)) pe_int) pa_nil))))) (pa_cons (pe_slice sl_list (pv 5) po_none (po_some (pe_un un_neg pe_int))) pa_nil)) (by rfl)))) (pss_one (ps_if (pt_cmpR op_eq (pv 9) pe_int (nomark _)) (pss_one (ps_if (pt_cmpR op_ne (pe_call (ok__law_stepped T) (hr.mono (by decide)) rfl T.g__law_stepped T.F__law_stepped.kp T.b__law_stepped .nil pass0 (pa_cons (pv 3) (pa_cons (pe_ix ix_list (pe_lst (pa_cons pe_non (pa_cons (pe_tup (pa_cons pe_int (pa_cons pe_int (pa_cons pe_int pa_nil)))) (pa_cons pe_int (pa_cons pe_str pa_nil))))) (pe_call (ok__law_taken T) (hr.mono (by decide)) rfl T.g__law_taken T.F__law_taken.kp T.b__law_taken .nil pass0 (pa_cons (pv 1) (pa_cons pe_int pa_nil))) (fun _ _ => rfl)) pa_nil))) pe_str (nomark _)) (pss_one (ps_ret pe_bl)) pss_nil)) (Evl.pss_cut (ps_set (i := 10) sc_law.nd rfl (Or.inl rfl) (pe_call (ok__law_trick T) (hr.mono (by decide)) rfl T.g__law_trick T.F__law_trick.kp T.b__law_trick .nil pass0 (pa_cons (pv 1) (pa_cons pe_bl pa_nil))))
      (Evl.pss_cut (ps_set (i := 4) sc_law.nd rfl (Or.inl rfl) (pe_op op_cat (pv 4) (pe_lst (pa_cons (pe_call (ok__law_behind T) (hr.mono (by decide)) rfl T.g__law_behind T.F__law_behind.kp T.b__law_behind .nil pass0 (pa_cons (pv 10) (pa_cons (pe_ix ix_list (pv 4) (pe_un un_neg pe_int) (fun _ _ => rfl)) pa_nil))) pa_nil))))
      (Evl.pss_cut (ps_set (i := 5) sc_law.nd rfl (Or.inl rfl) (pe_op op_cat (pv 5) (pe_lst (pa_cons (pv 10) pa_nil))))
      (pss_one (ps_if (pt_cmpR op_ne (pe_call (ok__law_stepped T) (hr.mono (by decide)) rfl T.g__law_stepped T.F__law_stepped.kp T.b__law_stepped .nil pass0 (pa_cons (pv 3) (pa_cons (pe_make T.mk_Trick (ok_Trick___init__ T) (hr.mono (by decide)) rfl T.g_Trick T.b_Trick___init__ .nil pass0 (pa_cons (pe_ix ix_list (pv 10) pe_int (fun _ _ => rfl)) (pa_cons (pe_ix ix_list (pv 10) pe_int (fun _ _ => rfl)) (pa_cons (pe_ix ix_list (pv 10) pe_int (fun _ _ => rfl)) pa_nil)))) pa_nil))) (pe_ix ix_list (pv 4) (pe_un un_neg pe_int) (fun _ _ => rfl)) (nomark _)) (pss_one (ps_ret pe_bl)) pss_nil))))))))
      (Evl.pss_cut (ps_if (pt_not (pt_val (pe_call (ok__law_is_reckoner T) (hr.mono (by decide)) rfl T.g__law_is_reckoner T.F__law_is_reckoner.kp T.b__law_is_reckoner .nil pass0 (pa_cons (pv 3) (pa_cons (pv 4) (pa_cons (pv 5) pa_nil)))))) (pss_one (ps_ret pe_bl)) pss_nil)
      (pss_one (ps_if (pt_cmpR op_eq (pv 8) pe_int (nomark _)) (pss_one (ps_par (i := 6) (j := 7) rfl sc_law.nd rfl rfl (by decide) rfl rfl (pa_cons (pe_meth0 (pv 3) T.cl_Reckoner T.m_Reckoner_copy (ok_Reckoner_copy T) (hr.mono (by decide)) T.b_Reckoner_copy .nil pass0) (pa_cons (pe_lst (pa_cons (pv 4) (pa_cons (pv 5) pa_nil))) pa_nil)) (by rfl))) pss_nil))))))
      (Evl.pss_cut (ps_if (pt_not (pt_val (pe_call (ok__law_is_reckoner T) (hr.mono (by decide)) rfl T.g__law_is_reckoner T.F__law_is_reckoner.kp T.b__law_is_reckoner .nil pass0 (pa_cons (pv 6) (pa_cons (pe_ix ix_list (pv 7) pe_int (fun _ _ => rfl)) (pa_cons (pe_ix ix_list (pv 7) pe_int (fun _ _ => rfl)) pa_nil)))))) (pss_one (ps_ret pe_bl)) pss_nil)
      (Evl.pss_cut (ps_par (i := 11) (j := 12) rfl sc_law.nd rfl rfl (by decide) rfl rfl (pa_cons (pe_call (ok__law_odd_number T) (hr.mono (by decide)) rfl T.g__law_odd_number T.F__law_odd_number.kp T.b__law_odd_number .nil pass0 (pa_cons (pv 1) pa_nil)) (pa_cons (pe_lst pa_nil) pa_nil)) (by rfl))
      (Evl.pss_cut (ps_try_x (tb := fun W => (tDrop (tMakeS T.C_Reckoner (sp_Reckoner___init__ T) (WE W) (tCons (tVar 11) tNil)))) rfl rfl sc_law.nd takes0 (fun W pn xe tk _ => (pss_one (ps_expr (pe_makeS T.mk_Reckoner (ok_Reckoner___init__ T) (hr.mono (by decide)) rfl T.g_Reckoner T.b_Reckoner___init__ (fun σ => passAt tk σ) (pa_cons (pv 11) pa_nil))))) (HdsX.as (i := 13) rfl rfl ⟨rfl, by decide, Or.inl T.g_BadNumber⟩ (fun a oe cls d pn hz hf => (pss_one (ps_set (i := 12) sc_law.nd rfl (Or.inl rfl) (pe_lst (pa_cons (pe_errF T.x_BadNumber hz hf (pv 13)) pa_nil))))) HdsX.nil))
      (pss_one (ps_ret (pe_cmpR (op_eqV hr.units) (pv 12) (pe_lst (pa_cons (pv 11) pa_nil)) (nomark _)))))))))))), ?_⟩
    refine ⟨fun σ H1 => ∃ r, RowAt K H1 r a sc ∧ σ = [some (.ref a), some (.ref r), none, none, none, none, none, none, none, none, none, none, none, none], ?_, ?_⟩
    · exact ⟨_, rfl, by show 4 ≤ sizeLine; decide, fun r hr0 => ⟨r, RowAt.start hr0 hS hlen (by decide) (by decide), rfl⟩⟩
    clear hS
    rintro σ H1 ⟨r, R1, rfl⟩
    refine ⟨fun σ H1 => ∃ n : Int, -(10 ^ 40) ≤ n ∧ n ≤ 10 ^ 40 ∧ RowAt K H1 r a sc ∧ σ = [some (.ref a), some (.ref r), some (.int n), none, none, none, none, none, none, none, none, none, none, none], ?_, ?_⟩
    · exact ⟨_, rfl, r, a, sc, rfl, R1, fun v H2 v1 v2 R2 B2 => ⟨v, v1, v2, R2, rfl⟩⟩
    clear R1
    rintro σ H2 ⟨n, n1, n2, R2, rfl⟩
    refine ⟨fun σ H3 => ∃ p l1 l2 s d : Addr, Live T r a sc p l1 l2 H3 s d [] n [] [] ∧ σ = [some (.ref a), some (.ref r), some (.int n), some (.ref p), some (.ref s), some (.ref d), none, none, none, none, none, none, none, none], ?_, ?_⟩
    · refine ⟨_, rfl, fun p dx np nx ne => ?_⟩
      have gn : intIn (V.int n) (-(10 ^ 40)) (10 ^ 40) = true := intIn_of n1 n2
      refine ⟨p, dx, .int n, rfl, upd_same, .int n, fun g => Bool.noConfusion (gn.symm.trans g), fun n' H3 l1 l2 en _ _ ep e1 e2 f1 f2 d12 kp => ⟨rfl, ?_⟩⟩
      cases en
      have S0 : Same H2 (upd (upd H2 dx (.own p)) p (.ins T.C_Reckoner dx [])) := Same.made np nx fun _ _ e _ => e
      have S1 := Same.made np nx kp
      obtain ⟨yr, er⟩ := R2.lst
      refine ⟨_, rfl, by show 1 ≤ sizeLine; decide, fun s hs => ⟨by show 0 ≤ sizeLine; decide, fun d hd => ⟨_, _, _, rfl, p, l1, l2, s, d, ?_, rfl⟩⟩⟩
      have L3 : LL r l1 l2 H3 := ⟨⟨_, S1 _ _ er⟩, ⟨_, e1⟩, ⟨_, e2⟩⟩
      have S2 := same_upd (o := .lst [.int n]) hs
      have S3 := same_upd (o := .lst []) hd
      have L4 : LL r l1 l2 (upd H3 s (.lst [.int n])) := ⟨⟨_, S2 _ _ (S1 _ _ er)⟩, ⟨_, S2 _ _ e1⟩, ⟨_, S2 _ _ e2⟩⟩
      have rk : ReckAt T H3 p l1 l2 ([] ++ [n]) [] [] := ⟨⟨dx, ep⟩, e1, e2, trivial, d12, (by show 1 ≤ 100; decide), (by show 0 ≤ 100; decide)⟩
      exact ⟨((R2.same S1).same S2).same S3, (rk.same S2).same S3, rfl, (fun z => by rw [z, S0 _ _ er] at f1; cases f1), (fun z => by rw [z, S0 _ _ er] at f2; cases f2), ⟨L3.nn hs, S3 _ _ upd_same⟩, ⟨L4.nn hd, [], upd_same, trivial⟩, n, [], rfl, n1, n2⟩
    clear R2
    rintro σ H3 ⟨p, l1, l2, s, d, L, rfl⟩
    refine ⟨fun σ H4 => ∃ tw kp : Addr, Live T r a sc p l1 l2 H4 s d [] n [] [] ∧ Kept T r l1 l2 H4 tw kp ∧ σ = [some (.ref a), some (.ref r), some (.int n), some (.ref p), some (.ref s), some (.ref d), some (.ref tw), some (.ref kp), none, none, none, none, none, none], ?_, ?_⟩
    · obtain ⟨dx, ep⟩ := L.rk.ob
      refine ⟨_, rfl, p, dx, _, rfl, ep, rf_no _ _ (by decide +kernel) (by decide +kernel), p, l1, l2, n, [], [], [], rfl, L.rk, n1, n2, fun H4 p' m1 m2 S R' f1 f2 fp => ?_⟩
      refine ⟨_, rfl, _, rfl, by show 2 ≤ sizeLine; decide, fun kp hk => ⟨_, _, rfl, p', kp, (L.same S).same (same_upd hk), L.kept S R' f1 f2 hk, rfl⟩⟩
    clear n1 n2 L
    rintro σ H4 ⟨tw, kp, L, Kp, rfl⟩
    refine ⟨9, rfl, by decide, by decide, ?_⟩
    refine for_range (lo := 0) (n := 9) (fun i σ H5 => ∃ (s d : Addr) (ms : List Int) (n : Int) (ts : List V) (qs : List Prt) (tw kp : Addr) (x2 x8 x9 x10 x11 x12 x13 : Option V), ms.length ≤ i ∧ Live T r a sc p l1 l2 H5 s d ms n ts qs ∧ Kept T r l1 l2 H5 tw kp ∧ σ = [some (.ref a), some (.ref r), x2, some (.ref p), some (.ref s), some (.ref d), some (.ref tw), some (.ref kp), x8, x9, x10, x11, x12, x13]) ⟨s, d, [], n, [], [], tw, kp, _, _, _, _, _, _, _, Nat.le_refl _, L, Kp, rfl⟩ ?_ ?_
    · clear L Kp
      clear s d n tw kp H4
      rintro i σ H5 hi ⟨s, d, ms, n, ts, qs, tw, kp, x2, x8, x9, x10, x11, x12, x13, lm, L, Kp, rfl⟩
      refine ⟨fun σ H6 => ∃ v : Int, 0 ≤ v ∧ v < 4 ∧ Live T r a sc p l1 l2 H6 s d ms n ts qs ∧ Kept T r l1 l2 H6 tw kp ∧ σ = [some (.ref a), some (.ref r), x2, some (.ref p), some (.ref s), some (.ref d), some (.ref tw), some (.ref kp), some (.int (0 + (i : Int))), some (.int v), x10, x11, x12, x13], ?_, ?_⟩
      · exact ⟨_, rfl, r, a, sc, _, rfl, by decide, by decide, L.row, fun v H6 v0 v1 R6 B6 => ⟨v, v0, v1, L.but R6 B6, Kp.fr (Fr.of_but B6) L.ll, rfl⟩⟩
      clear L Kp
      rintro σ H6 ⟨v, v0, v1, L, Kp, rfl⟩
      refine ⟨fun σ H7 => ∃ (s d : Addr) (ms : List Int) (n : Int) (ts : List V) (qs : List Prt) (x10 : Option V), ms.length ≤ i + 1 ∧ Live T r a sc p l1 l2 H7 s d ms n ts qs ∧ Kept T r l1 l2 H7 tw kp ∧ σ = [some (.ref a), some (.ref r), x2, some (.ref p), some (.ref s), some (.ref d), some (.ref tw), some (.ref kp), some (.int (0 + (i : Int))), some (.int v), x10, x11, x12, x13], ?_, ?_⟩
      · obtain ⟨dx, ep⟩ := L.rk.ob
        refine ⟨_, rfl, rfl, _, rfl, ?_⟩
        refine ite2 (fun g => ?_) (fun g => ?_)
        · obtain ⟨nd, ys, ed, P⟩ := id L.dn
          refine ⟨_, rfl, p, dx, _, rfl, ep, rf_no _ _ (by decide +kernel) (by decide +kernel), p, l1, l2, ms ++ [n], ts, qs, rfl, L.rk, ?_, fun e0 => ?_, fun e0 H7 R7 B7 => ?_⟩
          · rw [List.length_append, L.ln, L.rk.trs.len]
            rfl
          · refine ⟨_, rfl, by show 0 ≤ sizeLine; decide, fun q hq => ⟨d, q, ys, rfl, rfl, SqL.of (same_upd hq _ _ ed), SqL.of upd_same, rfl, _, rfl, ?_⟩⟩
            have l0 : ys.length = 0 := by rw [P.len, ← L.rk.trs.len, e0]; rfl
            obtain rfl := List.eq_nil_of_length_eq_zero l0
            obtain rfl : qs = [] := List.eq_nil_of_length_eq_zero (by rw [← P.len]; rfl)
            obtain rfl : ms = [] := List.eq_nil_of_length_eq_zero (by rw [L.ln]; rfl)
            rw [decide_eq_true (show V.bl false = V.bl (!([] : List V).isEmpty) from rfl)]
            have L7 := L.same (same_upd (o := .lst []) hq)
            refine iteF ⟨_, rfl, _, rfl, s, _, rfl, .inl (SqL.of L7.st.2), _, _, rfl, rfl, _, _, rfl, _, rfl, s, _, rfl, SqL.of L7.st.2, fun f1 h1 => ?_⟩
            rw [cut_states]
            have L8 := L7.same (same_upd (o := .lst ((([] ++ [n]).take (max 1 ([] : List Int).length)).map V.int)) h1)
            obtain ⟨_, ys8, ed8, P8⟩ := id L8.dn
            have l8 : ys8 = [] := List.eq_nil_of_length_eq_zero (by rw [P8.len]; rfl)
            subst l8
            refine ⟨_, rfl, _, rfl, _, rfl, d, _, rfl, SqL.of ed8, fun f2 h2 => ?_⟩
            rw [cut_last]
            have S2 := same_upd (o := .lst ([] : List V).dropLast) h2
            refine ⟨_, _, rfl, f1, f2, [], n, ts, [], _, Nat.zero_le _, { L8.same S2 with st := ⟨L7.ll.nn h1, S2 _ _ upd_same⟩, dn := ⟨L8.ll.nn h2, [], upd_same, trivial⟩ }, ?_, rfl⟩
            exact Kp.fr (Fr.of_same (((same_upd (o := .lst []) hq).trans (same_upd (o := .lst ((([] ++ [n]).take (max 1 ([] : List Int).length)).map V.int)) h1)).trans S2)) L.ll
          · refine ⟨_, rfl, by show 0 ≤ sizeLine; decide, fun q hq => ⟨d, q, ys, rfl, rfl, SqL.of (same_upd hq _ _ ((Fr.of_but2 B7).rd nd ed)), SqL.of upd_same, rfl, _, rfl, ?_⟩⟩
            have lt : 0 < ts.length := List.length_pos_iff.mpr e0
            have ly : ys.length = ts.length := by rw [P.len, L.rk.trs.len]
            have lms : ms.length = ts.length := by rw [L.ln, L.rk.trs.len]
            have nms : ms ≠ [] := fun z => by rw [z] at lms; exact absurd lms (by show ¬ 0 = ts.length; omega)
            have ey : (!ys.isEmpty) = true := by
              cases ys with
              | nil => exact absurd ly (by show ¬ 0 = ts.length; omega)
              | cons => rfl
            rw [ey, decide_eq_true rfl]
            rw [List.dropLast_concat] at R7
            have F7 : Fr r l1 l2 H6 (upd H7 q (.lst [])) := fun c o e a1 a2 a3 => same_upd hq _ _ (B7 c o e a2 a3)
            have st7 := L.st.fr F7
            have dn7 := L.dn.fr F7
            have row7 := (L.row.but2 B7 L.rk.nums L.rk.tris L.n1 L.n2).same (same_upd (o := .lst []) hq)
            have rk7 := R7.same (same_upd (o := .lst []) hq)
            have Kp7 := Kp.fr F7 L.ll
            have ll7 : LL r l1 l2 (upd H7 q (.lst [])) := ⟨row7.lst, ⟨_, rk7.nums⟩, ⟨_, rk7.tris⟩⟩
            generalize upd H7 q (.lst []) = H8 at *
            obtain ⟨_, ys8, ed8, P8⟩ := id dn7
            obtain ⟨ms', n', rfl⟩ : ∃ ms' n', ms = ms' ++ [n'] := ⟨ms.dropLast, ms.getLast nms, (List.dropLast_concat_getLast nms).symm⟩
            refine iteF ⟨_, rfl, _, rfl, s, _, rfl, .inl (SqL.of st7.2), _, _, rfl, rfl, _, _, rfl, _, rfl, s, _, rfl, SqL.of st7.2, fun f1 h1 => ?_⟩
            rw [cut_states, show ((ms' ++ [n']) ++ [n]).take (max 1 (ms' ++ [n']).length) = ms' ++ [n'] by
              rw [show max 1 (ms' ++ [n']).length = (ms' ++ [n']).length by rw [List.length_append, List.length_singleton]; omega]
              exact List.take_left' rfl]
            have S1 := same_upd (o := .lst ((ms' ++ [n']).map V.int)) h1
            refine ⟨_, rfl, _, rfl, _, rfl, d, _, rfl, SqL.of (S1 _ _ ed8), fun f2 h2 => ?_⟩
            rw [cut_last]
            have S2 := same_upd (o := .lst ys8.dropLast) h2
            have S := S1.trans S2
            have tk := (P8.same S).take (ys8.length - 1)
            rw [show ys8.take (ys8.length - 1) = ys8.dropLast from List.dropLast_eq_take.symm, show qs.take (ys8.length - 1) = qs.dropLast by rw [P8.len]; exact List.dropLast_eq_take.symm] at tk
            obtain ⟨m0, rest, eh, b1, b2⟩ := L.hd
            have lq := L.ln
            refine ⟨_, _, rfl, f1, f2, ms', n', ts.dropLast, qs.dropLast, _, ?_, ⟨row7.same S, rk7.same S, ?_, L.n1, L.n2, ⟨ll7.nn h1, S2 _ _ upd_same⟩, ⟨?_, ys8.dropLast, upd_same, tk⟩, ?_⟩, Kp7.fr (Fr.of_same S) ll7, rfl⟩
            · rw [List.length_append, List.length_singleton] at lm
              omega
            · rw [List.length_dropLast, ← lq, List.length_append, List.length_singleton]
              rfl
            · exact LL.nn ⟨⟨_, S1 _ _ row7.lst.choose_spec⟩, ⟨_, S1 _ _ rk7.nums⟩, ⟨_, S1 _ _ rk7.tris⟩⟩ h2
            · cases ms' with
              | nil => exact ⟨n', [], rfl, (by cases eh; exact b1), (by cases eh; exact b2)⟩
              | cons x l => exact ⟨x, l ++ [n'], rfl, (by cases eh; exact b1), (by cases eh; exact b2)⟩
        · refine ⟨_, rfl, rfl, _, rfl, ?_⟩
          refine ite2 (fun g2 => ?_) (fun g2 => ?_)
          · refine ⟨_, rfl, by show 3 ≤ sizeLine; decide, fun t ht => ⟨by show 4 ≤ sizeLine; decide, fun m hm => ⟨_, rfl, ?_⟩⟩⟩
            have S1 := same_upd (o := .tup [.int 10, .int 1, .int 1]) ht
            have L1 := L.same S1
            refine menuV (items := [.non, .ref t, .int 10, .str "base"]) (fun z => z ∈ ([.non, .ref t, .int 10, .str "base"] : List V)) (fun z h => h) rfl L1.row hm (fun z H8 hz R8 B8 _ => ?_) (by show (0 : Int) < 4; decide) (by show (4 : Int) ≤ 10 ^ 41; decide)
            have ntr : t ≠ r := (L1.ll.nno (upd_same (H := H6) (a := t) (o := .tup [.int 10, .int 1, .int 1])) fun _ z => nomatch z).1
            have kt := B8 _ _ (upd_same (H := H6) (a := t) (o := .tup [.int 10, .int 1, .int 1])) ntr
            have L8 := L1.but R8 B8
            refine ⟨p, z, l1, l2, ms, n, ts, qs, rfl, L8.rk, .inl ⟨?_, fun H9 S9 => ⟨rfl, _, rfl, ?_⟩⟩⟩
            · simp only [List.mem_cons, List.not_mem_nil, or_false] at hz
              rcases hz with rfl | rfl | rfl | rfl
              · exact .non
              · exact .tup kt
              · exact .int _
              · exact .str _
            · rw [decide_eq_true rfl]
              exact iteF ⟨s, d, ms, n, ts, qs, _, by omega, L8.same S9, (Kp.fr (Fr.of_same S1) L.ll).fr (Fr.of_but B8) L1.ll |>.fr (Fr.of_same S9) L8.ll, rfl⟩
          · refine ⟨fun σ H7 => ∃ (b t m : Int) (q : Addr), 2 ≤ b ∧ b ≤ 16 ∧ 1 ≤ t ∧ t ≤ 2 ∧ -100 ≤ m ∧ m ≤ 100 ∧ NN r l1 l2 q ∧ H7 q = some (.lst [.int b, .int t, .int m]) ∧ Live T r a sc p l1 l2 H7 s d ms n ts qs ∧ Kept T r l1 l2 H7 tw kp ∧ σ = [some (.ref a), some (.ref r), x2, some (.ref p), some (.ref s), some (.ref d), some (.ref tw), some (.ref kp), some (.int (0 + (i : Int))), some (.int v), some (.ref q), x11, x12, x13], ?_, ?_⟩
            · exact ⟨_, rfl, r, a, sc, false, rfl, L.row, fun b t m q H7 b1 b2 t1 t2 _ m1 m2 R7 B7 hq0 hq nqr => ⟨b, t, m, q, b1, b2, t1, t2, m1, m2, L.ll.nn hq0, hq, L.but R7 B7, Kp.fr (Fr.of_but B7) L.ll, rfl⟩⟩
            clear ep L Kp
            rintro σ H7 ⟨b, t, m, q, b1, b2, t1, t2, m1, m2, nq, hq, L, Kp, rfl⟩
            have eb := behind_made (b := b) (t := t) (m := m) (n := n) (block_bd (t := t) b1 b2).1
            refine ⟨fun σ H8 => ∃ s' : Addr, St r l1 l2 H8 s' (ms ++ [n] ++ [made b t m n]) ∧ H8 q = some (.lst [.int b, .int t, .int m]) ∧ Live T r a sc p l1 l2 H8 s d ms n ts qs ∧ Kept T r l1 l2 H8 tw kp ∧ σ = [some (.ref a), some (.ref r), x2, some (.ref p), some (.ref s'), some (.ref d), some (.ref tw), some (.ref kp), some (.int (0 + (i : Int))), some (.int v), some (.ref q), x11, x12, x13], ?_, ?_⟩
            · refine ⟨_, rfl, _, rfl, _, rfl, _, rfl, s, _, _, _, rfl, rfl, SqL.of L.st.2, (by rw [List.map_append]; exact at_last _ _), q, b, t, m, n, rfl, SqL.of hq, b1, b2, m1, m2, by show 1 ≤ sizeLine; decide, fun f1 h1 => ?_⟩
              rw [eb]
              have S1 := same_upd (o := .lst [V.int (made b t m n)]) h1
              have L1 := L.same S1
              refine ⟨s, f1, _, _, rfl, rfl, L1.st.2, upd_same, Nat.le_of_lt (small1000 ?_), fun f2 h2 => ?_⟩
              · rw [List.length_map, List.length_append]
                show ms.length + 1 + 1 ≤ 1000
                omega
              have S2 := same_upd (o := .lst ((ms ++ [n]).map V.int ++ [V.int (made b t m n)])) h2
              refine ⟨f2, ⟨L1.ll.nn h2, ?_⟩, S2 _ _ (S1 _ _ hq), L1.same S2, Kp.fr (Fr.of_same (S1.trans S2)) L.ll, rfl⟩
              rw [upd_same, List.map_append (l₁ := ms ++ [n])]
              rfl
            clear L Kp hq
            rintro σ H8 ⟨s', hs', hq, L, Kp, rfl⟩
            refine ⟨fun σ H9 => ∃ d' : Addr, Dn r l1 l2 H9 d' (qs ++ [(b, t, m)]) ∧ St r l1 l2 H9 s' (ms ++ [n] ++ [made b t m n]) ∧ H9 q = some (.lst [.int b, .int t, .int m]) ∧ Live T r a sc p l1 l2 H9 s d ms n ts qs ∧ Kept T r l1 l2 H9 tw kp ∧ σ = [some (.ref a), some (.ref r), x2, some (.ref p), some (.ref s'), some (.ref d'), some (.ref tw), some (.ref kp), some (.int (0 + (i : Int))), some (.int v), some (.ref q), x11, x12, x13], ?_, ?_⟩
            · obtain ⟨ndd, ys, ed, P⟩ := id L.dn
              refine ⟨_, rfl, _, rfl, by show 1 ≤ sizeLine; decide, fun f1 h1 => ?_⟩
              have S1 := same_upd (o := .lst [V.ref q]) h1
              have L1 := L.same S1
              refine ⟨d, f1, _, _, rfl, rfl, S1 _ _ ed, upd_same, Nat.le_of_lt (small1000 ?_), fun f2 h2 => ?_⟩
              · rw [P.len, ← L.ln]
                show ms.length + 1 ≤ 1000
                omega
              have S2 := same_upd (o := .lst (ys ++ [V.ref q])) h2
              have S := S1.trans S2
              exact ⟨f2, ⟨L1.ll.nn h2, _, upd_same, (P.same S).snoc (z := (b, t, m)) nq (S _ _ hq) ⟨b1, b2, t1, t2, m1, m2⟩⟩, hs'.fr (Fr.of_same S), S _ _ hq, L.same S, Kp.fr (Fr.of_same S) L.ll, rfl⟩
            clear L Kp hq hs'
            rintro σ H9 ⟨d', hd', hs', hq, L, Kp, rfl⟩
            refine ⟨_, rfl, _, rfl, q, _, _, _, rfl, rfl, SqL.of hq, at_of (j := 0) rfl rfl, _, rfl, q, _, _, _, rfl, rfl, SqL.of hq, at_of (j := 1) rfl rfl, _, rfl, q, _, _, _, rfl, rfl, SqL.of hq, at_of (j := 2) rfl rfl, fun u du nu ndu nn => mk_trick nu ndu b1 b2 t1 t2 m1 m2 fun H10 hT S10 => ?_⟩
            have L10 := L.same S10
            have lts : ts.length = ms.length := by rw [L.rk.trs.len, L.ln]
            refine ⟨p, .ref u, l1, l2, ms, n, ts, qs, rfl, L10.rk, .inr ⟨u, b, t, m, rfl, hT, by omega, by omega, fun H11 R11 B11 => ?_⟩⟩
            have F11 : Fr r l1 l2 H10 H11 := Fr.of_but2 B11
            have st11 := (hs'.fr (Fr.of_same S10)).fr F11
            refine ⟨_, rfl, _, rfl, s', _, _, _, rfl, rfl, SqL.of st11.2, (by rw [List.map_append]; exact at_last _ _), rfl, _, rfl, ?_⟩
            rw [decide_eq_true rfl]
            obtain ⟨m0, rest, eh, c1, c2⟩ := L.hd
            refine iteF ⟨s', d', ms ++ [n], made b t m n, ts ++ [.ref u], qs ++ [(b, t, m)], _, ?_, ⟨L10.row.but2 B11 L10.rk.nums L10.rk.tris L.n1 L.n2, R11, ?_, L.n1, L.n2, st11, (hd'.fr (Fr.of_same S10)).fr F11, m0, rest ++ [made b t m n], by rw [eh]; rfl, c1, c2⟩, (Kp.fr (Fr.of_same S10) L.ll).fr F11 L10.ll, rfl⟩
            · rw [List.length_append, List.length_singleton]
              omega
            · rw [List.length_append, List.length_append, L.ln]
              rfl
      clear L Kp
      clear s d ms n ts qs x10 lm H6
      rintro σ H7 ⟨s, d, ms, n, ts, qs, x10, lm, L, Kp, rfl⟩
      obtain ⟨_, ys, ed, P⟩ := id L.dn
      refine ⟨fun σ H8 => Live T r a sc p l1 l2 H8 s d ms n ts qs ∧ Kept T r l1 l2 H8 tw kp ∧ σ = [some (.ref a), some (.ref r), x2, some (.ref p), some (.ref s), some (.ref d), some (.ref tw), some (.ref kp), some (.int (0 + (i : Int))), some (.int v), x10, x11, x12, x13], ?_, ?_⟩
      · refine ⟨_, rfl, _, rfl, _, rfl, p, s, d, l1, l2, ms, n, ts, ys, qs, _, rfl, L.rk, L.st.2, ed, P, fun H8 S8 => ⟨_, rfl, iteF ⟨L.same S8, Kp.fr (Fr.of_same S8) L.ll, rfl⟩⟩⟩
      clear L Kp P ed
      rintro σ H8 ⟨L, Kp, rfl⟩
      refine ⟨_, rfl, rfl, _, rfl, ?_⟩
      refine ite2 (fun g => ?_) (fun g => ?_)
      · obtain ⟨dx, ep⟩ := L.rk.ob
        obtain ⟨m0, rest, eh, b1, b2⟩ := L.hd
        refine ⟨_, rfl, p, dx, _, rfl, ep, rf_no _ _ (by decide +kernel) (by decide +kernel), p, l1, l2, m0, rest, ts, qs, rfl, eh ▸ L.rk, b1, b2, fun H9 p' m1 m2 S R' f1 f2 fp => ?_⟩
        refine ⟨_, rfl, _, rfl, by show 2 ≤ sizeLine; decide, fun kp hk => ⟨_, _, rfl, s, d, ms, n, ts, qs, p', kp, _, _, _, _, _, _, _, lm, (L.same S).same (same_upd hk), L.kept S (eh ▸ R') f1 f2 hk, rfl⟩⟩
      · exact ⟨s, d, ms, n, ts, qs, tw, kp, _, _, _, _, _, _, _, lm, L, Kp, rfl⟩
    · clear L Kp
      clear s d n tw kp H4
      rintro σ H5 ⟨s, d, ms, n, ts, qs, tw, kp, x2, x8, x9, x10, x11, x12, x13, lm, L, Kp, rfl⟩
      obtain ⟨m1, m2, s', d', ms', n', ts', qs', R', nn1, nn2, nk, hk, hs, _, ys', ed', P'⟩ := id Kp
      refine ⟨fun σ H8 => RowAt K H8 r a sc ∧ σ = [some (.ref a), some (.ref r), x2, some (.ref p), some (.ref s), some (.ref d), some (.ref tw), some (.ref kp), x8, x9, x10, x11, x12, x13], ?_, ?_⟩
      · exact ⟨_, rfl, _, rfl, kp, _, _, _, rfl, rfl, SqL.of hk, at_of (j := 0) rfl rfl, _, rfl, kp, _, _, _, rfl, rfl, SqL.of hk, at_of (j := 1) rfl rfl, tw, s', d', m1, m2, ms', n', ts', ys', qs', _, rfl, R', hs.2, ed', P', fun H8 S8 => ⟨_, rfl, iteF ⟨L.row.same S8, rfl⟩⟩⟩
      clear L Kp R' nn1 nn2 nk hk hs ed' P'
      rintro σ H8 ⟨R8, rfl⟩
      refine ⟨fun σ H9 => ∃ (z : V) (f : Addr), Odd H9 z ∧ σ = [some (.ref a), some (.ref r), x2, some (.ref p), some (.ref s), some (.ref d), some (.ref tw), some (.ref kp), x8, x9, x10, some z, some (.ref f), x13], ?_, ?_⟩
      · exact ⟨_, rfl, r, a, sc, rfl, R8, fun z H9 oz R9 B9 => ⟨by show 0 ≤ sizeLine; decide, fun f hf => ⟨_, _, rfl, z, f, oz.same (same_upd hf), rfl⟩⟩⟩
      clear R8
      rintro σ H9 ⟨z, f, oz, rfl⟩
      refine ⟨fun σ H10 => ∃ (F : Addr) (x13 : Option V), Odd H10 z ∧ H10 F = some (.lst [z]) ∧ σ = [some (.ref a), some (.ref r), x2, some (.ref p), some (.ref s), some (.ref d), some (.ref tw), some (.ref kp), x8, x9, x10, some z, some (.ref F), x13], ?_, ?_⟩
      · refine ⟨_, rfl, fun q dq nq nd ne => ?_⟩
        have S0 : Same H9 (upd (upd H9 dq (.own q)) q (.ins T.C_Reckoner dq [])) := Same.made nq nd fun _ _ e _ => e
        refine ⟨q, dq, z, rfl, upd_same, (oz.same S0).any, fun _ dd hd => ?_, fun n' H' l1 l2 en b1 b2 => ?_⟩
        · have S1 := S0.trans (same_upd (o := .xd [(("n" : Str), z)]) hd)
          exact ⟨_, T.xm_BadNumber_BadNumber, fun _ c nc => ⟨_, rfl, rfl, rfl, dd, _, rfl, upd_same, by show 1 ≤ sizeLine; decide, fun F hF => ⟨F, _, oz.same (S1.trans (same_upd hF)), upd_same, rfl⟩⟩, fun z => nomatch z⟩
        · have g := oz.no
          rw [en, intIn_of b1 b2] at g
          cases g
      clear oz
      rintro σ H10 ⟨F, x13, oz, hF, rfl⟩
      refine ⟨_, rfl, _, rfl, by show 1 ≤ sizeLine; decide, fun q hq => ⟨1, by decide, .inl ⟨F, q, [z], [z], rfl, rfl, SqL.of (same_upd hq _ _ hF), SqL.of upd_same, .cons ?_ .nil⟩, k _⟩⟩
      cases oz with
      | flat f i =>
        refine .inl ⟨rfl, ?_⟩
        have f1 := f.1
        cases z with
        | non => rfl
        | bl b => rfl
        | int i => rfl
        | str x => rfl
        | _ => cases f1
      | tup e => exact .inr (.inl ⟨_, rfl, rfl⟩)
      | dct e => exact .inr (.inl ⟨_, rfl, rfl⟩)

end
/-! ### the end -/
theorem all_mk {l : PySem.W.OpenLaw} {w : World} {K : PySem.W.Frag} {h : Heap} {mg : Str → Option Value} {fa : Addr} (X : K.In h) (G : h.Ns mainGlobals mg) (hfa : mg "law" = some (.ref fa))
    {C_TrickError : Addr}
    {C_BadBase : Addr}
    {C_BadTake : Addr}
    {C_BadTimes : Addr}
    {C_BadTrick : Addr}
    {C_BadNumber : Addr}
    {tk_GREATEST_NUMBER : Tok}
    {tk_LEAST_BASE : Tok}
    {tk_GREATEST_BASE : Tok}
    {tk_GREATEST_TAKE : Tok}
    {tk_GREATEST_TIMES : Tok}
    {a_is_integer : Addr} {od_is_integer an_is_integer : Option Addr} {sl_is_integer : Array (Option Value)} {oc_is_integer kV_is_integer dc_is_integer pm_is_integer cd_is_integer ct_is_integer : Value}
    {a_is_number : Addr} {od_is_number an_is_number : Option Addr} {sl_is_number : Array (Option Value)} {oc_is_number kV_is_number dc_is_number pm_is_number cd_is_number ct_is_number : Value}
    {a_check_base : Addr} {od_check_base an_check_base : Option Addr} {sl_check_base : Array (Option Value)} {oc_check_base kV_check_base dc_check_base pm_check_base cd_check_base ct_check_base : Value}
    {a_check_take : Addr} {od_check_take an_check_take : Option Addr} {sl_check_take : Array (Option Value)} {oc_check_take kV_check_take dc_check_take pm_check_take cd_check_take ct_check_take : Value}
    {a_check_number : Addr} {od_check_number an_check_number : Option Addr} {sl_check_number : Array (Option Value)} {oc_check_number kV_check_number dc_check_number pm_check_number cd_check_number ct_check_number : Value}
    {a_block_of : Addr} {od_block_of an_block_of : Option Addr} {sl_block_of : Array (Option Value)} {oc_block_of kV_block_of dc_block_of pm_block_of cd_block_of ct_block_of : Value}
    {a_check_trick : Addr} {od_check_trick an_check_trick : Option Addr} {sl_check_trick : Array (Option Value)} {oc_check_trick kV_check_trick dc_check_trick pm_check_trick cd_check_trick ct_check_trick : Value}
    {a_trick_block : Addr} {od_trick_block an_trick_block : Option Addr} {sl_trick_block : Array (Option Value)} {oc_trick_block kV_trick_block dc_trick_block pm_trick_block cd_trick_block ct_trick_block : Value}
    {a_made_of : Addr} {od_made_of an_made_of : Option Addr} {sl_made_of : Array (Option Value)} {oc_made_of kV_made_of dc_made_of pm_made_of cd_made_of ct_made_of : Value}
    {a_made_with : Addr} {od_made_with an_made_with : Option Addr} {sl_made_with : Array (Option Value)} {oc_made_with kV_made_with dc_made_with pm_made_with cd_made_with ct_made_with : Value}
    {a__law_taken : Addr} {od__law_taken an__law_taken : Option Addr} {sl__law_taken : Array (Option Value)} {oc__law_taken kV__law_taken dc__law_taken pm__law_taken cd__law_taken ct__law_taken : Value}
    {a__law_power : Addr} {od__law_power an__law_power : Option Addr} {sl__law_power : Array (Option Value)} {oc__law_power kV__law_power dc__law_power pm__law_power cd__law_power ct__law_power : Value}
    {a__law_trick : Addr} {od__law_trick an__law_trick : Option Addr} {sl__law_trick : Array (Option Value)} {oc__law_trick kV__law_trick dc__law_trick pm__law_trick cd__law_trick ct__law_trick : Value}
    {a__law_behind : Addr} {od__law_behind an__law_behind : Option Addr} {sl__law_behind : Array (Option Value)} {oc__law_behind kV__law_behind dc__law_behind pm__law_behind cd__law_behind ct__law_behind : Value}
    {a__law_number : Addr} {od__law_number an__law_number : Option Addr} {sl__law_number : Array (Option Value)} {oc__law_number kV__law_number dc__law_number pm__law_number cd__law_number ct__law_number : Value}
    {a__law_odd_number : Addr} {od__law_odd_number an__law_odd_number : Option Addr} {sl__law_odd_number : Array (Option Value)} {oc__law_odd_number kV__law_odd_number dc__law_odd_number pm__law_odd_number cd__law_odd_number ct__law_odd_number : Value}
    {a__law_tricks : Addr} {od__law_tricks an__law_tricks : Option Addr} {sl__law_tricks : Array (Option Value)} {oc__law_tricks kV__law_tricks dc__law_tricks pm__law_tricks cd__law_tricks ct__law_tricks : Value}
    {a__law_stepped : Addr} {od__law_stepped an__law_stepped : Option Addr} {sl__law_stepped : Array (Option Value)} {oc__law_stepped kV__law_stepped dc__law_stepped pm__law_stepped cd__law_stepped ct__law_stepped : Value}
    {a__law_is_reckoner : Addr} {od__law_is_reckoner an__law_is_reckoner : Option Addr} {sl__law_is_reckoner : Array (Option Value)} {oc__law_is_reckoner kV__law_is_reckoner dc__law_is_reckoner pm__law_is_reckoner cd__law_is_reckoner ct__law_is_reckoner : Value}
    {a_law : Addr} {od_law an_law : Option Addr} {sl_law : Array (Option Value)} {oc_law kV_law dc_law pm_law cd_law ct_law : Value}
    {C_Trick : Addr}
    {a_Trick___init__ : Addr} {od_Trick___init__ an_Trick___init__ : Option Addr} {sl_Trick___init__ : Array (Option Value)} {oc_Trick___init__ kV_Trick___init__ dc_Trick___init__ pm_Trick___init__ cd_Trick___init__ ct_Trick___init__ : Value}
    {pr_Trick_base : Addr} {rs_Trick_base : List Value}
    {a_Trick_base : Addr} {od_Trick_base an_Trick_base : Option Addr} {sl_Trick_base : Array (Option Value)} {oc_Trick_base kV_Trick_base dc_Trick_base pm_Trick_base cd_Trick_base ct_Trick_base : Value}
    {pr_Trick_take : Addr} {rs_Trick_take : List Value}
    {a_Trick_take : Addr} {od_Trick_take an_Trick_take : Option Addr} {sl_Trick_take : Array (Option Value)} {oc_Trick_take kV_Trick_take dc_Trick_take pm_Trick_take cd_Trick_take ct_Trick_take : Value}
    {pr_Trick_times : Addr} {rs_Trick_times : List Value}
    {a_Trick_times : Addr} {od_Trick_times an_Trick_times : Option Addr} {sl_Trick_times : Array (Option Value)} {oc_Trick_times kV_Trick_times dc_Trick_times pm_Trick_times cd_Trick_times ct_Trick_times : Value}
    {a_Trick___eq__ : Addr} {od_Trick___eq__ an_Trick___eq__ : Option Addr} {sl_Trick___eq__ : Array (Option Value)} {oc_Trick___eq__ kV_Trick___eq__ dc_Trick___eq__ pm_Trick___eq__ cd_Trick___eq__ ct_Trick___eq__ : Value}
    {C_Reckoner : Addr}
    {a_Reckoner___init__ : Addr} {od_Reckoner___init__ an_Reckoner___init__ : Option Addr} {sl_Reckoner___init__ : Array (Option Value)} {oc_Reckoner___init__ kV_Reckoner___init__ dc_Reckoner___init__ pm_Reckoner___init__ cd_Reckoner___init__ ct_Reckoner___init__ : Value}
    {pr_Reckoner_now : Addr} {rs_Reckoner_now : List Value}
    {a_Reckoner_now : Addr} {od_Reckoner_now an_Reckoner_now : Option Addr} {sl_Reckoner_now : Array (Option Value)} {oc_Reckoner_now kV_Reckoner_now dc_Reckoner_now pm_Reckoner_now cd_Reckoner_now ct_Reckoner_now : Value}
    {pr_Reckoner_tricks : Addr} {rs_Reckoner_tricks : List Value}
    {a_Reckoner_tricks : Addr} {od_Reckoner_tricks an_Reckoner_tricks : Option Addr} {sl_Reckoner_tricks : Array (Option Value)} {oc_Reckoner_tricks kV_Reckoner_tricks dc_Reckoner_tricks pm_Reckoner_tricks cd_Reckoner_tricks ct_Reckoner_tricks : Value}
    {a_Reckoner_step : Addr} {od_Reckoner_step an_Reckoner_step : Option Addr} {sl_Reckoner_step : Array (Option Value)} {oc_Reckoner_step kV_Reckoner_step dc_Reckoner_step pm_Reckoner_step cd_Reckoner_step ct_Reckoner_step : Value}
    {a_Reckoner_undo : Addr} {od_Reckoner_undo an_Reckoner_undo : Option Addr} {sl_Reckoner_undo : Array (Option Value)} {oc_Reckoner_undo kV_Reckoner_undo dc_Reckoner_undo pm_Reckoner_undo cd_Reckoner_undo ct_Reckoner_undo : Value}
    {a_Reckoner_copy : Addr} {od_Reckoner_copy an_Reckoner_copy : Option Addr} {sl_Reckoner_copy : Array (Option Value)} {oc_Reckoner_copy kV_Reckoner_copy dc_Reckoner_copy pm_Reckoner_copy cd_Reckoner_copy ct_Reckoner_copy : Value}
    {a_Reckoner___len__ : Addr} {od_Reckoner___len__ an_Reckoner___len__ : Option Addr} {sl_Reckoner___len__ : Array (Option Value)} {oc_Reckoner___len__ kV_Reckoner___len__ dc_Reckoner___len__ pm_Reckoner___len__ cd_Reckoner___len__ ct_Reckoner___len__ : Value}
    {a_BadNumber___init__ cda_BadNumber___init__ cc_BadNumber___init__ N_BadNumber___init__ : Addr} {od_BadNumber___init__ an_BadNumber___init__ cdd_BadNumber___init__ cld_BadNumber___init__ dd_BadNumber___init__ : Option Addr} {sl_BadNumber___init__ ccs_BadNumber___init__ csl_BadNumber___init__ : Array (Option Value)} {oc_BadNumber___init__ dc_BadNumber___init__ pm_BadNumber___init__ ct_BadNumber___init__ ccl_BadNumber___init__ cl_BadNumber___init__ : Value} {vs_BadNumber___init__ : Array Value} {file_BadNumber___init__ nm_BadNumber___init__ qn_BadNumber___init__ : Str} {tf_BadNumber___init__ : Tok} {bs_BadNumber___init__ bm_BadNumber___init__ sub_BadNumber___init__ : List Value} {sn_BadNumber___init__ : List Str} {ab_BadNumber___init__ : Bool} {col_BadNumber___init__ : Option Bool} {k0_BadNumber___init__ k1_BadNumber___init__ k2_BadNumber___init__ k3_BadNumber___init__ k5_BadNumber___init__ : Option Value}
    (gx_TrickError : PySem.W.nsIn K mainGlobals "TrickError" = some (some (.ref C_TrickError)))
    (x_TrickError : PySem.W.excIn K C_TrickError [.type "ValueError", .type "Exception", .type "BaseException", .type "object"] "ValueError.__new__" = true)
    (k_TrickError : PySem.W.keepIn K (.ref C_TrickError) = true)
    (s_TrickError : PySem.W.subIn K (.ref C_TrickError) (.type "BaseException") = some true)
    (t_TrickError : PySem.W.typeIn K (.ref C_TrickError) = some (.type "type"))
    (gx_BadBase : PySem.W.nsIn K mainGlobals "BadBase" = some (some (.ref C_BadBase)))
    (x_BadBase : PySem.W.excIn K C_BadBase [.type "ValueError", .type "Exception", .type "BaseException", .type "object"] "ValueError.__new__" = true)
    (k_BadBase : PySem.W.keepIn K (.ref C_BadBase) = true)
    (s_BadBase : PySem.W.subIn K (.ref C_BadBase) (.type "BaseException") = some true)
    (t_BadBase : PySem.W.typeIn K (.ref C_BadBase) = some (.type "type"))
    (gx_BadTake : PySem.W.nsIn K mainGlobals "BadTake" = some (some (.ref C_BadTake)))
    (x_BadTake : PySem.W.excIn K C_BadTake [.type "ValueError", .type "Exception", .type "BaseException", .type "object"] "ValueError.__new__" = true)
    (k_BadTake : PySem.W.keepIn K (.ref C_BadTake) = true)
    (s_BadTake : PySem.W.subIn K (.ref C_BadTake) (.type "BaseException") = some true)
    (t_BadTake : PySem.W.typeIn K (.ref C_BadTake) = some (.type "type"))
    (gx_BadTimes : PySem.W.nsIn K mainGlobals "BadTimes" = some (some (.ref C_BadTimes)))
    (x_BadTimes : PySem.W.excIn K C_BadTimes [.type "ValueError", .type "Exception", .type "BaseException", .type "object"] "ValueError.__new__" = true)
    (k_BadTimes : PySem.W.keepIn K (.ref C_BadTimes) = true)
    (s_BadTimes : PySem.W.subIn K (.ref C_BadTimes) (.type "BaseException") = some true)
    (t_BadTimes : PySem.W.typeIn K (.ref C_BadTimes) = some (.type "type"))
    (gx_BadTrick : PySem.W.nsIn K mainGlobals "BadTrick" = some (some (.ref C_BadTrick)))
    (x_BadTrick : PySem.W.excIn K C_BadTrick [.type "ValueError", .type "Exception", .type "BaseException", .type "object"] "ValueError.__new__" = true)
    (k_BadTrick : PySem.W.keepIn K (.ref C_BadTrick) = true)
    (s_BadTrick : PySem.W.subIn K (.ref C_BadTrick) (.type "BaseException") = some true)
    (t_BadTrick : PySem.W.typeIn K (.ref C_BadTrick) = some (.type "type"))
    (hd_BadTrick : PySem.W.hasDictIn K C_BadTrick = true)
    (gx_BadNumber : PySem.W.nsIn K mainGlobals "BadNumber" = some (some (.ref C_BadNumber)))
    (k_BadNumber : PySem.W.keepIn K (.ref C_BadNumber) = true)
    (s_BadNumber : PySem.W.subIn K (.ref C_BadNumber) (.type "BaseException") = some true)
    (t_BadNumber : PySem.W.typeIn K (.ref C_BadNumber) = some (.type "type"))
    (hd_BadNumber : PySem.W.hasDictIn K C_BadNumber = true)
    (su_TrickError_BadNumber : PySem.W.subIn K (.ref C_TrickError) (.ref C_BadNumber) = some false)
    (su_TrickError_BadTrick : PySem.W.subIn K (.ref C_TrickError) (.ref C_BadTrick) = some false)
    (su_BadBase_BadNumber : PySem.W.subIn K (.ref C_BadBase) (.ref C_BadNumber) = some false)
    (su_BadBase_BadTrick : PySem.W.subIn K (.ref C_BadBase) (.ref C_BadTrick) = some false)
    (su_BadTake_BadNumber : PySem.W.subIn K (.ref C_BadTake) (.ref C_BadNumber) = some false)
    (su_BadTake_BadTrick : PySem.W.subIn K (.ref C_BadTake) (.ref C_BadTrick) = some false)
    (su_BadTimes_BadNumber : PySem.W.subIn K (.ref C_BadTimes) (.ref C_BadNumber) = some false)
    (su_BadTimes_BadTrick : PySem.W.subIn K (.ref C_BadTimes) (.ref C_BadTrick) = some false)
    (su_BadTrick_BadNumber : PySem.W.subIn K (.ref C_BadTrick) (.ref C_BadNumber) = some false)
    (su_BadTrick_BadTrick : PySem.W.subIn K (.ref C_BadTrick) (.ref C_BadTrick) = some true)
    (su_BadNumber_BadNumber : PySem.W.subIn K (.ref C_BadNumber) (.ref C_BadNumber) = some true)
    (su_BadNumber_BadTrick : PySem.W.subIn K (.ref C_BadNumber) (.ref C_BadTrick) = some false)
    (cx_GREATEST_NUMBER : PySem.W.nsIn K mainGlobals "GREATEST_NUMBER" = some (some (.int 10000000000000000000000000000000000000000 tk_GREATEST_NUMBER)))
    (cx_LEAST_BASE : PySem.W.nsIn K mainGlobals "LEAST_BASE" = some (some (.int 2 tk_LEAST_BASE)))
    (cx_GREATEST_BASE : PySem.W.nsIn K mainGlobals "GREATEST_BASE" = some (some (.int 16 tk_GREATEST_BASE)))
    (cx_GREATEST_TAKE : PySem.W.nsIn K mainGlobals "GREATEST_TAKE" = some (some (.int 2 tk_GREATEST_TAKE)))
    (cx_GREATEST_TIMES : PySem.W.nsIn K mainGlobals "GREATEST_TIMES" = some (some (.int 100 tk_GREATEST_TIMES)))
    (gf_is_integer : PySem.W.nsIn K mainGlobals "is_integer" = some (some (.ref a_is_integer)))
    (l_is_integer : K.lookup a_is_integer = some ⟨oc_is_integer, od_is_integer, .func (PySem.W.fnOf "is_integer" "is_integer" (defArgs s_is_integer) (defBody s_is_integer) (defScope s_is_integer) .none kV_is_integer dc_is_integer pm_is_integer an_is_integer cd_is_integer ct_is_integer), sl_is_integer⟩)
    (c_is_integer : PySem.W.codeIn K cd_is_integer "is_integer" = true)
    (kp_is_integer : PySem.W.keepIn K (.ref a_is_integer) = true)
    (gf_is_number : PySem.W.nsIn K mainGlobals "is_number" = some (some (.ref a_is_number)))
    (l_is_number : K.lookup a_is_number = some ⟨oc_is_number, od_is_number, .func (PySem.W.fnOf "is_number" "is_number" (defArgs s_is_number) (defBody s_is_number) (defScope s_is_number) .none kV_is_number dc_is_number pm_is_number an_is_number cd_is_number ct_is_number), sl_is_number⟩)
    (c_is_number : PySem.W.codeIn K cd_is_number "is_number" = true)
    (kp_is_number : PySem.W.keepIn K (.ref a_is_number) = true)
    (gf_check_base : PySem.W.nsIn K mainGlobals "check_base" = some (some (.ref a_check_base)))
    (l_check_base : K.lookup a_check_base = some ⟨oc_check_base, od_check_base, .func (PySem.W.fnOf "check_base" "check_base" (defArgs s_check_base) (defBody s_check_base) (defScope s_check_base) .none kV_check_base dc_check_base pm_check_base an_check_base cd_check_base ct_check_base), sl_check_base⟩)
    (c_check_base : PySem.W.codeIn K cd_check_base "check_base" = true)
    (kp_check_base : PySem.W.keepIn K (.ref a_check_base) = true)
    (gf_check_take : PySem.W.nsIn K mainGlobals "check_take" = some (some (.ref a_check_take)))
    (l_check_take : K.lookup a_check_take = some ⟨oc_check_take, od_check_take, .func (PySem.W.fnOf "check_take" "check_take" (defArgs s_check_take) (defBody s_check_take) (defScope s_check_take) .none kV_check_take dc_check_take pm_check_take an_check_take cd_check_take ct_check_take), sl_check_take⟩)
    (c_check_take : PySem.W.codeIn K cd_check_take "check_take" = true)
    (kp_check_take : PySem.W.keepIn K (.ref a_check_take) = true)
    (gf_check_number : PySem.W.nsIn K mainGlobals "check_number" = some (some (.ref a_check_number)))
    (l_check_number : K.lookup a_check_number = some ⟨oc_check_number, od_check_number, .func (PySem.W.fnOf "check_number" "check_number" (defArgs s_check_number) (defBody s_check_number) (defScope s_check_number) .none kV_check_number dc_check_number pm_check_number an_check_number cd_check_number ct_check_number), sl_check_number⟩)
    (c_check_number : PySem.W.codeIn K cd_check_number "check_number" = true)
    (kp_check_number : PySem.W.keepIn K (.ref a_check_number) = true)
    (gf_block_of : PySem.W.nsIn K mainGlobals "block_of" = some (some (.ref a_block_of)))
    (l_block_of : K.lookup a_block_of = some ⟨oc_block_of, od_block_of, .func (PySem.W.fnOf "block_of" "block_of" (defArgs s_block_of) (defBody s_block_of) (defScope s_block_of) .none kV_block_of dc_block_of pm_block_of an_block_of cd_block_of ct_block_of), sl_block_of⟩)
    (c_block_of : PySem.W.codeIn K cd_block_of "block_of" = true)
    (kp_block_of : PySem.W.keepIn K (.ref a_block_of) = true)
    (gf_check_trick : PySem.W.nsIn K mainGlobals "check_trick" = some (some (.ref a_check_trick)))
    (l_check_trick : K.lookup a_check_trick = some ⟨oc_check_trick, od_check_trick, .func (PySem.W.fnOf "check_trick" "check_trick" (defArgs s_check_trick) (defBody s_check_trick) (defScope s_check_trick) .none kV_check_trick dc_check_trick pm_check_trick an_check_trick cd_check_trick ct_check_trick), sl_check_trick⟩)
    (c_check_trick : PySem.W.codeIn K cd_check_trick "check_trick" = true)
    (kp_check_trick : PySem.W.keepIn K (.ref a_check_trick) = true)
    (gf_trick_block : PySem.W.nsIn K mainGlobals "trick_block" = some (some (.ref a_trick_block)))
    (l_trick_block : K.lookup a_trick_block = some ⟨oc_trick_block, od_trick_block, .func (PySem.W.fnOf "trick_block" "trick_block" (defArgs s_trick_block) (defBody s_trick_block) (defScope s_trick_block) .none kV_trick_block dc_trick_block pm_trick_block an_trick_block cd_trick_block ct_trick_block), sl_trick_block⟩)
    (c_trick_block : PySem.W.codeIn K cd_trick_block "trick_block" = true)
    (kp_trick_block : PySem.W.keepIn K (.ref a_trick_block) = true)
    (gf_made_of : PySem.W.nsIn K mainGlobals "made_of" = some (some (.ref a_made_of)))
    (l_made_of : K.lookup a_made_of = some ⟨oc_made_of, od_made_of, .func (PySem.W.fnOf "made_of" "made_of" (defArgs s_made_of) (defBody s_made_of) (defScope s_made_of) .none kV_made_of dc_made_of pm_made_of an_made_of cd_made_of ct_made_of), sl_made_of⟩)
    (c_made_of : PySem.W.codeIn K cd_made_of "made_of" = true)
    (kp_made_of : PySem.W.keepIn K (.ref a_made_of) = true)
    (gf_made_with : PySem.W.nsIn K mainGlobals "made_with" = some (some (.ref a_made_with)))
    (l_made_with : K.lookup a_made_with = some ⟨oc_made_with, od_made_with, .func (PySem.W.fnOf "made_with" "made_with" (defArgs s_made_with) (defBody s_made_with) (defScope s_made_with) .none kV_made_with dc_made_with pm_made_with an_made_with cd_made_with ct_made_with), sl_made_with⟩)
    (c_made_with : PySem.W.codeIn K cd_made_with "made_with" = true)
    (kp_made_with : PySem.W.keepIn K (.ref a_made_with) = true)
    (gf__law_taken : PySem.W.nsIn K mainGlobals "_law_taken" = some (some (.ref a__law_taken)))
    (l__law_taken : K.lookup a__law_taken = some ⟨oc__law_taken, od__law_taken, .func (PySem.W.fnOf "_law_taken" "_law_taken" (defArgs s__law_taken) (defBody s__law_taken) (defScope s__law_taken) .none kV__law_taken dc__law_taken pm__law_taken an__law_taken cd__law_taken ct__law_taken), sl__law_taken⟩)
    (c__law_taken : PySem.W.codeIn K cd__law_taken "_law_taken" = true)
    (kp__law_taken : PySem.W.keepIn K (.ref a__law_taken) = true)
    (gf__law_power : PySem.W.nsIn K mainGlobals "_law_power" = some (some (.ref a__law_power)))
    (l__law_power : K.lookup a__law_power = some ⟨oc__law_power, od__law_power, .func (PySem.W.fnOf "_law_power" "_law_power" (defArgs s__law_power) (defBody s__law_power) (defScope s__law_power) .none kV__law_power dc__law_power pm__law_power an__law_power cd__law_power ct__law_power), sl__law_power⟩)
    (c__law_power : PySem.W.codeIn K cd__law_power "_law_power" = true)
    (kp__law_power : PySem.W.keepIn K (.ref a__law_power) = true)
    (gf__law_trick : PySem.W.nsIn K mainGlobals "_law_trick" = some (some (.ref a__law_trick)))
    (l__law_trick : K.lookup a__law_trick = some ⟨oc__law_trick, od__law_trick, .func (PySem.W.fnOf "_law_trick" "_law_trick" (defArgs s__law_trick) (defBody s__law_trick) (defScope s__law_trick) .none kV__law_trick dc__law_trick pm__law_trick an__law_trick cd__law_trick ct__law_trick), sl__law_trick⟩)
    (c__law_trick : PySem.W.codeIn K cd__law_trick "_law_trick" = true)
    (kp__law_trick : PySem.W.keepIn K (.ref a__law_trick) = true)
    (gf__law_behind : PySem.W.nsIn K mainGlobals "_law_behind" = some (some (.ref a__law_behind)))
    (l__law_behind : K.lookup a__law_behind = some ⟨oc__law_behind, od__law_behind, .func (PySem.W.fnOf "_law_behind" "_law_behind" (defArgs s__law_behind) (defBody s__law_behind) (defScope s__law_behind) .none kV__law_behind dc__law_behind pm__law_behind an__law_behind cd__law_behind ct__law_behind), sl__law_behind⟩)
    (c__law_behind : PySem.W.codeIn K cd__law_behind "_law_behind" = true)
    (kp__law_behind : PySem.W.keepIn K (.ref a__law_behind) = true)
    (gf__law_number : PySem.W.nsIn K mainGlobals "_law_number" = some (some (.ref a__law_number)))
    (l__law_number : K.lookup a__law_number = some ⟨oc__law_number, od__law_number, .func (PySem.W.fnOf "_law_number" "_law_number" (defArgs s__law_number) (defBody s__law_number) (defScope s__law_number) .none kV__law_number dc__law_number pm__law_number an__law_number cd__law_number ct__law_number), sl__law_number⟩)
    (c__law_number : PySem.W.codeIn K cd__law_number "_law_number" = true)
    (kp__law_number : PySem.W.keepIn K (.ref a__law_number) = true)
    (gf__law_odd_number : PySem.W.nsIn K mainGlobals "_law_odd_number" = some (some (.ref a__law_odd_number)))
    (l__law_odd_number : K.lookup a__law_odd_number = some ⟨oc__law_odd_number, od__law_odd_number, .func (PySem.W.fnOf "_law_odd_number" "_law_odd_number" (defArgs s__law_odd_number) (defBody s__law_odd_number) (defScope s__law_odd_number) .none kV__law_odd_number dc__law_odd_number pm__law_odd_number an__law_odd_number cd__law_odd_number ct__law_odd_number), sl__law_odd_number⟩)
    (c__law_odd_number : PySem.W.codeIn K cd__law_odd_number "_law_odd_number" = true)
    (kp__law_odd_number : PySem.W.keepIn K (.ref a__law_odd_number) = true)
    (gf__law_tricks : PySem.W.nsIn K mainGlobals "_law_tricks" = some (some (.ref a__law_tricks)))
    (l__law_tricks : K.lookup a__law_tricks = some ⟨oc__law_tricks, od__law_tricks, .func (PySem.W.fnOf "_law_tricks" "_law_tricks" (defArgs s__law_tricks) (defBody s__law_tricks) (defScope s__law_tricks) .none kV__law_tricks dc__law_tricks pm__law_tricks an__law_tricks cd__law_tricks ct__law_tricks), sl__law_tricks⟩)
    (c__law_tricks : PySem.W.codeIn K cd__law_tricks "_law_tricks" = true)
    (kp__law_tricks : PySem.W.keepIn K (.ref a__law_tricks) = true)
    (gf__law_stepped : PySem.W.nsIn K mainGlobals "_law_stepped" = some (some (.ref a__law_stepped)))
    (l__law_stepped : K.lookup a__law_stepped = some ⟨oc__law_stepped, od__law_stepped, .func (PySem.W.fnOf "_law_stepped" "_law_stepped" (defArgs s__law_stepped) (defBody s__law_stepped) (defScope s__law_stepped) .none kV__law_stepped dc__law_stepped pm__law_stepped an__law_stepped cd__law_stepped ct__law_stepped), sl__law_stepped⟩)
    (c__law_stepped : PySem.W.codeIn K cd__law_stepped "_law_stepped" = true)
    (kp__law_stepped : PySem.W.keepIn K (.ref a__law_stepped) = true)
    (gf__law_is_reckoner : PySem.W.nsIn K mainGlobals "_law_is_reckoner" = some (some (.ref a__law_is_reckoner)))
    (l__law_is_reckoner : K.lookup a__law_is_reckoner = some ⟨oc__law_is_reckoner, od__law_is_reckoner, .func (PySem.W.fnOf "_law_is_reckoner" "_law_is_reckoner" (defArgs s__law_is_reckoner) (defBody s__law_is_reckoner) (defScope s__law_is_reckoner) .none kV__law_is_reckoner dc__law_is_reckoner pm__law_is_reckoner an__law_is_reckoner cd__law_is_reckoner ct__law_is_reckoner), sl__law_is_reckoner⟩)
    (c__law_is_reckoner : PySem.W.codeIn K cd__law_is_reckoner "_law_is_reckoner" = true)
    (kp__law_is_reckoner : PySem.W.keepIn K (.ref a__law_is_reckoner) = true)
    (gf_law : PySem.W.nsIn K mainGlobals "law" = some (some (.ref a_law)))
    (l_law : K.lookup a_law = some ⟨oc_law, od_law, .func (PySem.W.fnOf "law" "law" (defArgs s_law) (defBody s_law) (defScope s_law) .none kV_law dc_law pm_law an_law cd_law ct_law), sl_law⟩)
    (c_law : PySem.W.codeIn K cd_law "law" = true)
    (kp_law : PySem.W.keepIn K (.ref a_law) = true)
    (gx_Trick : PySem.W.nsIn K mainGlobals "Trick" = some (some (.ref C_Trick)))
    (pg_Trick : PySem.W.plainGet K C_Trick Str.empty = true)
    (hd_Trick : PySem.W.hasDictIn K C_Trick = true)
    (po_Trick : PySem.W.plainOver K C_Trick = true)
    (sa_Trick : PySem.W.findIn K (.ref C_Trick) "__setattr__" = some (some (.builtin "object.__setattr__")))
    (mk_Trick : PySem.W.makesIn K C_Trick = true)
    (kc_Trick : PySem.W.keepIn K (.ref C_Trick) = true)
    (cc_Trick : PySem.W.findIn K (.ref C_Trick) "__class__" = some (some (.builtin "object.__class__")))
    (mo_Trick : PySem.W.mroIn K C_Trick (.type "object") = some true)
    (sp_cls : PySem.W.specialIn K (.builtin "object.__class__") "__get__" = some (some (.builtin "getset_descriptor.__get__")))
    (tk_cls : PySem.W.takesIn K (.builtin "object.__class__") = some true)
    (ki_Trick_int : PySem.W.kitOne K (.ref C_Trick) (.type "int") = some false)
    (ki_Trick_bool : PySem.W.kitOne K (.ref C_Trick) (.type "bool") = some false)
    (ki_Trick_tuple : PySem.W.kitOne K (.ref C_Trick) (.type "tuple") = some false)
    (ki_Trick_list : PySem.W.kitOne K (.ref C_Trick) (.type "list") = some false)
    (nf_Trick_tuple : PySem.W.subIn K (.type "tuple") (.ref C_Trick) = some false)
    (kis_Trick : PySem.W.kitOne K (.ref C_Trick) (.ref C_Trick) = some true)
    (kin_Trick_int : PySem.W.kitOne K (.type "int") (.ref C_Trick) = some false)
    (kin_Trick_bool : PySem.W.kitOne K (.type "bool") (.ref C_Trick) = some false)
    (kin_Trick_tuple : PySem.W.kitOne K (.type "tuple") (.ref C_Trick) = some false)
    (kin_Trick_list : PySem.W.kitOne K (.type "list") (.ref C_Trick) = some false)
    (kin_Trick_NoneType : PySem.W.kitOne K (.type "NoneType") (.ref C_Trick) = some false)
    (kin_Trick_str : PySem.W.kitOne K (.type "str") (.ref C_Trick) = some false)
    (kin_Trick_dict : PySem.W.kitOne K (.type "dict") (.ref C_Trick) = some false)
    (na_Trick_base : PySem.W.findIn K (.ref C_Trick) "_base" = some none)
    (na_Trick_take : PySem.W.findIn K (.ref C_Trick) "_take" = some none)
    (na_Trick_times : PySem.W.findIn K (.ref C_Trick) "_times" = some none)
    (gf_Trick___init__ : PySem.W.findIn K (.ref C_Trick) "__init__" = some (some (.ref a_Trick___init__)))
    (l_Trick___init__ : K.lookup a_Trick___init__ = some ⟨oc_Trick___init__, od_Trick___init__, .func (PySem.W.fnOf "__init__" "Trick.__init__" (defArgs s_Trick___init__) (defBody s_Trick___init__) (defScope s_Trick___init__) .none kV_Trick___init__ dc_Trick___init__ pm_Trick___init__ an_Trick___init__ cd_Trick___init__ ct_Trick___init__), sl_Trick___init__⟩)
    (c_Trick___init__ : PySem.W.codeIn K cd_Trick___init__ "Trick.__init__" = true)
    (kp_Trick___init__ : PySem.W.keepIn K (.ref a_Trick___init__) = true)
    (isf_Trick___init__ : PySem.W.isFn K (.ref a_Trick___init__) = true)
    (pa_Trick_base : PySem.W.findIn K (.ref C_Trick) "base" = some (some (.ref pr_Trick_base)))
    (pg_Trick_base : PySem.W.specialIn K (.ref pr_Trick_base) "__get__" = some (some (.builtin "property.__get__")))
    (pt_Trick_base : PySem.W.takesIn K (.ref pr_Trick_base) = some true)
    (prr_Trick_base : PySem.W.recIn K pr_Trick_base "property" = some (.ref a_Trick_base :: rs_Trick_base))
    (l_Trick_base : K.lookup a_Trick_base = some ⟨oc_Trick_base, od_Trick_base, .func (PySem.W.fnOf "base" "Trick.base" (defArgs s_Trick_base) (defBody s_Trick_base) (defScope s_Trick_base) .none kV_Trick_base dc_Trick_base pm_Trick_base an_Trick_base cd_Trick_base ct_Trick_base), sl_Trick_base⟩)
    (c_Trick_base : PySem.W.codeIn K cd_Trick_base "Trick.base" = true)
    (kp_Trick_base : PySem.W.keepIn K (.ref a_Trick_base) = true)
    (pa_Trick_take : PySem.W.findIn K (.ref C_Trick) "take" = some (some (.ref pr_Trick_take)))
    (pg_Trick_take : PySem.W.specialIn K (.ref pr_Trick_take) "__get__" = some (some (.builtin "property.__get__")))
    (pt_Trick_take : PySem.W.takesIn K (.ref pr_Trick_take) = some true)
    (prr_Trick_take : PySem.W.recIn K pr_Trick_take "property" = some (.ref a_Trick_take :: rs_Trick_take))
    (l_Trick_take : K.lookup a_Trick_take = some ⟨oc_Trick_take, od_Trick_take, .func (PySem.W.fnOf "take" "Trick.take" (defArgs s_Trick_take) (defBody s_Trick_take) (defScope s_Trick_take) .none kV_Trick_take dc_Trick_take pm_Trick_take an_Trick_take cd_Trick_take ct_Trick_take), sl_Trick_take⟩)
    (c_Trick_take : PySem.W.codeIn K cd_Trick_take "Trick.take" = true)
    (kp_Trick_take : PySem.W.keepIn K (.ref a_Trick_take) = true)
    (pa_Trick_times : PySem.W.findIn K (.ref C_Trick) "times" = some (some (.ref pr_Trick_times)))
    (pg_Trick_times : PySem.W.specialIn K (.ref pr_Trick_times) "__get__" = some (some (.builtin "property.__get__")))
    (pt_Trick_times : PySem.W.takesIn K (.ref pr_Trick_times) = some true)
    (prr_Trick_times : PySem.W.recIn K pr_Trick_times "property" = some (.ref a_Trick_times :: rs_Trick_times))
    (l_Trick_times : K.lookup a_Trick_times = some ⟨oc_Trick_times, od_Trick_times, .func (PySem.W.fnOf "times" "Trick.times" (defArgs s_Trick_times) (defBody s_Trick_times) (defScope s_Trick_times) .none kV_Trick_times dc_Trick_times pm_Trick_times an_Trick_times cd_Trick_times ct_Trick_times), sl_Trick_times⟩)
    (c_Trick_times : PySem.W.codeIn K cd_Trick_times "Trick.times" = true)
    (kp_Trick_times : PySem.W.keepIn K (.ref a_Trick_times) = true)
    (gf_Trick___eq__ : PySem.W.findIn K (.ref C_Trick) "__eq__" = some (some (.ref a_Trick___eq__)))
    (l_Trick___eq__ : K.lookup a_Trick___eq__ = some ⟨oc_Trick___eq__, od_Trick___eq__, .func (PySem.W.fnOf "__eq__" "Trick.__eq__" (defArgs s_Trick___eq__) (defBody s_Trick___eq__) (defScope s_Trick___eq__) .none kV_Trick___eq__ dc_Trick___eq__ pm_Trick___eq__ an_Trick___eq__ cd_Trick___eq__ ct_Trick___eq__), sl_Trick___eq__⟩)
    (c_Trick___eq__ : PySem.W.codeIn K cd_Trick___eq__ "Trick.__eq__" = true)
    (kp_Trick___eq__ : PySem.W.keepIn K (.ref a_Trick___eq__) = true)
    (isf_Trick___eq__ : PySem.W.isFn K (.ref a_Trick___eq__) = true)
    (gx_Reckoner : PySem.W.nsIn K mainGlobals "Reckoner" = some (some (.ref C_Reckoner)))
    (pg_Reckoner : PySem.W.plainGet K C_Reckoner Str.empty = true)
    (hd_Reckoner : PySem.W.hasDictIn K C_Reckoner = true)
    (po_Reckoner : PySem.W.plainOver K C_Reckoner = true)
    (sa_Reckoner : PySem.W.findIn K (.ref C_Reckoner) "__setattr__" = some (some (.builtin "object.__setattr__")))
    (mk_Reckoner : PySem.W.makesIn K C_Reckoner = true)
    (kc_Reckoner : PySem.W.keepIn K (.ref C_Reckoner) = true)
    (cc_Reckoner : PySem.W.findIn K (.ref C_Reckoner) "__class__" = some (some (.builtin "object.__class__")))
    (mo_Reckoner : PySem.W.mroIn K C_Reckoner (.type "object") = some true)
    (ki_Reckoner_int : PySem.W.kitOne K (.ref C_Reckoner) (.type "int") = some false)
    (ki_Reckoner_bool : PySem.W.kitOne K (.ref C_Reckoner) (.type "bool") = some false)
    (ki_Reckoner_tuple : PySem.W.kitOne K (.ref C_Reckoner) (.type "tuple") = some false)
    (ki_Reckoner_list : PySem.W.kitOne K (.ref C_Reckoner) (.type "list") = some false)
    (kis_Reckoner : PySem.W.kitOne K (.ref C_Reckoner) (.ref C_Reckoner) = some true)
    (kin_Reckoner_int : PySem.W.kitOne K (.type "int") (.ref C_Reckoner) = some false)
    (kin_Reckoner_bool : PySem.W.kitOne K (.type "bool") (.ref C_Reckoner) = some false)
    (kin_Reckoner_tuple : PySem.W.kitOne K (.type "tuple") (.ref C_Reckoner) = some false)
    (kin_Reckoner_list : PySem.W.kitOne K (.type "list") (.ref C_Reckoner) = some false)
    (kin_Reckoner_NoneType : PySem.W.kitOne K (.type "NoneType") (.ref C_Reckoner) = some false)
    (kin_Reckoner_str : PySem.W.kitOne K (.type "str") (.ref C_Reckoner) = some false)
    (kin_Reckoner_dict : PySem.W.kitOne K (.type "dict") (.ref C_Reckoner) = some false)
    (na_Reckoner_numbers : PySem.W.findIn K (.ref C_Reckoner) "_numbers" = some none)
    (na_Reckoner_tricks : PySem.W.findIn K (.ref C_Reckoner) "_tricks" = some none)
    (gf_Reckoner___init__ : PySem.W.findIn K (.ref C_Reckoner) "__init__" = some (some (.ref a_Reckoner___init__)))
    (l_Reckoner___init__ : K.lookup a_Reckoner___init__ = some ⟨oc_Reckoner___init__, od_Reckoner___init__, .func (PySem.W.fnOf "__init__" "Reckoner.__init__" (defArgs s_Reckoner___init__) (defBody s_Reckoner___init__) (defScope s_Reckoner___init__) .none kV_Reckoner___init__ dc_Reckoner___init__ pm_Reckoner___init__ an_Reckoner___init__ cd_Reckoner___init__ ct_Reckoner___init__), sl_Reckoner___init__⟩)
    (c_Reckoner___init__ : PySem.W.codeIn K cd_Reckoner___init__ "Reckoner.__init__" = true)
    (kp_Reckoner___init__ : PySem.W.keepIn K (.ref a_Reckoner___init__) = true)
    (isf_Reckoner___init__ : PySem.W.isFn K (.ref a_Reckoner___init__) = true)
    (pa_Reckoner_now : PySem.W.findIn K (.ref C_Reckoner) "now" = some (some (.ref pr_Reckoner_now)))
    (pg_Reckoner_now : PySem.W.specialIn K (.ref pr_Reckoner_now) "__get__" = some (some (.builtin "property.__get__")))
    (pt_Reckoner_now : PySem.W.takesIn K (.ref pr_Reckoner_now) = some true)
    (prr_Reckoner_now : PySem.W.recIn K pr_Reckoner_now "property" = some (.ref a_Reckoner_now :: rs_Reckoner_now))
    (l_Reckoner_now : K.lookup a_Reckoner_now = some ⟨oc_Reckoner_now, od_Reckoner_now, .func (PySem.W.fnOf "now" "Reckoner.now" (defArgs s_Reckoner_now) (defBody s_Reckoner_now) (defScope s_Reckoner_now) .none kV_Reckoner_now dc_Reckoner_now pm_Reckoner_now an_Reckoner_now cd_Reckoner_now ct_Reckoner_now), sl_Reckoner_now⟩)
    (c_Reckoner_now : PySem.W.codeIn K cd_Reckoner_now "Reckoner.now" = true)
    (kp_Reckoner_now : PySem.W.keepIn K (.ref a_Reckoner_now) = true)
    (pa_Reckoner_tricks : PySem.W.findIn K (.ref C_Reckoner) "tricks" = some (some (.ref pr_Reckoner_tricks)))
    (pg_Reckoner_tricks : PySem.W.specialIn K (.ref pr_Reckoner_tricks) "__get__" = some (some (.builtin "property.__get__")))
    (pt_Reckoner_tricks : PySem.W.takesIn K (.ref pr_Reckoner_tricks) = some true)
    (prr_Reckoner_tricks : PySem.W.recIn K pr_Reckoner_tricks "property" = some (.ref a_Reckoner_tricks :: rs_Reckoner_tricks))
    (l_Reckoner_tricks : K.lookup a_Reckoner_tricks = some ⟨oc_Reckoner_tricks, od_Reckoner_tricks, .func (PySem.W.fnOf "tricks" "Reckoner.tricks" (defArgs s_Reckoner_tricks) (defBody s_Reckoner_tricks) (defScope s_Reckoner_tricks) .none kV_Reckoner_tricks dc_Reckoner_tricks pm_Reckoner_tricks an_Reckoner_tricks cd_Reckoner_tricks ct_Reckoner_tricks), sl_Reckoner_tricks⟩)
    (c_Reckoner_tricks : PySem.W.codeIn K cd_Reckoner_tricks "Reckoner.tricks" = true)
    (kp_Reckoner_tricks : PySem.W.keepIn K (.ref a_Reckoner_tricks) = true)
    (gf_Reckoner_step : PySem.W.findIn K (.ref C_Reckoner) "step" = some (some (.ref a_Reckoner_step)))
    (l_Reckoner_step : K.lookup a_Reckoner_step = some ⟨oc_Reckoner_step, od_Reckoner_step, .func (PySem.W.fnOf "step" "Reckoner.step" (defArgs s_Reckoner_step) (defBody s_Reckoner_step) (defScope s_Reckoner_step) .none kV_Reckoner_step dc_Reckoner_step pm_Reckoner_step an_Reckoner_step cd_Reckoner_step ct_Reckoner_step), sl_Reckoner_step⟩)
    (c_Reckoner_step : PySem.W.codeIn K cd_Reckoner_step "Reckoner.step" = true)
    (kp_Reckoner_step : PySem.W.keepIn K (.ref a_Reckoner_step) = true)
    (isf_Reckoner_step : PySem.W.isFn K (.ref a_Reckoner_step) = true)
    (gf_Reckoner_undo : PySem.W.findIn K (.ref C_Reckoner) "undo" = some (some (.ref a_Reckoner_undo)))
    (l_Reckoner_undo : K.lookup a_Reckoner_undo = some ⟨oc_Reckoner_undo, od_Reckoner_undo, .func (PySem.W.fnOf "undo" "Reckoner.undo" (defArgs s_Reckoner_undo) (defBody s_Reckoner_undo) (defScope s_Reckoner_undo) .none kV_Reckoner_undo dc_Reckoner_undo pm_Reckoner_undo an_Reckoner_undo cd_Reckoner_undo ct_Reckoner_undo), sl_Reckoner_undo⟩)
    (c_Reckoner_undo : PySem.W.codeIn K cd_Reckoner_undo "Reckoner.undo" = true)
    (kp_Reckoner_undo : PySem.W.keepIn K (.ref a_Reckoner_undo) = true)
    (isf_Reckoner_undo : PySem.W.isFn K (.ref a_Reckoner_undo) = true)
    (gf_Reckoner_copy : PySem.W.findIn K (.ref C_Reckoner) "copy" = some (some (.ref a_Reckoner_copy)))
    (l_Reckoner_copy : K.lookup a_Reckoner_copy = some ⟨oc_Reckoner_copy, od_Reckoner_copy, .func (PySem.W.fnOf "copy" "Reckoner.copy" (defArgs s_Reckoner_copy) (defBody s_Reckoner_copy) (defScope s_Reckoner_copy) .none kV_Reckoner_copy dc_Reckoner_copy pm_Reckoner_copy an_Reckoner_copy cd_Reckoner_copy ct_Reckoner_copy), sl_Reckoner_copy⟩)
    (c_Reckoner_copy : PySem.W.codeIn K cd_Reckoner_copy "Reckoner.copy" = true)
    (kp_Reckoner_copy : PySem.W.keepIn K (.ref a_Reckoner_copy) = true)
    (isf_Reckoner_copy : PySem.W.isFn K (.ref a_Reckoner_copy) = true)
    (gf_Reckoner___len__ : PySem.W.findIn K (.ref C_Reckoner) "__len__" = some (some (.ref a_Reckoner___len__)))
    (l_Reckoner___len__ : K.lookup a_Reckoner___len__ = some ⟨oc_Reckoner___len__, od_Reckoner___len__, .func (PySem.W.fnOf "__len__" "Reckoner.__len__" (defArgs s_Reckoner___len__) (defBody s_Reckoner___len__) (defScope s_Reckoner___len__) .none kV_Reckoner___len__ dc_Reckoner___len__ pm_Reckoner___len__ an_Reckoner___len__ cd_Reckoner___len__ ct_Reckoner___len__), sl_Reckoner___len__⟩)
    (c_Reckoner___len__ : PySem.W.codeIn K cd_Reckoner___len__ "Reckoner.__len__" = true)
    (kp_Reckoner___len__ : PySem.W.keepIn K (.ref a_Reckoner___len__) = true)
    (isf_Reckoner___len__ : PySem.W.isFn K (.ref a_Reckoner___len__) = true)
    (z_int : PySem.W.nsIn K mainGlobals "int" = some none)
    (z_bool : PySem.W.nsIn K mainGlobals "bool" = some none)
    (z_len : PySem.W.nsIn K mainGlobals "len" = some none)
    (z_range : PySem.W.nsIn K mainGlobals "range" = some none)
    (z_isinstance : PySem.W.nsIn K mainGlobals "isinstance" = some none)
    (z_tuple : PySem.W.nsIn K mainGlobals "tuple" = some none)
    (z_list : PySem.W.nsIn K mainGlobals "list" = some none)
    (z_max : PySem.W.nsIn K mainGlobals "max" = some none)
    (z_super : PySem.W.nsIn K mainGlobals "super" = some none)
    (z_ValueError : PySem.W.nsIn K mainGlobals "ValueError" = some none)
    (xl_BadNumber___init__ : K.lookup C_BadNumber = some (PySem.excClassObj nm_BadNumber___init__ qn_BadNumber___init__ C_BadNumber N_BadNumber___init__ bs_BadNumber___init__ bm_BadNumber___init__ true sn_BadNumber___init__ sub_BadNumber___init__ ab_BadNumber___init__ col_BadNumber___init__ dd_BadNumber___init__ k0_BadNumber___init__ k1_BadNumber___init__ k2_BadNumber___init__ k3_BadNumber___init__ k5_BadNumber___init__ "ValueError.__new__"))
    (xrb_BadNumber___init__ : PySem.HandSPX.refsVE bm_BadNumber___init__ = true)
    (xsa_BadNumber___init__ : PySem.W.findIn K (.ref C_BadNumber) "__setattr__" = some (some (.builtin "object.__setattr__")))
    (xga_BadNumber___init__ : PySem.W.findIn K (.ref C_BadNumber) "__getattribute__" = some (some (.builtin "BaseException.__getattribute__")))
    (xgg_BadNumber___init__ : PySem.W.findIn K (.ref C_BadNumber) "__getattr__" = some none)
    (xnf_BadNumber___init__ : PySem.W.findIn K (.ref C_BadNumber) "n" = some none)
    (xic_BadNumber___init__ : PySem.W.findIn K (.ref C_BadNumber) "__init__" = some (some (.ref a_BadNumber___init__)))
    (xtc_BadNumber___init__ : PySem.W.typeIn K (.ref a_BadNumber___init__) = some (.type "function"))
    (xhd_BadNumber___init__ : PySem.W.hasDictIn K C_BadNumber = true)
    (xup_BadNumber___init__ : PySem.W.ks_superIn K C_BadNumber C_BadNumber "__init__" = some (some (.builtin "ValueError.__init__")))
    (xan_BadNumber___init__ : PySem.W.nsIn K PySem.cStatics "thirdparty.any" = some none)
    (xve_BadNumber___init__ : PySem.W.subIn K (.ref C_BadNumber) (.type "ValueError") = some true)
    (xow_BadNumber___init__ : PySem.W.mroIn K C_BadNumber (.ref C_BadNumber) = some true)
    (rmn_BadNumber___init__ : (l.prog.main.scope.names.lookup ("super" : Str)).isSome = false)
    (xfn_BadNumber___init__ : K.lookup a_BadNumber___init__ = some ⟨oc_BadNumber___init__, od_BadNumber___init__, .func (PySem.W.ksFn "__init__" "BadNumber.__init__" (defArgs s_BadNumber___init__) (defBody s_BadNumber___init__) (defScope s_BadNumber___init__) .none .none dc_BadNumber___init__ pm_BadNumber___init__ an_BadNumber___init__ (.ref cda_BadNumber___init__) ct_BadNumber___init__ cc_BadNumber___init__), sl_BadNumber___init__⟩)
    (xco_BadNumber___init__ : PySem.W.codeIn K (.ref cda_BadNumber___init__) "BadNumber.__init__" = true)
    (xcd_BadNumber___init__ : K.lookup cda_BadNumber___init__ = some ⟨ccl_BadNumber___init__, cdd_BadNumber___init__, .fields vs_BadNumber___init__, ccs_BadNumber___init__⟩)
    (rvs_BadNumber___init__ : vs_BadNumber___init__[2]? = some (.str file_BadNumber___init__ tf_BadNumber___init__))
    (rfi_BadNumber___init__ : ((l.prog.main.file : Str) == file_BadNumber___init__) = true)
    (xcc_BadNumber___init__ : K.lookup cc_BadNumber___init__ = some ⟨cl_BadNumber___init__, cld_BadNumber___init__, .cell (some (.ref C_BadNumber)), csl_BadNumber___init__⟩)
    : ∃ fd : FuncData, (∀ (s : Shared) (v : Value), BindsTo s fd ⟨[v], []⟩ [("_law_script", v)]) ∧ ∀ base : Heap, K.In base → base.Ns mainGlobals mg → FnOk l.prog w K mg base CX0 lv_law fa fd ["_law_script"] (sp_law K) := by
  have e := hfa.symm.trans (PySem.W.mg_of X G gf_law)
  have e2 : a_law = fa := by cases e; rfl
  subst e2
  refine ⟨PySem.W.fnOf "law" "law" (defArgs s_law) (defBody s_law) (defScope s_law) .none kV_law dc_law pm_law an_law cd_law ct_law, fun s v => .of_eq rfl, fun base _ _ => ?_⟩
  exact ok_law (T :=
    { C_TrickError := C_TrickError,
      g_TrickError := PySem.W.mg_of X G gx_TrickError,
      x_TrickError := x_TrickError,
      k_TrickError := k_TrickError,
      s_TrickError := s_TrickError,
      t_TrickError := t_TrickError,
      C_BadBase := C_BadBase,
      g_BadBase := PySem.W.mg_of X G gx_BadBase,
      x_BadBase := x_BadBase,
      k_BadBase := k_BadBase,
      s_BadBase := s_BadBase,
      t_BadBase := t_BadBase,
      C_BadTake := C_BadTake,
      g_BadTake := PySem.W.mg_of X G gx_BadTake,
      x_BadTake := x_BadTake,
      k_BadTake := k_BadTake,
      s_BadTake := s_BadTake,
      t_BadTake := t_BadTake,
      C_BadTimes := C_BadTimes,
      g_BadTimes := PySem.W.mg_of X G gx_BadTimes,
      x_BadTimes := x_BadTimes,
      k_BadTimes := k_BadTimes,
      s_BadTimes := s_BadTimes,
      t_BadTimes := t_BadTimes,
      C_BadTrick := C_BadTrick,
      g_BadTrick := PySem.W.mg_of X G gx_BadTrick,
      x_BadTrick := x_BadTrick,
      k_BadTrick := k_BadTrick,
      s_BadTrick := s_BadTrick,
      t_BadTrick := t_BadTrick,
      hd_BadTrick := hd_BadTrick,
      C_BadNumber := C_BadNumber,
      g_BadNumber := PySem.W.mg_of X G gx_BadNumber,
      k_BadNumber := k_BadNumber,
      s_BadNumber := s_BadNumber,
      t_BadNumber := t_BadNumber,
      hd_BadNumber := hd_BadNumber,
      xm_TrickError_BadNumber := PySem.W.exm_ref s_BadNumber hd_BadNumber t_BadNumber su_TrickError_BadNumber,
      xm_TrickError_BadTrick := PySem.W.exm_ref s_BadTrick hd_BadTrick t_BadTrick su_TrickError_BadTrick,
      xm_BadBase_BadNumber := PySem.W.exm_ref s_BadNumber hd_BadNumber t_BadNumber su_BadBase_BadNumber,
      xm_BadBase_BadTrick := PySem.W.exm_ref s_BadTrick hd_BadTrick t_BadTrick su_BadBase_BadTrick,
      xm_BadTake_BadNumber := PySem.W.exm_ref s_BadNumber hd_BadNumber t_BadNumber su_BadTake_BadNumber,
      xm_BadTake_BadTrick := PySem.W.exm_ref s_BadTrick hd_BadTrick t_BadTrick su_BadTake_BadTrick,
      xm_BadTimes_BadNumber := PySem.W.exm_ref s_BadNumber hd_BadNumber t_BadNumber su_BadTimes_BadNumber,
      xm_BadTimes_BadTrick := PySem.W.exm_ref s_BadTrick hd_BadTrick t_BadTrick su_BadTimes_BadTrick,
      xm_BadTrick_BadNumber := PySem.W.exm_ref s_BadNumber hd_BadNumber t_BadNumber su_BadTrick_BadNumber,
      xm_BadTrick_BadTrick := PySem.W.exm_ref s_BadTrick hd_BadTrick t_BadTrick su_BadTrick_BadTrick,
      xm_BadNumber_BadNumber := PySem.W.exm_ref s_BadNumber hd_BadNumber t_BadNumber su_BadNumber_BadNumber,
      xm_BadNumber_BadTrick := PySem.W.exm_ref s_BadTrick hd_BadTrick t_BadTrick su_BadNumber_BadTrick,
      t_c_GREATEST_NUMBER := tk_GREATEST_NUMBER,
      c_GREATEST_NUMBER := PySem.W.mg_of X G cx_GREATEST_NUMBER,
      t_c_LEAST_BASE := tk_LEAST_BASE,
      c_LEAST_BASE := PySem.W.mg_of X G cx_LEAST_BASE,
      t_c_GREATEST_BASE := tk_GREATEST_BASE,
      c_GREATEST_BASE := PySem.W.mg_of X G cx_GREATEST_BASE,
      t_c_GREATEST_TAKE := tk_GREATEST_TAKE,
      c_GREATEST_TAKE := PySem.W.mg_of X G cx_GREATEST_TAKE,
      t_c_GREATEST_TIMES := tk_GREATEST_TIMES,
      c_GREATEST_TIMES := PySem.W.mg_of X G cx_GREATEST_TIMES,
      a_is_integer := a_is_integer,
      d_is_integer := _,
      F_is_integer := fun_mk (st := s_is_integer) l_is_integer c_is_integer kp_is_integer,
      b_is_integer := (fun_mk (st := s_is_integer) l_is_integer c_is_integer kp_is_integer).binds (ps := ["told", "low", "high"]) fun _ _ _ _ _ _ us hl => match us, hl with | [_, _, _], _ => rfl,
      g_is_integer := PySem.W.mg_of X G gf_is_integer,
      a_is_number := a_is_number,
      d_is_number := _,
      F_is_number := fun_mk (st := s_is_number) l_is_number c_is_number kp_is_number,
      b_is_number := (fun_mk (st := s_is_number) l_is_number c_is_number kp_is_number).binds (ps := ["told"]) fun _ _ _ _ _ _ us hl => match us, hl with | [_], _ => rfl,
      g_is_number := PySem.W.mg_of X G gf_is_number,
      a_check_base := a_check_base,
      d_check_base := _,
      F_check_base := fun_mk (st := s_check_base) l_check_base c_check_base kp_check_base,
      b_check_base := (fun_mk (st := s_check_base) l_check_base c_check_base kp_check_base).binds (ps := ["base"]) fun _ _ _ _ _ _ us hl => match us, hl with | [_], _ => rfl,
      g_check_base := PySem.W.mg_of X G gf_check_base,
      a_check_take := a_check_take,
      d_check_take := _,
      F_check_take := fun_mk (st := s_check_take) l_check_take c_check_take kp_check_take,
      b_check_take := (fun_mk (st := s_check_take) l_check_take c_check_take kp_check_take).binds (ps := ["take"]) fun _ _ _ _ _ _ us hl => match us, hl with | [_], _ => rfl,
      g_check_take := PySem.W.mg_of X G gf_check_take,
      a_check_number := a_check_number,
      d_check_number := _,
      F_check_number := fun_mk (st := s_check_number) l_check_number c_check_number kp_check_number,
      b_check_number := (fun_mk (st := s_check_number) l_check_number c_check_number kp_check_number).binds (ps := ["n"]) fun _ _ _ _ _ _ us hl => match us, hl with | [_], _ => rfl,
      g_check_number := PySem.W.mg_of X G gf_check_number,
      a_block_of := a_block_of,
      d_block_of := _,
      F_block_of := fun_mk (st := s_block_of) l_block_of c_block_of kp_block_of,
      b_block_of := (fun_mk (st := s_block_of) l_block_of c_block_of kp_block_of).binds (ps := ["base", "take"]) fun _ _ _ _ _ _ us hl => match us, hl with | [_, _], _ => rfl,
      g_block_of := PySem.W.mg_of X G gf_block_of,
      a_check_trick := a_check_trick,
      d_check_trick := _,
      F_check_trick := fun_mk (st := s_check_trick) l_check_trick c_check_trick kp_check_trick,
      b_check_trick := (fun_mk (st := s_check_trick) l_check_trick c_check_trick kp_check_trick).binds (ps := ["trick"]) fun _ _ _ _ _ _ us hl => match us, hl with | [_], _ => rfl,
      g_check_trick := PySem.W.mg_of X G gf_check_trick,
      a_trick_block := a_trick_block,
      d_trick_block := _,
      F_trick_block := fun_mk (st := s_trick_block) l_trick_block c_trick_block kp_trick_block,
      b_trick_block := (fun_mk (st := s_trick_block) l_trick_block c_trick_block kp_trick_block).binds (ps := ["trick"]) fun _ _ _ _ _ _ us hl => match us, hl with | [_], _ => rfl,
      g_trick_block := PySem.W.mg_of X G gf_trick_block,
      a_made_of := a_made_of,
      d_made_of := _,
      F_made_of := fun_mk (st := s_made_of) l_made_of c_made_of kp_made_of,
      b_made_of := (fun_mk (st := s_made_of) l_made_of c_made_of kp_made_of).binds (ps := ["trick", "n"]) fun _ _ _ _ _ _ us hl => match us, hl with | [_, _], _ => rfl,
      g_made_of := PySem.W.mg_of X G gf_made_of,
      a_made_with := a_made_with,
      d_made_with := _,
      F_made_with := fun_mk (st := s_made_with) l_made_with c_made_with kp_made_with,
      b_made_with := (fun_mk (st := s_made_with) l_made_with c_made_with kp_made_with).binds (ps := ["block", "times", "n"]) fun _ _ _ _ _ _ us hl => match us, hl with | [_, _, _], _ => rfl,
      g_made_with := PySem.W.mg_of X G gf_made_with,
      a__law_taken := a__law_taken,
      d__law_taken := _,
      F__law_taken := fun_mk (st := s__law_taken) l__law_taken c__law_taken kp__law_taken,
      b__law_taken := (fun_mk (st := s__law_taken) l__law_taken c__law_taken kp__law_taken).binds (ps := ["_law_row", "_law_many"]) fun _ _ _ _ _ _ us hl => match us, hl with | [_, _], _ => rfl,
      g__law_taken := PySem.W.mg_of X G gf__law_taken,
      a__law_power := a__law_power,
      d__law_power := _,
      F__law_power := fun_mk (st := s__law_power) l__law_power c__law_power kp__law_power,
      b__law_power := (fun_mk (st := s__law_power) l__law_power c__law_power kp__law_power).binds (ps := ["_law_base", "_law_many"]) fun _ _ _ _ _ _ us hl => match us, hl with | [_, _], _ => rfl,
      g__law_power := PySem.W.mg_of X G gf__law_power,
      a__law_trick := a__law_trick,
      d__law_trick := _,
      F__law_trick := fun_mk (st := s__law_trick) l__law_trick c__law_trick kp__law_trick,
      b__law_trick := (fun_mk (st := s__law_trick) l__law_trick c__law_trick kp__law_trick).binds (ps := ["_law_row", "_law_small"]) fun _ _ _ _ _ _ us hl => match us, hl with | [_, _], _ => rfl,
      g__law_trick := PySem.W.mg_of X G gf__law_trick,
      a__law_behind := a__law_behind,
      d__law_behind := _,
      F__law_behind := fun_mk (st := s__law_behind) l__law_behind c__law_behind kp__law_behind,
      b__law_behind := (fun_mk (st := s__law_behind) l__law_behind c__law_behind kp__law_behind).binds (ps := ["_law_told", "_law_n"]) fun _ _ _ _ _ _ us hl => match us, hl with | [_, _], _ => rfl,
      g__law_behind := PySem.W.mg_of X G gf__law_behind,
      a__law_number := a__law_number,
      d__law_number := _,
      F__law_number := fun_mk (st := s__law_number) l__law_number c__law_number kp__law_number,
      b__law_number := (fun_mk (st := s__law_number) l__law_number c__law_number kp__law_number).binds (ps := ["_law_row"]) fun _ _ _ _ _ _ us hl => match us, hl with | [_], _ => rfl,
      g__law_number := PySem.W.mg_of X G gf__law_number,
      a__law_odd_number := a__law_odd_number,
      d__law_odd_number := _,
      F__law_odd_number := fun_mk (st := s__law_odd_number) l__law_odd_number c__law_odd_number kp__law_odd_number,
      b__law_odd_number := (fun_mk (st := s__law_odd_number) l__law_odd_number c__law_odd_number kp__law_odd_number).binds (ps := ["_law_row"]) fun _ _ _ _ _ _ us hl => match us, hl with | [_], _ => rfl,
      g__law_odd_number := PySem.W.mg_of X G gf__law_odd_number,
      a__law_tricks := a__law_tricks,
      d__law_tricks := _,
      F__law_tricks := fun_mk (st := s__law_tricks) l__law_tricks c__law_tricks kp__law_tricks,
      b__law_tricks := (fun_mk (st := s__law_tricks) l__law_tricks c__law_tricks kp__law_tricks).binds (ps := ["_law_told"]) fun _ _ _ _ _ _ us hl => match us, hl with | [_], _ => rfl,
      g__law_tricks := PySem.W.mg_of X G gf__law_tricks,
      a__law_stepped := a__law_stepped,
      d__law_stepped := _,
      F__law_stepped := fun_mk (st := s__law_stepped) l__law_stepped c__law_stepped kp__law_stepped,
      b__law_stepped := (fun_mk (st := s__law_stepped) l__law_stepped c__law_stepped kp__law_stepped).binds (ps := ["_law_reckoner", "_law_trick_here"]) fun _ _ _ _ _ _ us hl => match us, hl with | [_, _], _ => rfl,
      g__law_stepped := PySem.W.mg_of X G gf__law_stepped,
      a__law_is_reckoner := a__law_is_reckoner,
      d__law_is_reckoner := _,
      F__law_is_reckoner := fun_mk (st := s__law_is_reckoner) l__law_is_reckoner c__law_is_reckoner kp__law_is_reckoner,
      b__law_is_reckoner := (fun_mk (st := s__law_is_reckoner) l__law_is_reckoner c__law_is_reckoner kp__law_is_reckoner).binds (ps := ["_law_reckoner", "_law_states", "_law_done_so"]) fun _ _ _ _ _ _ us hl => match us, hl with | [_, _, _], _ => rfl,
      g__law_is_reckoner := PySem.W.mg_of X G gf__law_is_reckoner,
      a_law := a_law,
      d_law := _,
      F_law := fun_mk (st := s_law) l_law c_law kp_law,
      b_law := (fun_mk (st := s_law) l_law c_law kp_law).binds (ps := ["_law_script"]) fun _ _ _ _ _ _ us hl => match us, hl with | [_], _ => rfl,
      g_law := PySem.W.mg_of X G gf_law,
      C_Trick := C_Trick,
      cl_Trick := ⟨pg_Trick, hd_Trick, po_Trick, sa_Trick⟩,
      g_Trick := PySem.W.mg_of X G gx_Trick,
      kc_Trick := kc_Trick,
      ins_Trick := fun _ _ _ _ e => .ins e ⟨pg_Trick, hd_Trick, po_Trick, sa_Trick⟩ cc_Trick sp_cls tk_cls mo_Trick,
      ki_Trick_int := ki_Trick_int,
      ki_Trick_bool := ki_Trick_bool,
      ki_Trick_tuple := ki_Trick_tuple,
      ki_Trick_list := ki_Trick_list,
      nf_Trick_tuple := nf_Trick_tuple,
      kis_Trick := kis_Trick,
      kin_Trick_int := kin_Trick_int,
      kin_Trick_bool := kin_Trick_bool,
      kin_Trick_tuple := kin_Trick_tuple,
      kin_Trick_list := kin_Trick_list,
      kin_Trick_NoneType := kin_Trick_NoneType,
      kin_Trick_str := kin_Trick_str,
      kin_Trick_dict := kin_Trick_dict,
      na_Trick_base := na_Trick_base,
      na_Trick_take := na_Trick_take,
      na_Trick_times := na_Trick_times,
      a_Trick___init__ := a_Trick___init__,
      d_Trick___init__ := _,
      F_Trick___init__ := fun_mk (st := s_Trick___init__) l_Trick___init__ c_Trick___init__ kp_Trick___init__,
      b_Trick___init__ := (fun_mk (st := s_Trick___init__) l_Trick___init__ c_Trick___init__ kp_Trick___init__).binds (ps := ["self", "base", "take", "times"]) fun _ _ _ _ _ _ us hl => match us, hl with | [_, _, _, _], _ => rfl,
      mk_Trick := ⟨mk_Trick, gf_Trick___init__, isf_Trick___init__, kc_Trick⟩,
      a_Trick_base := a_Trick_base,
      d_Trick_base := _,
      F_Trick_base := fun_mk (st := s_Trick_base) l_Trick_base c_Trick_base kp_Trick_base,
      b_Trick_base := (fun_mk (st := s_Trick_base) l_Trick_base c_Trick_base kp_Trick_base).binds (ps := ["self"]) fun _ _ _ _ _ _ us hl => match us, hl with | [_], _ => rfl,
      q_Trick_base := pr_Trick_base,
      p_Trick_base := ⟨pa_Trick_base, pg_Trick_base, pt_Trick_base, ⟨_, prr_Trick_base⟩⟩,
      a_Trick_take := a_Trick_take,
      d_Trick_take := _,
      F_Trick_take := fun_mk (st := s_Trick_take) l_Trick_take c_Trick_take kp_Trick_take,
      b_Trick_take := (fun_mk (st := s_Trick_take) l_Trick_take c_Trick_take kp_Trick_take).binds (ps := ["self"]) fun _ _ _ _ _ _ us hl => match us, hl with | [_], _ => rfl,
      q_Trick_take := pr_Trick_take,
      p_Trick_take := ⟨pa_Trick_take, pg_Trick_take, pt_Trick_take, ⟨_, prr_Trick_take⟩⟩,
      a_Trick_times := a_Trick_times,
      d_Trick_times := _,
      F_Trick_times := fun_mk (st := s_Trick_times) l_Trick_times c_Trick_times kp_Trick_times,
      b_Trick_times := (fun_mk (st := s_Trick_times) l_Trick_times c_Trick_times kp_Trick_times).binds (ps := ["self"]) fun _ _ _ _ _ _ us hl => match us, hl with | [_], _ => rfl,
      q_Trick_times := pr_Trick_times,
      p_Trick_times := ⟨pa_Trick_times, pg_Trick_times, pt_Trick_times, ⟨_, prr_Trick_times⟩⟩,
      a_Trick___eq__ := a_Trick___eq__,
      d_Trick___eq__ := _,
      F_Trick___eq__ := fun_mk (st := s_Trick___eq__) l_Trick___eq__ c_Trick___eq__ kp_Trick___eq__,
      b_Trick___eq__ := (fun_mk (st := s_Trick___eq__) l_Trick___eq__ c_Trick___eq__ kp_Trick___eq__).binds (ps := ["self", "other"]) fun _ _ _ _ _ _ us hl => match us, hl with | [_, _], _ => rfl,
      m_Trick___eq__ := ⟨gf_Trick___eq__, isf_Trick___eq__, kp_Trick___eq__⟩,
      C_Reckoner := C_Reckoner,
      cl_Reckoner := ⟨pg_Reckoner, hd_Reckoner, po_Reckoner, sa_Reckoner⟩,
      g_Reckoner := PySem.W.mg_of X G gx_Reckoner,
      kc_Reckoner := kc_Reckoner,
      ins_Reckoner := fun _ _ _ _ e => .ins e ⟨pg_Reckoner, hd_Reckoner, po_Reckoner, sa_Reckoner⟩ cc_Reckoner sp_cls tk_cls mo_Reckoner,
      ki_Reckoner_int := ki_Reckoner_int,
      ki_Reckoner_bool := ki_Reckoner_bool,
      ki_Reckoner_tuple := ki_Reckoner_tuple,
      ki_Reckoner_list := ki_Reckoner_list,
      kis_Reckoner := kis_Reckoner,
      kin_Reckoner_int := kin_Reckoner_int,
      kin_Reckoner_bool := kin_Reckoner_bool,
      kin_Reckoner_tuple := kin_Reckoner_tuple,
      kin_Reckoner_list := kin_Reckoner_list,
      kin_Reckoner_NoneType := kin_Reckoner_NoneType,
      kin_Reckoner_str := kin_Reckoner_str,
      kin_Reckoner_dict := kin_Reckoner_dict,
      na_Reckoner_numbers := na_Reckoner_numbers,
      na_Reckoner_tricks := na_Reckoner_tricks,
      a_Reckoner___init__ := a_Reckoner___init__,
      d_Reckoner___init__ := _,
      F_Reckoner___init__ := fun_mk (st := s_Reckoner___init__) l_Reckoner___init__ c_Reckoner___init__ kp_Reckoner___init__,
      b_Reckoner___init__ := (fun_mk (st := s_Reckoner___init__) l_Reckoner___init__ c_Reckoner___init__ kp_Reckoner___init__).binds (ps := ["self", "n"]) fun _ _ _ _ _ _ us hl => match us, hl with | [_, _], _ => rfl,
      mk_Reckoner := ⟨mk_Reckoner, gf_Reckoner___init__, isf_Reckoner___init__, kc_Reckoner⟩,
      a_Reckoner_now := a_Reckoner_now,
      d_Reckoner_now := _,
      F_Reckoner_now := fun_mk (st := s_Reckoner_now) l_Reckoner_now c_Reckoner_now kp_Reckoner_now,
      b_Reckoner_now := (fun_mk (st := s_Reckoner_now) l_Reckoner_now c_Reckoner_now kp_Reckoner_now).binds (ps := ["self"]) fun _ _ _ _ _ _ us hl => match us, hl with | [_], _ => rfl,
      q_Reckoner_now := pr_Reckoner_now,
      p_Reckoner_now := ⟨pa_Reckoner_now, pg_Reckoner_now, pt_Reckoner_now, ⟨_, prr_Reckoner_now⟩⟩,
      a_Reckoner_tricks := a_Reckoner_tricks,
      d_Reckoner_tricks := _,
      F_Reckoner_tricks := fun_mk (st := s_Reckoner_tricks) l_Reckoner_tricks c_Reckoner_tricks kp_Reckoner_tricks,
      b_Reckoner_tricks := (fun_mk (st := s_Reckoner_tricks) l_Reckoner_tricks c_Reckoner_tricks kp_Reckoner_tricks).binds (ps := ["self"]) fun _ _ _ _ _ _ us hl => match us, hl with | [_], _ => rfl,
      q_Reckoner_tricks := pr_Reckoner_tricks,
      p_Reckoner_tricks := ⟨pa_Reckoner_tricks, pg_Reckoner_tricks, pt_Reckoner_tricks, ⟨_, prr_Reckoner_tricks⟩⟩,
      a_Reckoner_step := a_Reckoner_step,
      d_Reckoner_step := _,
      F_Reckoner_step := fun_mk (st := s_Reckoner_step) l_Reckoner_step c_Reckoner_step kp_Reckoner_step,
      b_Reckoner_step := (fun_mk (st := s_Reckoner_step) l_Reckoner_step c_Reckoner_step kp_Reckoner_step).binds (ps := ["self", "trick"]) fun _ _ _ _ _ _ us hl => match us, hl with | [_, _], _ => rfl,
      m_Reckoner_step := ⟨gf_Reckoner_step, isf_Reckoner_step, kp_Reckoner_step⟩,
      a_Reckoner_undo := a_Reckoner_undo,
      d_Reckoner_undo := _,
      F_Reckoner_undo := fun_mk (st := s_Reckoner_undo) l_Reckoner_undo c_Reckoner_undo kp_Reckoner_undo,
      b_Reckoner_undo := (fun_mk (st := s_Reckoner_undo) l_Reckoner_undo c_Reckoner_undo kp_Reckoner_undo).binds (ps := ["self"]) fun _ _ _ _ _ _ us hl => match us, hl with | [_], _ => rfl,
      m_Reckoner_undo := ⟨gf_Reckoner_undo, isf_Reckoner_undo, kp_Reckoner_undo⟩,
      a_Reckoner_copy := a_Reckoner_copy,
      d_Reckoner_copy := _,
      F_Reckoner_copy := fun_mk (st := s_Reckoner_copy) l_Reckoner_copy c_Reckoner_copy kp_Reckoner_copy,
      b_Reckoner_copy := (fun_mk (st := s_Reckoner_copy) l_Reckoner_copy c_Reckoner_copy kp_Reckoner_copy).binds (ps := ["self"]) fun _ _ _ _ _ _ us hl => match us, hl with | [_], _ => rfl,
      m_Reckoner_copy := ⟨gf_Reckoner_copy, isf_Reckoner_copy, kp_Reckoner_copy⟩,
      a_Reckoner___len__ := a_Reckoner___len__,
      d_Reckoner___len__ := _,
      F_Reckoner___len__ := fun_mk (st := s_Reckoner___len__) l_Reckoner___len__ c_Reckoner___len__ kp_Reckoner___len__,
      b_Reckoner___len__ := (fun_mk (st := s_Reckoner___len__) l_Reckoner___len__ c_Reckoner___len__ kp_Reckoner___len__).binds (ps := ["self"]) fun _ _ _ _ _ _ us hl => match us, hl with | [_], _ => rfl,
      m_Reckoner___len__ := ⟨gf_Reckoner___len__, isf_Reckoner___len__, kp_Reckoner___len__⟩,
      n_int := PySem.W.mg_none_of X G z_int,
      n_bool := PySem.W.mg_none_of X G z_bool,
      n_len := PySem.W.mg_none_of X G z_len,
      n_range := PySem.W.mg_none_of X G z_range,
      n_isinstance := PySem.W.mg_none_of X G z_isinstance,
      n_tuple := PySem.W.mg_none_of X G z_tuple,
      n_list := PySem.W.mg_none_of X G z_list,
      n_max := PySem.W.mg_none_of X G z_max,
      n_super := PySem.W.mg_none_of X G z_super,
      n_ValueError := PySem.W.mg_none_of X G z_ValueError,
      a_BadNumber___init__ := a_BadNumber___init__,
      x_BadNumber := { gC := PySem.W.mg_of X G gx_BadNumber, cls := ⟨_, _, _, _, _, _, _, _, _, _, _, _, _, _, _, xl_BadNumber___init__, xrb_BadNumber___init__⟩, sa := xsa_BadNumber___init__, ga := xga_BadNumber___init__, gg := xgg_BadNumber___init__, noF := xnf_BadNumber___init__, iC := xic_BadNumber___init__, tC := xtc_BadNumber___init__, kC := k_BadNumber, exC := s_BadNumber, tyC := t_BadNumber, hdC := xhd_BadNumber___init__, up := xup_BadNumber___init__, any := xan_BadNumber___init__, ve := xve_BadNumber___init__, own := xow_BadNumber___init__, sup := PySem.W.mg_none_of X G z_super, main := rmn_BadNumber___init__, fn := ⟨_, _, _, _, _, _, _, _, _, _, _, _, _, _, _, _, _, _, _, xfn_BadNumber___init__, xco_BadNumber___init__, xcd_BadNumber___init__, rvs_BadNumber___init__, rfi_BadNumber___init__, xcc_BadNumber___init__⟩, text := ⟨_, _, _, _, _, _, _, _, _, _, _, rfl, rfl, fun _ => rfl⟩, kS := rfl, kK := rfl, k0 := rfl, kF := rfl, nF := by decide, nD := by decide, noCell := by decide +kernel, bind := fun _ _ _ _ _ _ _ _ _ => rfl, plain := fun _ => rfl, knd := rfl, co := rfl, gen := rfl } })
theorem walk {l : PySem.W.OpenLaw} {q : Program} {loose : List Str} {XP : (Str → Option Value) → Heap → Prop} {YP : World → Heap → Prop} {d : DefRec} {K : Params → PySem.W.Frag} (hn : l.most = some 63) (hdf : d.params.defaults = [])
    (hY : ∀ (w : World) (h : Heap), YP w h → (K w.params).In h)
    (F : ∀ (w : World) (mg : Str → Option Value) (fa : Addr) (h : Heap), (K w.params).In h → h.Ns mainGlobals mg → mg d.name = some (.ref fa) →
      ∃ fd : FuncData, (∀ (s : Shared) (u : Value), BindsTo s fd ⟨[u], []⟩ [("_law_script", u)]) ∧ ∀ base : Heap, (K w.params).In base → base.Ns mainGlobals mg → FnOk l.prog w (K w.params) mg base CX0 lv_law fa fd ["_law_script"] (sp_law (K w.params))) :
    PySem.W.WalkO q loose XP YP l.row.toRowW d [] (fun f vs => PySem.call f vs) :=
  L2.walk_of (n := 63) (k := lv_law) (x := "_law_script") (CX := fun _ => CX0) (sp := fun w => sp_law (K w.params)) hn (by decide) hdf ⟨rfl, by decide, by decide⟩ hY F (fun _ _ a ns hl hO hS => ⟨a, ns, rfl, scr_of hO hS, hl, fun _ => rfl⟩) fun _ _ _ _ _ z => z
end Rt
open PySem PySem.W PyProof.Rows
set_option maxRecDepth 100000 in
set_option maxHeartbeats 0 in
theorem PySem.Challenge.cw_resttricks_k37_whole_reckoners_holds : PySem.Challenge.rw_resttricks_k37_whole_reckoners.Holds := by
  w_on; o_law; k_head; (case hw => w_witness2)
  k_fill
  refine Rt.walk (l := PySem.Challenge.rw_resttricks_k37_whole_reckoners) rfl rfl (fun w h Y => PySem.W.kIn_of Y) ?F
  case F =>
    intro w mg fa h KX G hmg
    refine' Rt.all_mk KX G hmg ?gx_TrickError ?x_TrickError ?k_TrickError ?s_TrickError ?t_TrickError ?gx_BadBase ?x_BadBase ?k_BadBase ?s_BadBase ?t_BadBase ?gx_BadTake ?x_BadTake ?k_BadTake ?s_BadTake ?t_BadTake ?gx_BadTimes ?x_BadTimes ?k_BadTimes ?s_BadTimes ?t_BadTimes ?gx_BadTrick ?x_BadTrick ?k_BadTrick ?s_BadTrick ?t_BadTrick ?hd_BadTrick ?gx_BadNumber ?k_BadNumber ?s_BadNumber ?t_BadNumber ?hd_BadNumber ?su_TrickError_BadNumber ?su_TrickError_BadTrick ?su_BadBase_BadNumber ?su_BadBase_BadTrick ?su_BadTake_BadNumber ?su_BadTake_BadTrick ?su_BadTimes_BadNumber ?su_BadTimes_BadTrick ?su_BadTrick_BadNumber ?su_BadTrick_BadTrick ?su_BadNumber_BadNumber ?su_BadNumber_BadTrick ?cx_GREATEST_NUMBER ?cx_LEAST_BASE ?cx_GREATEST_BASE ?cx_GREATEST_TAKE ?cx_GREATEST_TIMES ?gf_is_integer ?l_is_integer ?c_is_integer ?kp_is_integer ?gf_is_number ?l_is_number ?c_is_number ?kp_is_number ?gf_check_base ?l_check_base ?c_check_base ?kp_check_base ?gf_check_take ?l_check_take ?c_check_take ?kp_check_take ?gf_check_number ?l_check_number ?c_check_number ?kp_check_number ?gf_block_of ?l_block_of ?c_block_of ?kp_block_of ?gf_check_trick ?l_check_trick ?c_check_trick ?kp_check_trick ?gf_trick_block ?l_trick_block ?c_trick_block ?kp_trick_block ?gf_made_of ?l_made_of ?c_made_of ?kp_made_of ?gf_made_with ?l_made_with ?c_made_with ?kp_made_with ?gf__law_taken ?l__law_taken ?c__law_taken ?kp__law_taken ?gf__law_power ?l__law_power ?c__law_power ?kp__law_power ?gf__law_trick ?l__law_trick ?c__law_trick ?kp__law_trick ?gf__law_behind ?l__law_behind ?c__law_behind ?kp__law_behind ?gf__law_number ?l__law_number ?c__law_number ?kp__law_number ?gf__law_odd_number ?l__law_odd_number ?c__law_odd_number ?kp__law_odd_number ?gf__law_tricks ?l__law_tricks ?c__law_tricks ?kp__law_tricks ?gf__law_stepped ?l__law_stepped ?c__law_stepped ?kp__law_stepped ?gf__law_is_reckoner ?l__law_is_reckoner ?c__law_is_reckoner ?kp__law_is_reckoner ?gf_law ?l_law ?c_law ?kp_law ?gx_Trick ?pg_Trick ?hd_Trick ?po_Trick ?sa_Trick ?mk_Trick ?kc_Trick ?cc_Trick ?mo_Trick ?sp_cls ?tk_cls ?ki_Trick_int ?ki_Trick_bool ?ki_Trick_tuple ?ki_Trick_list ?nf_Trick_tuple ?kis_Trick ?kin_Trick_int ?kin_Trick_bool ?kin_Trick_tuple ?kin_Trick_list ?kin_Trick_NoneType ?kin_Trick_str ?kin_Trick_dict ?na_Trick_base ?na_Trick_take ?na_Trick_times ?gf_Trick___init__ ?l_Trick___init__ ?c_Trick___init__ ?kp_Trick___init__ ?isf_Trick___init__ ?pa_Trick_base ?pg_Trick_base ?pt_Trick_base ?prr_Trick_base ?l_Trick_base ?c_Trick_base ?kp_Trick_base ?pa_Trick_take ?pg_Trick_take ?pt_Trick_take ?prr_Trick_take ?l_Trick_take ?c_Trick_take ?kp_Trick_take ?pa_Trick_times ?pg_Trick_times ?pt_Trick_times ?prr_Trick_times ?l_Trick_times ?c_Trick_times ?kp_Trick_times ?gf_Trick___eq__ ?l_Trick___eq__ ?c_Trick___eq__ ?kp_Trick___eq__ ?isf_Trick___eq__ ?gx_Reckoner ?pg_Reckoner ?hd_Reckoner ?po_Reckoner ?sa_Reckoner ?mk_Reckoner ?kc_Reckoner ?cc_Reckoner ?mo_Reckoner ?ki_Reckoner_int ?ki_Reckoner_bool ?ki_Reckoner_tuple ?ki_Reckoner_list ?kis_Reckoner ?kin_Reckoner_int ?kin_Reckoner_bool ?kin_Reckoner_tuple ?kin_Reckoner_list ?kin_Reckoner_NoneType ?kin_Reckoner_str ?kin_Reckoner_dict ?na_Reckoner_numbers ?na_Reckoner_tricks ?gf_Reckoner___init__ ?l_Reckoner___init__ ?c_Reckoner___init__ ?kp_Reckoner___init__ ?isf_Reckoner___init__ ?pa_Reckoner_now ?pg_Reckoner_now ?pt_Reckoner_now ?prr_Reckoner_now ?l_Reckoner_now ?c_Reckoner_now ?kp_Reckoner_now ?pa_Reckoner_tricks ?pg_Reckoner_tricks ?pt_Reckoner_tricks ?prr_Reckoner_tricks ?l_Reckoner_tricks ?c_Reckoner_tricks ?kp_Reckoner_tricks ?gf_Reckoner_step ?l_Reckoner_step ?c_Reckoner_step ?kp_Reckoner_step ?isf_Reckoner_step ?gf_Reckoner_undo ?l_Reckoner_undo ?c_Reckoner_undo ?kp_Reckoner_undo ?isf_Reckoner_undo ?gf_Reckoner_copy ?l_Reckoner_copy ?c_Reckoner_copy ?kp_Reckoner_copy ?isf_Reckoner_copy ?gf_Reckoner___len__ ?l_Reckoner___len__ ?c_Reckoner___len__ ?kp_Reckoner___len__ ?isf_Reckoner___len__ ?z_int ?z_bool ?z_len ?z_range ?z_isinstance ?z_tuple ?z_list ?z_max ?z_super ?z_ValueError ?xl_BadNumber___init__ ?xrb_BadNumber___init__ ?xsa_BadNumber___init__ ?xga_BadNumber___init__ ?xgg_BadNumber___init__ ?xnf_BadNumber___init__ ?xic_BadNumber___init__ ?xtc_BadNumber___init__ ?xhd_BadNumber___init__ ?xup_BadNumber___init__ ?xan_BadNumber___init__ ?xve_BadNumber___init__ ?xow_BadNumber___init__ ?rmn_BadNumber___init__ ?xfn_BadNumber___init__ ?xco_BadNumber___init__ ?xcd_BadNumber___init__ ?rvs_BadNumber___init__ ?rfi_BadNumber___init__ ?xcc_BadNumber___init__
    (case gx_TrickError => k_is)
    (case x_TrickError => k_exc)
    (case k_TrickError => k_is)
    (case s_TrickError => k_is)
    (case t_TrickError => k_is)
    (case gx_BadBase => k_is)
    (case x_BadBase => k_exc)
    (case k_BadBase => k_is)
    (case s_BadBase => k_is)
    (case t_BadBase => k_is)
    (case gx_BadTake => k_is)
    (case x_BadTake => k_exc)
    (case k_BadTake => k_is)
    (case s_BadTake => k_is)
    (case t_BadTake => k_is)
    (case gx_BadTimes => k_is)
    (case x_BadTimes => k_exc)
    (case k_BadTimes => k_is)
    (case s_BadTimes => k_is)
    (case t_BadTimes => k_is)
    (case gx_BadTrick => k_is)
    (case x_BadTrick => k_exc)
    (case k_BadTrick => k_is)
    (case s_BadTrick => k_is)
    (case t_BadTrick => k_is)
    (case hd_BadTrick => k_is)
    (case gx_BadNumber => k_is)
    (case k_BadNumber => k_is)
    (case s_BadNumber => k_is)
    (case t_BadNumber => k_is)
    (case hd_BadNumber => k_is)
    (case su_TrickError_BadNumber => first | k_is | rfl)
    (case su_TrickError_BadTrick => first | k_is | rfl)
    (case su_BadBase_BadNumber => first | k_is | rfl)
    (case su_BadBase_BadTrick => first | k_is | rfl)
    (case su_BadTake_BadNumber => first | k_is | rfl)
    (case su_BadTake_BadTrick => first | k_is | rfl)
    (case su_BadTimes_BadNumber => first | k_is | rfl)
    (case su_BadTimes_BadTrick => first | k_is | rfl)
    (case su_BadTrick_BadNumber => first | k_is | rfl)
    (case su_BadTrick_BadTrick => first | k_is | rfl)
    (case su_BadNumber_BadNumber => first | k_is | rfl)
    (case su_BadNumber_BadTrick => first | k_is | rfl)
    (case cx_GREATEST_NUMBER => k_is)
    (case cx_LEAST_BASE => k_is)
    (case cx_GREATEST_BASE => k_is)
    (case cx_GREATEST_TAKE => k_is)
    (case cx_GREATEST_TIMES => k_is)
    (case gf_is_integer => k_is)
    (case l_is_integer => k_is)
    (case c_is_integer => k_is)
    (case kp_is_integer => k_is)
    (case gf_is_number => k_is)
    (case l_is_number => k_is)
    (case c_is_number => k_is)
    (case kp_is_number => k_is)
    (case gf_check_base => k_is)
    (case l_check_base => k_is)
    (case c_check_base => k_is)
    (case kp_check_base => k_is)
    (case gf_check_take => k_is)
    (case l_check_take => k_is)
    (case c_check_take => k_is)
    (case kp_check_take => k_is)
    (case gf_check_number => k_is)
    (case l_check_number => k_is)
    (case c_check_number => k_is)
    (case kp_check_number => k_is)
    (case gf_block_of => k_is)
    (case l_block_of => k_is)
    (case c_block_of => k_is)
    (case kp_block_of => k_is)
    (case gf_check_trick => k_is)
    (case l_check_trick => k_is)
    (case c_check_trick => k_is)
    (case kp_check_trick => k_is)
    (case gf_trick_block => k_is)
    (case l_trick_block => k_is)
    (case c_trick_block => k_is)
    (case kp_trick_block => k_is)
    (case gf_made_of => k_is)
    (case l_made_of => k_is)
    (case c_made_of => k_is)
    (case kp_made_of => k_is)
    (case gf_made_with => k_is)
    (case l_made_with => k_is)
    (case c_made_with => k_is)
    (case kp_made_with => k_is)
    (case gf__law_taken => k_is)
    (case l__law_taken => k_is)
    (case c__law_taken => k_is)
    (case kp__law_taken => k_is)
    (case gf__law_power => k_is)
    (case l__law_power => k_is)
    (case c__law_power => k_is)
    (case kp__law_power => k_is)
    (case gf__law_trick => k_is)
    (case l__law_trick => k_is)
    (case c__law_trick => k_is)
    (case kp__law_trick => k_is)
    (case gf__law_behind => k_is)
    (case l__law_behind => k_is)
    (case c__law_behind => k_is)
    (case kp__law_behind => k_is)
    (case gf__law_number => k_is)
    (case l__law_number => k_is)
    (case c__law_number => k_is)
    (case kp__law_number => k_is)
    (case gf__law_odd_number => k_is)
    (case l__law_odd_number => k_is)
    (case c__law_odd_number => k_is)
    (case kp__law_odd_number => k_is)
    (case gf__law_tricks => k_is)
    (case l__law_tricks => k_is)
    (case c__law_tricks => k_is)
    (case kp__law_tricks => k_is)
    (case gf__law_stepped => k_is)
    (case l__law_stepped => k_is)
    (case c__law_stepped => k_is)
    (case kp__law_stepped => k_is)
    (case gf__law_is_reckoner => k_is)
    (case l__law_is_reckoner => k_is)
    (case c__law_is_reckoner => k_is)
    (case kp__law_is_reckoner => k_is)
    (case gf_law => k_is)
    (case l_law => k_is)
    (case c_law => k_is)
    (case kp_law => k_is)
    (case gx_Trick => k_is)
    (case pg_Trick => k_is)
    (case hd_Trick => k_is)
    (case po_Trick => k_is)
    (case sa_Trick => k_is)
    (case mk_Trick => k_is)
    (case kc_Trick => k_is)
    (case cc_Trick => k_is)
    (case mo_Trick => k_is)
    (case sp_cls => k_is)
    (case tk_cls => k_is)
    (case ki_Trick_int => first | k_is | rfl)
    (case ki_Trick_bool => first | k_is | rfl)
    (case ki_Trick_tuple => first | k_is | rfl)
    (case ki_Trick_list => first | k_is | rfl)
    (case nf_Trick_tuple => first | k_is | rfl)
    (case kis_Trick => first | k_is | rfl)
    (case kin_Trick_int => first | k_is | rfl)
    (case kin_Trick_bool => first | k_is | rfl)
    (case kin_Trick_tuple => first | k_is | rfl)
    (case kin_Trick_list => first | k_is | rfl)
    (case kin_Trick_NoneType => first | k_is | rfl)
    (case kin_Trick_str => first | k_is | rfl)
    (case kin_Trick_dict => first | k_is | rfl)
    (case na_Trick_base => k_is)
    (case na_Trick_take => k_is)
    (case na_Trick_times => k_is)
    (case gf_Trick___init__ => k_is)
    (case l_Trick___init__ => k_is)
    (case c_Trick___init__ => k_is)
    (case kp_Trick___init__ => k_is)
    (case isf_Trick___init__ => k_is)
    (case pa_Trick_base => k_is)
    (case pg_Trick_base => k_is)
    (case pt_Trick_base => k_is)
    (case prr_Trick_base => k_is)
    (case l_Trick_base => k_is)
    (case c_Trick_base => k_is)
    (case kp_Trick_base => k_is)
    (case pa_Trick_take => k_is)
    (case pg_Trick_take => k_is)
    (case pt_Trick_take => k_is)
    (case prr_Trick_take => k_is)
    (case l_Trick_take => k_is)
    (case c_Trick_take => k_is)
    (case kp_Trick_take => k_is)
    (case pa_Trick_times => k_is)
    (case pg_Trick_times => k_is)
    (case pt_Trick_times => k_is)
    (case prr_Trick_times => k_is)
    (case l_Trick_times => k_is)
    (case c_Trick_times => k_is)
    (case kp_Trick_times => k_is)
    (case gf_Trick___eq__ => k_is)
    (case l_Trick___eq__ => k_is)
    (case c_Trick___eq__ => k_is)
    (case kp_Trick___eq__ => k_is)
    (case isf_Trick___eq__ => k_is)
    (case gx_Reckoner => k_is)
    (case pg_Reckoner => k_is)
    (case hd_Reckoner => k_is)
    (case po_Reckoner => k_is)
    (case sa_Reckoner => k_is)
    (case mk_Reckoner => k_is)
    (case kc_Reckoner => k_is)
    (case cc_Reckoner => k_is)
    (case mo_Reckoner => k_is)
    (case ki_Reckoner_int => first | k_is | rfl)
    (case ki_Reckoner_bool => first | k_is | rfl)
    (case ki_Reckoner_tuple => first | k_is | rfl)
    (case ki_Reckoner_list => first | k_is | rfl)
    (case kis_Reckoner => first | k_is | rfl)
    (case kin_Reckoner_int => first | k_is | rfl)
    (case kin_Reckoner_bool => first | k_is | rfl)
    (case kin_Reckoner_tuple => first | k_is | rfl)
    (case kin_Reckoner_list => first | k_is | rfl)
    (case kin_Reckoner_NoneType => first | k_is | rfl)
    (case kin_Reckoner_str => first | k_is | rfl)
    (case kin_Reckoner_dict => first | k_is | rfl)
    (case na_Reckoner_numbers => k_is)
    (case na_Reckoner_tricks => k_is)
    (case gf_Reckoner___init__ => k_is)
    (case l_Reckoner___init__ => k_is)
    (case c_Reckoner___init__ => k_is)
    (case kp_Reckoner___init__ => k_is)
    (case isf_Reckoner___init__ => k_is)
    (case pa_Reckoner_now => k_is)
    (case pg_Reckoner_now => k_is)
    (case pt_Reckoner_now => k_is)
    (case prr_Reckoner_now => k_is)
    (case l_Reckoner_now => k_is)
    (case c_Reckoner_now => k_is)
    (case kp_Reckoner_now => k_is)
    (case pa_Reckoner_tricks => k_is)
    (case pg_Reckoner_tricks => k_is)
    (case pt_Reckoner_tricks => k_is)
    (case prr_Reckoner_tricks => k_is)
    (case l_Reckoner_tricks => k_is)
    (case c_Reckoner_tricks => k_is)
    (case kp_Reckoner_tricks => k_is)
    (case gf_Reckoner_step => k_is)
    (case l_Reckoner_step => k_is)
    (case c_Reckoner_step => k_is)
    (case kp_Reckoner_step => k_is)
    (case isf_Reckoner_step => k_is)
    (case gf_Reckoner_undo => k_is)
    (case l_Reckoner_undo => k_is)
    (case c_Reckoner_undo => k_is)
    (case kp_Reckoner_undo => k_is)
    (case isf_Reckoner_undo => k_is)
    (case gf_Reckoner_copy => k_is)
    (case l_Reckoner_copy => k_is)
    (case c_Reckoner_copy => k_is)
    (case kp_Reckoner_copy => k_is)
    (case isf_Reckoner_copy => k_is)
    (case gf_Reckoner___len__ => k_is)
    (case l_Reckoner___len__ => k_is)
    (case c_Reckoner___len__ => k_is)
    (case kp_Reckoner___len__ => k_is)
    (case isf_Reckoner___len__ => k_is)
    (case z_int => k_is)
    (case z_bool => k_is)
    (case z_len => k_is)
    (case z_range => k_is)
    (case z_isinstance => k_is)
    (case z_tuple => k_is)
    (case z_list => k_is)
    (case z_max => k_is)
    (case z_super => k_is)
    (case z_ValueError => k_is)
    (case xl_BadNumber___init__ => k_is)
    (case xrb_BadNumber___init__ => first | rfl | decide +kernel)
    (case xsa_BadNumber___init__ => k_is)
    (case xga_BadNumber___init__ => k_is)
    (case xgg_BadNumber___init__ => k_is)
    (case xnf_BadNumber___init__ => k_is)
    (case xic_BadNumber___init__ => k_is)
    (case xtc_BadNumber___init__ => k_is)
    (case xhd_BadNumber___init__ => k_is)
    (case xup_BadNumber___init__ => ks_is)
    (case xan_BadNumber___init__ => k_is)
    (case xve_BadNumber___init__ => k_is)
    (case xow_BadNumber___init__ => k_is)
    (case rmn_BadNumber___init__ => first | rfl | decide +kernel)
    (case xfn_BadNumber___init__ => k_is)
    (case xco_BadNumber___init__ => k_is)
    (case xcd_BadNumber___init__ => k_is)
    (case rvs_BadNumber___init__ => first | rfl | decide +kernel)
    (case rfi_BadNumber___init__ => first | rfl | decide +kernel)
    (case xcc_BadNumber___init__ => k_is)
#print axioms PySem.Challenge.cw_resttricks_k37_whole_reckoners_holds
