import PyProof.Rows.All
import Wide.All
import OpenK.AllK
import Wide.FinOn
import HandS.ForMost
import HandS.Exc
import HandS.TryOnly
import HandS.ExcOwn
import HandS.WordsExc
import HandS.TryMany
import HandS.IsInst
import HandS.Property
import HandS.Wide
import HandS.SortInts
import HandS.Conv
import HandS.Evl
import HandS.NoneIn
import HandS.ExcIs
import HandS.ExcSuper
import KE.KExcSuper
import KE.KExcInit
import KE.GoesMore
import HandS.Rev
import HandS.FStr
import HandS.Walk
import HandS.WideMore
import HandS.TupAny
import HandS.TupMul
import HandS.Style
import HandS.SetFor
import HandS.Strs
import HandS.Defaults
import HandS.RaiseMore
import HandS.Zip
import HandS.OwnEq
import HandS.DeepEq
import HandS.Deep
import HandS.TupSets
import HandS.SetFor
import HandS.NamedTupSort
import KE.KSortTupG
import PySem.Challenge.RW_resttricks_k35_fitting_great
set_option Elab.async false
set_option linter.all false
set_option maxRecDepth 100000
set_option maxHeartbeats 2000000
namespace Rt
open PySem L2 PySem.Spec PyProof.Rows
/-! ### the text by places -/
def topS (i : Nat) : Stmt := PySem.Challenge.pw_resttricks_k35_fitting_great.main.body.getD i (.Pass ⟨0, 0, 0, 0⟩)
abbrev s_is_integer : Stmt := topS 8
abbrev s_is_list_or_tuple : Stmt := topS 9
abbrev s_is_number : Stmt := topS 10
abbrev s_block_of : Stmt := topS 12
abbrev s_made_with : Stmt := topS 15
abbrev s_fitting : Stmt := topS 18
abbrev s_check_pairs : Stmt := topS 19
abbrev s_is_pair : Stmt := topS 20
abbrev s_fitting_times : Stmt := topS 21
abbrev s__law_taken : Stmt := topS 23
abbrev s__law_power : Stmt := topS 24
abbrev s__law_trick : Stmt := topS 25
abbrev s__law_behind : Stmt := topS 26
abbrev s__law_number : Stmt := topS 27
abbrev s_law : Stmt := topS 28
abbrev s_BadPairs___init__ : Stmt := inClass (topS 2) 0
theorem sc_is_integer : FnScope ["told", "low", "high"] ["told", "low", "high"] (defScope s_is_integer) := ⟨rfl, rfl, rfl, by decide +kernel, rfl, by decide +kernel, by decide +kernel⟩
abbrev lv_is_integer : Nat := 1
theorem sc_is_list_or_tuple : FnScope ["told", "fewest", "most"] ["told", "fewest", "most"] (defScope s_is_list_or_tuple) := ⟨rfl, rfl, rfl, by decide +kernel, rfl, by decide +kernel, by decide +kernel⟩
abbrev lv_is_list_or_tuple : Nat := 1
theorem sc_is_number : FnScope ["told"] ["told"] (defScope s_is_number) := ⟨rfl, rfl, rfl, by decide +kernel, rfl, by decide +kernel, by decide +kernel⟩
abbrev lv_is_number : Nat := 2
theorem sc_block_of : FnScope ["base", "take"] ["base", "take"] (defScope s_block_of) := ⟨rfl, rfl, rfl, by decide +kernel, rfl, by decide +kernel, by decide +kernel⟩
abbrev lv_block_of : Nat := 1
theorem sc_made_with : FnScope ["block", "times", "n"] ["block", "times", "n"] (defScope s_made_with) := ⟨rfl, rfl, rfl, by decide +kernel, rfl, by decide +kernel, by decide +kernel⟩
abbrev lv_made_with : Nat := 1
theorem sc_fitting : FnScope ["pairs", "base", "take", "times"] ["pairs"] (defScope s_fitting) := ⟨rfl, rfl, rfl, by decide +kernel, rfl, by decide +kernel, by decide +kernel⟩
abbrev lv_fitting : Nat := 5
theorem sc_check_pairs : FnScope ["pairs", "index", "pair"] ["pairs"] (defScope s_check_pairs) := ⟨rfl, rfl, rfl, by decide +kernel, rfl, by decide +kernel, by decide +kernel⟩
abbrev lv_check_pairs : Nat := 4
theorem sc_is_pair : FnScope ["told"] ["told"] (defScope s_is_pair) := ⟨rfl, rfl, rfl, by decide +kernel, rfl, by decide +kernel, by decide +kernel⟩
abbrev lv_is_pair : Nat := 3
theorem sc_fitting_times : FnScope ["block", "pairs", "found", "n", "later", "times"] ["block", "pairs"] (defScope s_fitting_times) := ⟨rfl, rfl, rfl, by decide +kernel, rfl, by decide +kernel, by decide +kernel⟩
abbrev lv_fitting_times : Nat := 2
theorem sc__law_taken : FnScope ["_law_row", "_law_many", "_law_found", "_law_cell"] ["_law_row", "_law_many"] (defScope s__law_taken) := ⟨rfl, rfl, rfl, by decide +kernel, rfl, by decide +kernel, by decide +kernel⟩
abbrev lv__law_taken : Nat := 1
theorem sc__law_power : FnScope ["_law_base", "_law_many", "_law_found", "_law_turn"] ["_law_base", "_law_many"] (defScope s__law_power) := ⟨rfl, rfl, rfl, by decide +kernel, rfl, by decide +kernel, by decide +kernel⟩
abbrev lv__law_power : Nat := 1
theorem sc__law_trick : FnScope ["_law_row", "_law_small", "_law_base", "_law_take", "_law_times", "_law_d", "_law_some", "_law_one"] ["_law_row", "_law_small"] (defScope s__law_trick) := ⟨rfl, rfl, rfl, by decide +kernel, rfl, by decide +kernel, by decide +kernel⟩
abbrev lv__law_trick : Nat := 2
theorem sc__law_behind : FnScope ["_law_told", "_law_n", "_law_base", "_law_take", "_law_times", "_law_block", "_law_rest"] ["_law_told", "_law_n"] (defScope s__law_behind) := ⟨rfl, rfl, rfl, by decide +kernel, rfl, by decide +kernel, by decide +kernel⟩
abbrev lv__law_behind : Nat := 1
theorem sc__law_number : FnScope ["_law_row", "_law_size", "_law_n"] ["_law_row"] (defScope s__law_number) := ⟨rfl, rfl, rfl, by decide +kernel, rfl, by decide +kernel, by decide +kernel⟩
abbrev lv__law_number : Nat := 2
theorem sc_law : FnScope ["_law_script", "_law_line", "_law_turn", "_law_told", "_law_pairs", "_law_k", "_law_n", "_law_found", "_law_some", "_law_later"] ["_law_script"] (defScope s_law) := ⟨rfl, rfl, rfl, by decide +kernel, rfl, by decide +kernel, by decide +kernel⟩
abbrev lv_law : Nat := 7
/-! ### what is known of the top behind its run -/
/-! ### an own error whose __init__ says super().__init__(text); self.F = F -/
end Rt
namespace ErrX
open PySem PySem.W PySem.Calls PyProof.Rows PySem.HandSPX
/-- what the written part says of such a class at C, its field F, its __init__ at fI -/
structure ErrTxt (P : Program) (K : Frag) (mg : Str → Option Value) (x fld : Str) (C fI : Addr) (ae : PySem.Expr) (st : Stmt) : Prop where
  gC : mg x = some (.ref C)
  cls : ∃ nm q N bs bm sn sub ab col dd k0 k1 k2 k3 k5, K.lookup C = some (excClassObj nm q C N bs bm true sn sub ab col dd k0 k1 k2 k3 k5 "ValueError.__new__") ∧ refsVE bm = true
  sa : findIn K (.ref C) "__setattr__" = some (some (.builtin "object.__setattr__"))
  ga : findIn K (.ref C) "__getattribute__" = some (some (.builtin "BaseException.__getattribute__"))
  gg : findIn K (.ref C) "__getattr__" = some none
  noF : findIn K (.ref C) fld = some none
  iC : findIn K (.ref C) "__init__" = some (some (.ref fI))
  tC : typeIn K (.ref fI) = some (.type "function")
  kC : keepIn K (.ref C) = true
  exC : subIn K (.ref C) (.type "BaseException") = some true
  tyC : typeIn K (.ref C) = some (.type "type")
  hdC : hasDictIn K C = true
  up : ks_superIn K C C "__init__" = some (some (.builtin "ValueError.__init__"))
  any : nsIn K cStatics "thirdparty.any" = some none
  ve : subIn K (.ref C) (.type "ValueError") = some true
  own : mroIn K C (.ref C) = some true
  sup : mg "super" = none
  main : (P.main.scope.names.lookup ("super" : Str)).isSome = false
  fn : ∃ (oc : Value) (od : Option Addr) (doc pm : Value) (an : Option Addr) (cda : Addr) (ct : Value) (osl : Array (Option Value)) (cc : Addr) (vs : Array Value) (file : Str) (tf : Tok) (ccl cl : Value) (cdd cld : Option Addr) (ccs csl : Array (Option Value)) (qual : Str),
    K.lookup fI = some ⟨oc, od, .func (ksFn "__init__" qual (L2.defArgs st) (L2.defBody st) (L2.defScope st) .none .none doc pm an (.ref cda) ct cc), osl⟩ ∧ codeIn K (.ref cda) qual = true ∧
    K.lookup cda = some ⟨ccl, cdd, .fields vs, ccs⟩ ∧ vs[2]? = some (.str file tf) ∧ ((P.main.file : Str) == file) = true ∧ K.lookup cc = some ⟨cl, cld, .cell (some (.ref C)), csl⟩
  text : ∃ (p0 p1 p2 p3 p4 q1 q2 q3 q4 a1 a2 : Pos), L2.defBody st = [.Expr (.Call (.Attribute (.Call (.Name "super" p0) [] [] p1) "__init__" p2) [ae] [] p3) p4, .Assign [.Attribute (.Name "self" q1) fld q2] (.Name fld q3) q4] ∧
    L2.defArgs st = { posonlyargs := [], args := [{ arg := "self", annotation := none, pos := a1 }, { arg := fld, annotation := none, pos := a2 }], vararg := none, kwonlyargs := [], kw_defaults := [], kwarg := none, defaults := [] } ∧
    ∀ env : Env, eval (.Call (.Attribute (.Call (.Name "super" p0) [] [] p1) "__init__" p2) [ae] [] p3) env = (do
      let ov ← attributeBase (.Call (.Name "super" p0) [] [] p1) "__init__" env (eval (.Call (.Name "super" p0) [] [] p1) env)
      standAt p2.atName
      let (f, first) ← holding [ov] (getMethod ov "__init__" (do return (← importBound (.Call (.Name "super" p0) [] [] p1) env).getD true))
      callWith p3 f first (backTo p3 (starEach [ae] env)) [])
  kS : (L2.defScope st).names.lookup ("super" : Str) = some .globalImplicit
  kK : (L2.defScope st).names.lookup ("__class__" : Str) = some .free
  k0 : (L2.defScope st).names.lookup ("self" : Str) = some .local
  kF : (L2.defScope st).names.lookup fld = some .local
  nF : (("self" : Str) == fld) = false
  nD : (fld == ("__debug__" : Str)) = false
  noCell : ∀ y ∈ (L2.defScope st).names, y.2 ≠ .cell
  bind : ∀ (qual : Str) (doc pm : Value) (an : Option Addr) (cda : Addr) (ct : Value) (cc : Addr) (u v : Value), bindArgs (ksFn "__init__" qual (L2.defArgs st) (L2.defBody st) (L2.defScope st) .none .none doc pm an (.ref cda) ct cc) ⟨[u, v], []⟩ = pure [(("self" : Str), u), (fld, v)]
  plain : ∀ env : Env, starEach (ae :: []) env = (false, eval ae env) :: starEach [] env
  knd : (L2.defScope st).kind = .function
  co : (L2.defScope st).isCoroutine = false
  gen : (L2.defScope st).isGenerator = false
/-- what __init__ leaves of a fresh error at x -/
structure EndOf (h h' : Heap) (x C dx t1 : Addr) (fld : Str) (v : Value) : Prop where
  keep : ∀ b o, b ≠ x → h.get? b = some o → h'.get? b = some o
  obj : h'.get? x = some { cls := .ref C, dict := some dx, data := .fields #[.ref t1, .none, .none, .none, .bool false, .none] }
  dbig : h.objs.size ≤ dx
  dne : dx ≠ x
  ns : h'.Ns1 dx (fun y => if y = fld then some v else none)
/-- the argument of super().__init__ is a text, whatever the field is -/
def ArgOk (prog : Program) (w : World) (ae : PySem.Expr) (fld : Str) (v : Value) : Prop := ∀ (env : Env) (m : Str → Option Value) (A : Around) (Q : Value → Shared → Prop) (E : Value → Shared → Prop) (s : Shared), s.heap.Ns env.locals m → m fld = some v → env.scope.kind = .function → env.kindOf fld = some .local →
  (∀ z t tk, Q (.str z t) { s with toks := tk }) → wpAny (model prog w) A (eval ae env) Q E s
theorem argOk_const {prog : Program} {w : World} {ae : PySem.Expr} {fld : Str} {v : Value} {z : Str} {k : Nat} {pos : Pos} (h : ae = .Constant (.str z) k pos) : ArgOk prog w ae fld v := by
  intro env m A Q E s _ _ _ _ hq
  rw [h]
  exact wpAny_Constant_str (hq _ _ _)
/-- None, or an int whose text is short -/
def NoneInt (v : L2.V) : Prop := v = .non ∨ ∃ i : Int, v = .int i ∧ i.natAbs.log2 < 1920
theorem argOk_f {prog : Program} {w : World} {ae : PySem.Expr} {fld : Str} {v : L2.V} {u : Value} {z : Str} {k : Nat} {p1 p2 p3 p4 : Pos} (n : NoneInt v) (r : L2.RelV v u)
    (h : ae = .JoinedStr [.Constant (.str z) k p1, .FormattedValue (.Name fld p2) (-1) none p3] p4 := by rfl) (hz : z.length ≤ 1000 := by decide) (hd : (fld == ("__debug__" : Str)) = false := by decide) : ArgOk prog w ae fld u := by
  intro env m A Q E s hn hv hk hl hq
  rw [h]
  have e0 : evalEach [.Constant (.str z) k p1, .FormattedValue (.Name fld p2) (-1) none p3] env = [eval (.Constant (.str z) k p1) env, eval (.FormattedValue (.Name fld p2) (-1) none p3) env] := by first | rfl | simp [evalEach]
  refine wpAny_JoinedStr ?_
  rw [e0]
  refine wpAny_Constant_str ?_
  have l0 : (Str.empty ++ z).length ≤ 1000 := by
    rw [Str.length_append]
    exact Nat.le_trans (Nat.le_of_eq (Nat.zero_add _)) hz
  refine ⟨z, _, rfl, Nat.le_trans l0 (by rw [sizeLine_eq]; decide), ?_⟩
  refine wpAny_FormattedValue_plain (wpAny_Name (wpAny_loadName_local hk hl hn hv ?_) hd)
  rcases n with rfl | ⟨i, rfl, hi⟩
  · cases r
    refine wpAny_formatField_none ⟨"None", _, rfl, ?_, ?_⟩
    · rw [Str.length_append, sizeLine_eq]
      have e : ("None" : Str).length = 4 := by decide
      omega
    · refine ⟨?_, hq _ _ _⟩
      rw [Str.length_append, sizeLine_eq]
      have e : ("None" : Str).length = 4 := by decide
      omega
  · obtain ⟨t, rfl⟩ := r
    refine wpAny_formatField_int hi ⟨_, _, rfl, ?_, ?_⟩
    · rw [Str.length_append, sizeLine_eq]
      have e := int_text_length_le (k := 1920) (by decide) hi
      have e2 : (Str.ofString (toString i)).length = (toString i).length := PySem.ofString_length _
      omega
    · refine ⟨?_, hq _ _ _⟩
      rw [Str.length_append, sizeLine_eq]
      have e := int_text_length_le (k := 1920) (by decide) hi
      have e2 : (Str.ofString (toString i)).length = (toString i).length := PySem.ofString_length _
      omega
/-- the argument of super().__init__ in the text of an __init__ -/
def aeOf (st : Stmt) : PySem.Expr := match L2.defBody st with
  | .Expr (.Call _ (a :: _) _ _) _ :: _ => a
  | _ => .Name "self" ⟨0, 0, 0, 0⟩
section
variable {prog : Program} {w : World} {A : Around} {E : Value → Shared → Prop} {hp : Heap} {g : Array GenState} {d : Drawn} {tk : Nat} {os : OsState}
/-- the bound __init__ of the base, called: the args are laid anew -/
theorem base_init {nm q : Str} {C N u e t0 : Addr} {bs bm : List Value} {sn : List Str} {sub : List Value} {ab : Bool} {col : Option Bool} {dd : Option Addr} {k0 k1 k2 k3 k5 : Option Value} {rest : List Value} {Q : Value → Shared → Prop}
    (hC : hp.get? C = some (excClassObj nm q C N bs bm true sn sub ab col dd k0 k1 k2 k3 k5 "ValueError.__new__")) (he : hp.get? e = some (excO C t0)) (hu : hp.get? u = some (kxs_mw "ValueError.__init__" e)) (hz : rest.length ≤ sizeLine)
    (k : ∀ h' t1, (∀ b o, b ≠ e → hp.get? b = some o → h'.get? b = some o) → h'.get? e = some (excO C t1) → Q .none ⟨h', g, d, tk, os⟩) : wpAny (model prog w) A (call (.ref u) rest) Q E ⟨hp, g, d, tk, os⟩ := by
  refine wpAny_call (codeAny_of_tree ?_)
  show wpAny _ A.in1 (callAny (.ref u) { pos := rest }) _ _ _
  unfold callAny
  refine wpAny_bind (wpAny_load hu ?_)
  have c1 : (Value.type "method-wrapper" == Value.type "method" || Value.type "method-wrapper" == Value.type "builtin_function_or_method" ||
    Value.type "method-wrapper" == Value.type "method-wrapper") = true := by decide
  simp only [kxs_mw, c1, if_true]
  refine KFB.if_so (by decide) (wpAny_bind (ESX.check_bound F.excBase_ValueError hC he rfl (wpAny_bind (wpAny_pure (wpAny_pure ?_)))))
  have FB := F.excBase_ValueError
  refine ⟨plainId_quiet FB.init.plain _, codeAny_builtin FB.initEntry ?_⟩
  rw [Around.under_plainId FB.init.plain _]
  wp_walk
  refine k _ hp.objs.size (fun b o n z => ?_) ?_
  · rw [Heap.get?_update_other _ _ (Ne.symm n)]
    exact Heap.get?_push_of_some _ z
  · rw [Heap.get?_update_self _ (Heap.get?_push_of_some _ he) rfl]
    rfl
theorem call_bound1 {M : Model} {s : Shared} {pos : Pos} {u b : Addr} {env : Env} {ae : PySem.Expr} {i : String} {Q : Value → Shared → Prop} (hpl : starEach (ae :: []) env = (false, eval ae env) :: starEach [] env)
    (h : wpAny M A (eval ae env) (fun v s₁ => KxsAt i u b s₁.heap ∧ wpAny M A (call (.ref u) [v]) Q E s₁) E s) : wpAny M A (callWith pos (.ref u) [] (backTo pos (starEach [ae] env)) []) Q E s := by
  have q : wpAny M A (spliced (backTo pos (starEach (ae :: []) env))) (fun vs s₁ => KxsAt i u b s₁.heap ∧ wpAny M A (call (.ref u) vs) Q E s₁) E s := args_cons (he := hpl) (wpAny_mono h (fun v s₁ z => wpAny_of_eq rfl z) fun _ _ z => z)
  rw [hpl] at q ⊢
  exact kxs_callWith (x := b) rfl (evalArgs_plain q)
theorem err_init {R : Result → Shared → Prop} {K : Frag} {mg mb : Str → Option Value} {x fld : Str} {C fI e t0 : Addr} {ae : PySem.Expr} {st : Stmt} {v : Value} (T : ErrTxt prog K mg x fld C fI ae st) (hA : ArgOk prog w ae fld v)
    (X : K.In hp) (hlim : hp.NoLimit) (hg : hp.Ns mainGlobals mg) (hb : hp.Ns builtinsNs mb) (hbb : ∀ y : Str, y ≠ "__name__" → mb y = bootBuiltins y) (he : hp.get? e = some (excO C t0)) (hne : K.lookup e = none) (hroom : A.depth < recursionLimit)
    (hq : ∀ h' tk dx t1, EndOf hp h' e C dx t1 fld v → R (.ok (.ret .none)) ⟨h', g, d, tk, os⟩) : codeAny (model prog w) A (.call (.ref fI) ⟨[.ref e, v], []⟩) R ⟨hp, g, d, tk, os⟩ := by
  obtain ⟨oc, od, doc, pm, an, cda, ct, osl, cc, vs, file, tf, ccl, cl, cdd, cld, ccs, csl, qual, lf, lc, lda, lvs, lfile, lcc⟩ := T.fn
  obtain ⟨p0, p1, p2, p3, p4, q1, q2, q3, q4, a1, a2, hB, hArgs, hcallE⟩ := T.text
  obtain ⟨nm, qn, N, bs, bm, sn, sub, ab, col, dd, k0, k1, k2, k3, k5, lC, hbm⟩ := T.cls
  have hcl : clsIn K C = some { name := nm, bases := bs, mro := .ref C :: bm, ns := N, qualname := qn, hasDict := true, slotNames := sn, subclasses := sub, abstract := ab, collection := col, hasDel := false } := by
    unfold clsIn
    rw [lC]
    all_goals rfl
  have hbind := T.bind qual doc pm an cda ct cc (.ref e) v
  rw [hB, hArgs] at lf hbind
  have neC : e ≠ C := fun z => by
    rw [z, lC] at hne
    cases hne
  refine ks_codeAny_call_defAt (binds := [("self", .ref e), (fld, v)]) hroom (X _ _ lf) rfl hlim (codeRec_of X lc) rfl (BindsTo.of_eq hbind) T.noCell ?_ (fun h1 hns keep => ?_) T.co T.gen T.knd
  · intro y hy
    rcases List.mem_cons.mp hy with z | hy
    · rw [z]; exact T.k0
    · rcases List.mem_cons.mp hy with z | hy
      · rw [z]; exact T.kF
      · cases hy
  have hint : ∀ env : Env, env.scope = L2.defScope st → interactive env = false := fun env z => by
    unfold interactive
    rw [z, T.knd]
    rfl
  have X1 : K.In h1 := X.keeps keep
  have he1 := keep _ _ he
  have m0 : ([("self", Value.ref e), (fld, v)] : List (Str × Value)).reverse.lookup ("self" : Str) = some (.ref e) := by
    show List.lookup ("self" : Str) [(fld, v), (("self" : Str), Value.ref e)] = some (.ref e)
    rw [List.lookup_cons, T.nF]
    rfl
  have mF : ([("self", Value.ref e), (fld, v)] : List (Str × Value)).reverse.lookup fld = some v := by
    show List.lookup fld [(fld, v), (("self" : Str), Value.ref e)] = some v
    rw [List.lookup_cons, beq_self_eq_true]
  obtain ⟨oD, hD1, hD2⟩ : ∃ oD : Obj, h1.get? C = some oD ∧ oD.data = .cls { name := nm, bases := bs, mro := .ref C :: bm, ns := N, qualname := qn, hasDict := true, slotNames := sn, subclasses := sub, abstract := ab, collection := col, hasDel := false } := ⟨_, X1 _ _ lC, rfl⟩
  refine ks_wpAt_execs_cons (ks_wpAt_Expr_any (hi := hint _ rfl) (ks_wpAt_MethodCall (he := hcallE _) (ks_wpAt_super_base T.kS T.kK (by decide) rfl (X1 _ _ lf) rfl rfl rfl (X1 _ _ lda) rfl lvs lfile T.main ?_)))
  refine ks_loadName_global T.knd T.kS (Calls.loadGlobal_builtin (hg.keeps keep) T.sup (hb.keeps keep) ((hbb _ (by decide +kernel)).trans (show bootBuiltins "super" = some (.type "super") by kernel_rfl)) ⟨rfl, ?_⟩)
  refine wpAny_loadName_free T.knd T.kK rfl ⟨_, X1 _ _ lcc, rfl⟩ ?_
  refine wpAny_loadName_local T.knd T.k0 hns m0 ?_
  refine ks_wpAny_isType_cls hD1 hD2 ⟨rfl, ?_⟩
  refine ks_wpAny_call_super hD1 hD2 he1 rfl (fun c z => by cases z) (looks_mroIn X1 T.own) (fun h2 hso k2 => ?_)
  have X2 : K.In h2 := X1.keeps k2
  have he2 := k2 _ _ he1
  have hup : alongIn K "__init__" (List.drop 1 (List.dropWhile (fun (z : Value) => z != Value.ref C) (.ref C :: bm))) = some (some (.builtin "ValueError.__init__")) := by
    have z := T.up
    unfold ks_superIn at z
    rw [hcl] at z
    exact z
  have I2 : InstAt h2 e (excO C t0) C none := ⟨he2, rfl, rfl, trivial⟩
  refine kxs_getMethod kxs_ValueError hso (looks_opaque X2 T.any) (l₀ := .ref C :: bm) (fun A Q E s k q => wpAny_bind ((looks_clsIn X2 hcl) A _ E s k (wpAny_pure q))) rfl X2 hup (I2.type.andThen (looks_subIn X2 T.ve)) neC (by decide) ?_
  have k3 : ∀ b o, h2.get? b = some o → (h2.push (kxs_mw "ValueError.__init__" e)).get? b = some o := fun b o z => Heap.get?_push_of_some _ z
  have k13 : ∀ b o, h1.get? b = some o → (h2.push (kxs_mw "ValueError.__init__" e)).get? b = some o := fun b o z => k3 _ _ (k2 _ _ z)
  have hn3 := hns.keeps k13
  refine call_bound1 (i := "ValueError.__init__") (b := e) (T.plain _) ?_
  refine hA _ _ _ _ _ _ hn3 mF T.knd T.kF fun z t tk => ⟨Heap.get?_push_at rfl rfl, ?_⟩
  refine base_init (X2.keeps k3 _ _ lC) (k3 _ _ he2) (Heap.get?_push_at rfl rfl) (by rw [sizeLine_eq]; exact Nat.le_of_ble_eq_true rfl) fun h4 t1 k4 he4 => ?_
  have X4 : K.In h4 := fun b o z => k4 _ _ (fun y => by rw [y, hne] at z; cases z) (X2.keeps k3 b o z)
  have hLe : hp.objs.size ≠ e := Nat.ne_of_gt (Heap.lt_size he)
  have hn4 : h4.Ns hp.objs.size (fun y => List.lookup y ([(("self" : Str), Value.ref e), (fld, v)] : List (Str × Value)).reverse) := by
    obtain ⟨oL, es, ep, hL, r⟩ := hn3
    exact ⟨oL, es, ep, k4 _ _ hLe hL, r⟩
  -- self.F = F
  refine wpAt_of_wpAny (wpAny_execs_cons (plainObj_wpAny_Assign_Attribute ?_))
  refine ESX.ldL hn4 mF (ESX.ldL hn4 m0 ?_ T.knd T.k0) T.knd T.kF T.nD
  refine set_plain X4 (ox := excO C t1) (od := none) ⟨he4, rfl, rfl, trivial⟩ T.sa ?_
  refine exc_osa X4 he4 hcl (show refsVE (.ref C :: bm) = true from hbm) rfl T.noF (fun h5 tk5 dx k5' dn dne he5 hn5 => ?_)
  have z : hp.objs.size ≤ dx := Nat.le_trans (Nat.le_of_lt (Nat.lt_of_lt_of_le hn4.lt (Nat.le_refl _))) dn
  exact wpAny_execs_nil (hq h5 tk5 dx t1 ⟨fun b o hbe y => k5' b o hbe (k4 b o hbe (k3 b o (k2 b o (keep b o y)))), he5, z, dne, hn5⟩)
/-- a made error -/
structure Made (h h' : Heap) (e C d : Addr) (fld : Str) (v : Value) : Prop where
  keep : ∀ b o, h.get? b = some o → h'.get? b = some o
  new : h.objs.size ≤ e
  obj : ∃ oe vs, h'.get? e = some oe ∧ oe.cls = .ref C ∧ oe.dict = some d ∧ oe.data = .fields vs ∧ vs[1]? = some .none
  dbig : h.objs.size ≤ d
  dne : d ≠ e
  ns : h'.Ns1 d (fun y => if y = fld then some v else none)
theorem err_made {R : Result → Shared → Prop} {K : Frag} {mg mb : Str → Option Value} {x fld : Str} {C fI : Addr} {ae : PySem.Expr} {st : Stmt} {v : Value} (T : ErrTxt prog K mg x fld C fI ae st) (hA : ArgOk prog w ae fld v)
    (X : K.In hp) (hlim : hp.NoLimit) (hg : hp.Ns mainGlobals mg) (hb : hp.Ns builtinsNs mb) (hbb : ∀ y : Str, y ≠ "__name__" → mb y = bootBuiltins y) (hroom : A.depth + 1 < recursionLimit)
    (hq : ∀ h' tk e dx, Made hp h' e C dx fld v → R (.ok (.ret (.ref e))) ⟨h', g, d, tk, os⟩) : codeAny (model prog w) A (.call (.ref C) ⟨[v], []⟩) R ⟨hp, g, d, tk, os⟩ := by
  obtain ⟨nm, qn, N, bs, bm, sn, sub, ab, col, dd, k0, k1, k2, k3, k5, lC, hbm⟩ := T.cls
  have k : ∀ b o, hp.get? b = some o → ((hp.push (kdv_tup [v])).push (excO C hp.objs.size)).get? b = some o := fun b o z => Heap.get?_push_of_some _ (Heap.get?_push_of_some _ z)
  have hget : ((hp.push (kdv_tup [v])).push (excO C hp.objs.size)).get? (hp.objs.size + 1) = some (excO C hp.objs.size) := by heap_get
  have hnx : K.lookup (hp.objs.size + 1) = none := by
    cases z : K.lookup (hp.objs.size + 1) with
    | none => rfl
    | some o => exact absurd (Nat.lt_of_succ_lt (Heap.lt_size (X _ _ z))) (Nat.lt_irrefl _)
  refine call_own F.excBase_ValueError (fun X => refsVE_contains X bm hbm) (X _ _ lC) (looks_findIn X T.iC) (fun self => bind_fn X self T.tC) (by rw [sizeLine_eq]; exact Nat.le_of_ble_eq_true rfl) ?_
  refine err_init T hA (X.keeps k) (hlim.keeps k) (hg.keeps k) (hb.keeps k) hbb hget hnx ?_ fun h' tk' dx t1 M => ?_
  · show A.depth + 1 < recursionLimit
    exact hroom
  · have old : ∀ b o, hp.get? b = some o → h'.get? b = some o := fun b o z => M.keep b o (Nat.ne_of_lt (Nat.lt_succ_of_lt (Heap.lt_size z))) (k b o z)
    have z : hp.objs.size + 1 + 1 ≤ dx := by
      have q := M.dbig
      rw [Heap.size_push, Heap.size_push] at q
      exact q
    exact ⟨rfl, hq h' tk' (hp.objs.size + 1) dx ⟨old, Nat.le_succ _, ⟨_, _, M.obj, rfl, rfl, rfl, rfl⟩, Nat.le_trans (Nat.le_trans (Nat.le_succ _) (Nat.le_succ _)) z, M.dne, M.ns⟩⟩
end
end ErrX
namespace L2
open PySem PySem.Spec PyProof.Rows ErrX
theorem relO_fld {v : V} {v' : Value} (fld : Str) (r : RelV v v') (f : Str) : RelO (List.lookup f [(fld, v)]) (if f = fld then some v' else none) := by
  by_cases hw : f = fld
  · subst hw
    rw [if_pos rfl]
    have q : List.lookup f [(f, v)] = some v := by simp [List.lookup]
    rw [q]
    exact r
  · rw [if_neg hw]
    have qw : (f == fld) = false := by simpa using hw
    have q2 : List.lookup f [(fld, v)] = none := by simp [List.lookup, qw]
    rw [q2]
    trivial
section
variable {X : Cx} {C fI : Addr} {x fld : Str} {ae : PySem.Expr} {st : Stmt}
/-- Bad(e) -/
def tMkErr (C : Addr) (fld : Str) (ok : V → Prop) (ta : TA) : L2.St → Hp → XK → Prop := fun σ H Q => ta σ H fun vs H1 => ∃ v, vs = [v] ∧ ok v ∧ ∀ d, H1 d = none → Q (.ref C) (some d) (upd H1 d (.xd [(fld, v)]))
theorem pmk_err {ok : V → Prop} {a : PySem.Expr} {ta : TA} {p pos : Pos} {k : Nat} (T : ErrTxt X.prog X.K X.mg x fld C fI ae st) (hA : ∀ v u, ok v → RelV v u → ArgOk X.prog X.w ae fld u) (hr : Room k X.A) (ha : PA X [a] ta) (hg : Gl X x) (hdb : (x == ("__debug__" : Str)) = false)
    (he : starEach (a :: []) X.env = (false, eval a X.env) :: starEach [] X.env) (hpl : (backTo pos (starEach [] X.env)).any (·.1) = false) :
    PMk X (.Call (.Name x p) [a] [] pos) (tMkErr C fld ok ta) := by
  intro pins s σ H Q I h
  refine wpAny_Call_Name_kw (ld_glob I hg T.gC ?_ hdb)
  refine PySem.W.callWith_K (h₀ := X.base) I.ok.mod.kin T.kC (thn (ha.run pos pins s σ H _ I h) fun us s1 hh => ?_) he hpl
  obtain ⟨vs, H1, I1, r1, v, ev, okv, q1⟩ := hh
  subst ev
  refine ⟨I1.kIn, ?_⟩
  cases r1 with
  | cons rv rn =>
    rename_i v' us'
    cases rn
    show wpAny _ _ (call (.ref C) [v']) _ _ _
    have hlim := I1.nolimit
    obtain ⟨mb, hb1, hb2⟩ := I1.mod.blt
    have hgN := I1.mod.glob.keeps I1.bk
    have hbN := hb1.keeps I1.bk
    obtain ⟨hp, g, dr, tk, os⟩ := s1
    refine wpAny_call (err_made T (hA v v' okv rv) I1.kIn hlim hgN hbN hb2 (by have := hr.dp; omega) fun h' tk' e d M => ?_)
    show MkP X pins σ Q (.ref e) ⟨h', g, dr, tk', os⟩
    obtain ⟨oe, fv, hoe, hc, hd, hdat, h1⟩ := M.obj
    have hns := M.ns
    obtain ⟨G', g1, g2⟩ := restrict h' fun b => decide (b ≠ e)
    have gk : ∀ b, b ≠ e → G'.get? b = h'.get? b := fun b hb => g1 b (decide_eq_true hb)
    have ge : G'.get? e = none := g2 e (by simp)
    have old : ∀ b o, hp.get? b = some o → G'.get? b = some o := fun b o q => (gk b (Nat.ne_of_lt (Nat.lt_of_lt_of_le (Heap.lt_size q) M.new))).trans (M.keep b o q)
    have ob : ObjOk X.prog X.w (upd H1 d (.xd [(fld, v)])) G' d (.xd [(fld, v)]) := ⟨_, hns.at (fun o q => (gk d M.dne).trans q), fun f => relO_fld fld rv f⟩
    have J : Inv X pins σ (upd H1 d (.xd [(fld, v)])) ⟨G', g, dr, tk', os⟩ := I1.laid (t' := tk') old M.dbig ob
    refine ⟨e, oe, fv, ⟨G', g, dr, tk', os⟩, _, .ref C, some d, rfl, J, fun b o q => ?_, ge, hoe, ⟨hc, hd⟩, hdat, h1, ?_, rfl, I1.bare, raises_own T.exC T.tyC, q1 d (I1.hok.fresh M.dbig)⟩
    · by_cases hb : b = e
      · have q' : G'.get? b = some o := q
        rw [hb, ge] at q'
        cases q'
      · exact (gk b hb).symm.trans q
    · rw [upd_ne (Ne.symm M.dne)]
      exact I1.hok.fresh M.new
/-- raise Bad(e) -/
def tRaiseF (C : Addr) (fld : Str) (ok : V → Prop) (W : WX) (ta : TA) : TS := fun _ σ H => tMkErr C fld ok ta σ H fun cls d H' => W cls d σ H'
theorem ps_raiseF {ok : V → Prop} {a : PySem.Expr} {ta : TA} {W : WX} {p pos pos2 : Pos} {k : Nat} (T : ErrTxt X.prog X.K X.mg x fld C fI ae st) (hA : ∀ v u, ok v → RelV v u → ArgOk X.prog X.w ae fld u) (hc : X.calm = true) (hr : Room k X.A) (tk : Takes X W) (ha : PA X [a] ta) (hg : Gl X x := by rfl)
    (hdb : (x == ("__debug__" : Str)) = false := by decide) (he : starEach (a :: []) X.env = (false, eval a X.env) :: starEach [] X.env := by rfl) (hpl : (backTo pos (starEach [] X.env)).any (·.1) = false := by rfl) :
    PS X (.Raise (some (.Call (.Name x p) [a] [] pos)) none pos2) (tRaiseF C fld ok W ta) := ps_raise hc tk (pmk_err T hA hr ha hg hdb he hpl)
/-- e.F, e the error that the suite holds (at a; its class cls, its dict d) -/
def tErrF (C : Addr) (fld : Str) (a : Addr) (cls : Value) (d : Option Addr) (te : TE) : TE := fun σ H Q => te σ H fun y H1 => y = .ref a ∧ cls = .ref C ∧ ∃ (dd : Addr) (v : V), d = some dd ∧ H1 dd = some (.xd [(fld, v)]) ∧ Q v H1
theorem pe_errF {P : Program} {a : Addr} {oe : Obj} {cls : Value} {d : Option Addr} {pn : List (Addr × Obj)} {e : PySem.Expr} {te : TE} {pos : Pos} (T : ErrTxt P X.K X.mg x fld C fI ae st) (hz : Zc cls d oe) (hf : ∃ vs, oe.data = .fields vs) (he : PE (X.suite a ((a, oe) :: pn)) e te)
    (hb : attributeBase e fld X.env (eval e X.env) = eval e X.env := by rfl) : PE (X.suite a ((a, oe) :: pn)) (.Attribute e fld pos) (tErrF C fld a cls d te) := by
  refine ⟨fun pins s σ H Q I h => ?_⟩
  refine attr_of hb (thn (he.run pins s σ H _ I h) fun u s1 hh => ?_)
  obtain ⟨y, H1, I1, rx, ex, ec, dd, v, ed, ea, q⟩ := hh
  subst ex
  obtain rfl : u = Value.ref a := rx
  subst ec
  subst ed
  obtain ⟨ha, _⟩ := I1.pin (a, oe) (List.mem_append_left _ List.mem_cons_self)
  obtain ⟨vs, hd⟩ := hf
  have hx : ObjOk X.prog X.w H1 s1.heap dd (.xd [(fld, v)]) := I1.hok dd _ ea
  obtain ⟨mA, hns, hr⟩ := hx
  obtain ⟨od, ho, hl⟩ := lookIn_ns hns
  have l : List.lookup fld [(fld, v)] = some v := by simp [List.lookup]
  obtain ⟨u, hu, ru⟩ := RelO.some_of (v := v) (o := mA fld) (by rw [← l]; exact hr fld)
  have J : PySem.W.InstAt s1.heap a oe C (some od) := ⟨ha, hz.1, by unfold PySem.W.notCls; rw [hd] <;> rfl, by rw [hz.2]; exact ho⟩
  exact HandSPX.exc_get I1.kIn J T.ga T.gg T.exC (PySem.W.findObj_own T.hdC T.noF rfl (by rw [hl, hu])) (handed_of ru) ⟨v, H1, I1.tok _, ru, q⟩
end
end L2
namespace Rt
open PySem L2 PySem.Spec PyProof.Rows

set_option genInjectivity false in
set_option genSizeOf false in
set_option genSizeOfSpec false in
set_option genCtorIdx false in
structure Tx (P : Program) (K : PySem.W.Frag) (mg : Str → Option Value) : Type where
  C_TrickError : Addr
  g_TrickError : mg "TrickError" = some (.ref C_TrickError)
  x_TrickError : PySem.W.excIn K C_TrickError [.type "ValueError", .type "Exception", .type "BaseException", .type "object"] "ValueError.__new__" = true
  k_TrickError : PySem.W.keepIn K (.ref C_TrickError) = true
  s_TrickError : PySem.W.subIn K (.ref C_TrickError) (.type "BaseException") = some true
  t_TrickError : PySem.W.typeIn K (.ref C_TrickError) = some (.type "type")
  C_BadPairs : Addr
  g_BadPairs : mg "BadPairs" = some (.ref C_BadPairs)
  k_BadPairs : PySem.W.keepIn K (.ref C_BadPairs) = true
  s_BadPairs : PySem.W.subIn K (.ref C_BadPairs) (.type "BaseException") = some true
  t_BadPairs : PySem.W.typeIn K (.ref C_BadPairs) = some (.type "type")
  t_c_GREATEST_NUMBER : Tok
  c_GREATEST_NUMBER : mg "GREATEST_NUMBER" = some (.int 10000000000000000000000000000000000000000 t_c_GREATEST_NUMBER)
  t_c_LEAST_BASE : Tok
  c_LEAST_BASE : mg "LEAST_BASE" = some (.int 2 t_c_LEAST_BASE)
  t_c_GREATEST_BASE : Tok
  c_GREATEST_BASE : mg "GREATEST_BASE" = some (.int 16 t_c_GREATEST_BASE)
  t_c_GREATEST_TAKE : Tok
  c_GREATEST_TAKE : mg "GREATEST_TAKE" = some (.int 2 t_c_GREATEST_TAKE)
  t_c_GREATEST_TIMES : Tok
  c_GREATEST_TIMES : mg "GREATEST_TIMES" = some (.int 100 t_c_GREATEST_TIMES)
  t_c_MOST_PAIRS : Tok
  c_MOST_PAIRS : mg "MOST_PAIRS" = some (.int 10 t_c_MOST_PAIRS)
  a_is_integer : Addr
  d_is_integer : FuncData
  F_is_integer : Fun K "is_integer" "is_integer" s_is_integer a_is_integer d_is_integer
  b_is_integer : Binds K d_is_integer ["told", "low", "high"] []
  g_is_integer : mg "is_integer" = some (.ref a_is_integer)
  a_is_list_or_tuple : Addr
  d_is_list_or_tuple : FuncData
  F_is_list_or_tuple : Fun K "is_list_or_tuple" "is_list_or_tuple" s_is_list_or_tuple a_is_list_or_tuple d_is_list_or_tuple
  b_is_list_or_tuple : Binds K d_is_list_or_tuple ["told", "fewest", "most"] []
  g_is_list_or_tuple : mg "is_list_or_tuple" = some (.ref a_is_list_or_tuple)
  a_is_number : Addr
  d_is_number : FuncData
  F_is_number : Fun K "is_number" "is_number" s_is_number a_is_number d_is_number
  b_is_number : Binds K d_is_number ["told"] []
  g_is_number : mg "is_number" = some (.ref a_is_number)
  a_block_of : Addr
  d_block_of : FuncData
  F_block_of : Fun K "block_of" "block_of" s_block_of a_block_of d_block_of
  b_block_of : Binds K d_block_of ["base", "take"] []
  g_block_of : mg "block_of" = some (.ref a_block_of)
  a_made_with : Addr
  d_made_with : FuncData
  F_made_with : Fun K "made_with" "made_with" s_made_with a_made_with d_made_with
  b_made_with : Binds K d_made_with ["block", "times", "n"] []
  g_made_with : mg "made_with" = some (.ref a_made_with)
  a_fitting : Addr
  d_fitting : FuncData
  F_fitting : Fun K "fitting" "fitting" s_fitting a_fitting d_fitting
  b_fitting : Binds K d_fitting ["pairs"] []
  g_fitting : mg "fitting" = some (.ref a_fitting)
  a_check_pairs : Addr
  d_check_pairs : FuncData
  F_check_pairs : Fun K "check_pairs" "check_pairs" s_check_pairs a_check_pairs d_check_pairs
  b_check_pairs : Binds K d_check_pairs ["pairs"] []
  g_check_pairs : mg "check_pairs" = some (.ref a_check_pairs)
  a_is_pair : Addr
  d_is_pair : FuncData
  F_is_pair : Fun K "is_pair" "is_pair" s_is_pair a_is_pair d_is_pair
  b_is_pair : Binds K d_is_pair ["told"] []
  g_is_pair : mg "is_pair" = some (.ref a_is_pair)
  a_fitting_times : Addr
  d_fitting_times : FuncData
  F_fitting_times : Fun K "fitting_times" "fitting_times" s_fitting_times a_fitting_times d_fitting_times
  b_fitting_times : Binds K d_fitting_times ["block", "pairs"] []
  g_fitting_times : mg "fitting_times" = some (.ref a_fitting_times)
  a__law_taken : Addr
  d__law_taken : FuncData
  F__law_taken : Fun K "_law_taken" "_law_taken" s__law_taken a__law_taken d__law_taken
  b__law_taken : Binds K d__law_taken ["_law_row", "_law_many"] []
  g__law_taken : mg "_law_taken" = some (.ref a__law_taken)
  a__law_power : Addr
  d__law_power : FuncData
  F__law_power : Fun K "_law_power" "_law_power" s__law_power a__law_power d__law_power
  b__law_power : Binds K d__law_power ["_law_base", "_law_many"] []
  g__law_power : mg "_law_power" = some (.ref a__law_power)
  a__law_trick : Addr
  d__law_trick : FuncData
  F__law_trick : Fun K "_law_trick" "_law_trick" s__law_trick a__law_trick d__law_trick
  b__law_trick : Binds K d__law_trick ["_law_row", "_law_small"] []
  g__law_trick : mg "_law_trick" = some (.ref a__law_trick)
  a__law_behind : Addr
  d__law_behind : FuncData
  F__law_behind : Fun K "_law_behind" "_law_behind" s__law_behind a__law_behind d__law_behind
  b__law_behind : Binds K d__law_behind ["_law_told", "_law_n"] []
  g__law_behind : mg "_law_behind" = some (.ref a__law_behind)
  a__law_number : Addr
  d__law_number : FuncData
  F__law_number : Fun K "_law_number" "_law_number" s__law_number a__law_number d__law_number
  b__law_number : Binds K d__law_number ["_law_row"] []
  g__law_number : mg "_law_number" = some (.ref a__law_number)
  a_law : Addr
  d_law : FuncData
  F_law : Fun K "law" "law" s_law a_law d_law
  b_law : Binds K d_law ["_law_script"] []
  g_law : mg "law" = some (.ref a_law)
  n_int : mg "int" = none
  n_bool : mg "bool" = none
  n_len : mg "len" = none
  n_range : mg "range" = none
  n_isinstance : mg "isinstance" = none
  n_tuple : mg "tuple" = none
  n_list : mg "list" = none
  n_sorted : mg "sorted" = none
  n_enumerate : mg "enumerate" = none
  n_abs : mg "abs" = none
  n_set : mg "set" = none
  n_all : mg "all" = none
  n_super : mg "super" = none
  n_ValueError : mg "ValueError" = none
  a_BadPairs___init__ : Addr
  x_BadPairs : ErrX.ErrTxt P K mg "BadPairs" "index" C_BadPairs a_BadPairs___init__ (ErrX.aeOf s_BadPairs___init__) s_BadPairs___init__
/-! ### the program's own classes (no errors) -/
def OwnT {P : Program} {K : PySem.W.Frag} {mg : Str → Option Value} (T : Tx P K mg) (C : Addr) : Prop := False
theorem OwnT.ty {P : Program} {K : PySem.W.Frag} {mg : Str → Option Value} {T : Tx P K mg} {C : Addr} (t : OwnT T C) {H : Hp} {a dx : Addr} {fs : List (Str × V)} (e : H a = some (.ins C dx fs)) : TyOf K H (.ref a) (.ref C) := t.elim
theorem OwnT.nint {P : Program} {K : PySem.W.Frag} {mg : Str → Option Value} {T : Tx P K mg} {C : Addr} (t : OwnT T C) : PySem.W.kitOne K (.ref C) (.type "int") = some false := t.elim
theorem OwnT.nbool {P : Program} {K : PySem.W.Frag} {mg : Str → Option Value} {T : Tx P K mg} {C : Addr} (t : OwnT T C) : PySem.W.kitOne K (.ref C) (.type "bool") = some false := t.elim
theorem OwnT.ntuple {P : Program} {K : PySem.W.Frag} {mg : Str → Option Value} {T : Tx P K mg} {C : Addr} (t : OwnT T C) : PySem.W.kitOne K (.ref C) (.type "tuple") = some false := t.elim
theorem OwnT.nlist {P : Program} {K : PySem.W.Frag} {mg : Str → Option Value} {T : Tx P K mg} {C : Addr} (t : OwnT T C) : PySem.W.kitOne K (.ref C) (.type "list") = some false := t.elim
theorem ar_BadPairs {P : Program} {w : World} : ∀ (v : V) (u : Value), ErrX.NoneInt v → RelV v u → ErrX.ArgOk P w (ErrX.aeOf s_BadPairs___init__) "index" u := fun _ _ n r => ErrX.argOk_f n r
section
variable {P : Program} {w : World} {K : PySem.W.Frag} {mg : Str → Option Value} {base : Heap}
/-! ### heaps -/
/-- all but what stands at r is as it was -/
def But (r : Addr) (H H' : Hp) : Prop := ∀ b o, H b = some o → b ≠ r → H' b = some o
theorem But.refl (r : Addr) (H : Hp) : But r H H := fun _ _ e _ => e
theorem But.trans {r : Addr} {H H1 H2 : Hp} (a : But r H H1) (b : But r H1 H2) : But r H H2 := fun c o e n => b c o (a c o e n) n
theorem Same.but {r : Addr} {H H' : Hp} (a : Same H H') : But r H H' := fun c o e _ => a c o e
theorem But.put {r : Addr} {H : Hp} {o : HO} : But r H (upd H r o) := fun b _ e n => by rw [upd_ne n]; exact e
theorem But.seq {K : PySem.W.Frag} {r a : Addr} {H H' : Hp} {xs : List V} (e : But r H H') (n : a ≠ r) (h : SqL K H a xs) : SqL K H' a xs := by
  rcases h with (h | ⟨o, h⟩) | h
  · exact .inl (.inl (e _ _ h n))
  · exact .inl (.inr ⟨o, e _ _ h n⟩)
  · exact .inr h
theorem same_upd {H : Hp} {p : Addr} {o : HO} (h : H p = none) : Same H (upd H p o) := fun b x e => by
  rw [upd_ne (ne_of_none e h)]
  exact e
/-- any value of the document's point 1 -/
inductive AnyV (T : Addr → Prop) (H : Hp) : V → Prop where
  | non : AnyV T H .non
  | bl (b : Bool) : AnyV T H (.bl b)
  | int (i : Int) : AnyV T H (.int i)
  | str (x : Str) : AnyV T H (.str x)
  | lst {a : Addr} {xs : List V} (e : H a = some (.lst xs)) : AnyV T H (.ref a)
  | tup {a : Addr} {xs : List V} (e : H a = some (.tup xs)) : AnyV T H (.ref a)
  | dct {a : Addr} {kvs : List (Key × V)} (e : H a = some (.dK kvs)) : AnyV T H (.ref a)
  | ins {a C dx : Addr} {fs : List (Str × V)} (t : T C) (e : H a = some (.ins C dx fs)) : AnyV T H (.ref a)
/-- it is an integer from lo to hi -/
def intIn (x : V) (lo hi : Int) : Bool := match x with | .int i => decide (lo ≤ i) && decide (i ≤ hi) | _ => false
theorem intIn_of {i lo hi : Int} (h1 : lo ≤ i) (h2 : i ≤ hi) : intIn (.int i) lo hi = true := by
  show (decide (lo ≤ i) && decide (i ≤ hi)) = true
  rw [decide_eq_true h1, decide_eq_true h2]
  all_goals rfl
theorem small5 {n : Nat} (h : n ≤ 100000) : n < sizeLine := Nat.lt_of_le_of_lt h (by decide)
theorem dec_i (i j : Int) : decide (V.int i = V.int j) = decide (i = j) := by
  rw [Bool.eq_iff_iff]
  simp
theorem AnyV.mono {T : Addr → Prop} {H H' : Hp} {v : V} (a : AnyV T H v) (s : Same H H') : AnyV T H' v := by
  cases a with
  | non => exact .non
  | bl b => exact .bl b
  | int i => exact .int i
  | str x => exact .str x
  | lst e => exact .lst (s _ _ e)
  | tup e => exact .tup (s _ _ e)
  | dct e => exact .dct (s _ _ e)
  | ins t e => exact .ins t (s _ _ e)
theorem intIn_int' {x : V} {lo hi : Int} (h : intIn x lo hi = true) : ∃ i, x = .int i ∧ lo ≤ i ∧ i ≤ hi := by
  cases x with
  | int i =>
    have h2 : (decide (lo ≤ i) && decide (i ≤ hi)) = true := h
    rw [Bool.and_eq_true, decide_eq_true_iff, decide_eq_true_iff] at h2
    exact ⟨i, rfl, h2⟩
  | _ => cases h

/-! ### lists of ints -/
theorem dpAll_ints {H : Hp} : ∀ ns : List Int, DpAll K H (ns.map V.int) (ns.map PyData.int)
  | [] => .nil
  | n :: ns => .cons (.int n) (dpAll_ints ns)
theorem dp_ints {H : Hp} {a : Addr} {ns : List Int} (h : SqL K H a (ns.map V.int)) : Dp K H (.ref a) (.list (ns.map PyData.int)) := .lst h (dpAll_ints ns)
theorem dp_tints {H : Hp} {a : Addr} {ns : List Int} (h : SqT K H a (ns.map V.int)) : Dp K H (.ref a) (.tuple (ns.map PyData.int)) := .tup h (dpAll_ints ns)
theorem eqvAll_ints : ∀ ns ms : List Int, PyData.eqvAll (ns.map PyData.int) (ms.map PyData.int) = decide (ns = ms)
  | [], [] => rfl
  | [], _ :: _ => rfl
  | _ :: _, [] => rfl
  | n :: ns, m :: ms => by
    show (PyData.eqv (.int n) (.int m) && PyData.eqvAll (ns.map PyData.int) (ms.map PyData.int)) = _
    rw [eqvAll_ints ns ms]
    show ((n == m) && decide (ns = ms)) = _
    by_cases h1 : n = m
    · by_cases h2 : ns = ms
      · simp [h1, h2]
      · simp [h1, h2]
    · simp [h1]
theorem eqv_ints (ns ms : List Int) : PyData.eqv (.list (ns.map PyData.int)) (.list (ms.map PyData.int)) = decide (ns = ms) := eqvAll_ints ns ms
theorem eqv_tints (ns ms : List Int) : PyData.eqv (.tuple (ns.map PyData.int)) (.tuple (ms.map PyData.int)) = decide (ns = ms) := eqvAll_ints ns ms
theorem shaped_lints (ns : List Int) : SeqAt.shaped (.list (ns.map PyData.int)) = true := PySem.W.shaped_ints ns
/-- an item of a written list at a drawn place -/
theorem at_some (Pr : Int → Prop) {ns : List Int} (h : ∀ z ∈ ns, Pr z) {i : Int} (h0 : 0 ≤ i) (h1 : i < ns.length) : ∃ z, Pr z ∧ atI (ns.map V.int) i = some (V.int z) := by
  obtain ⟨z, hz⟩ : ∃ z, ns[i.toNat]? = some z := ⟨ns[i.toNat]'(by omega), List.getElem?_eq_getElem (by omega)⟩
  refine ⟨z, h z (List.mem_of_getElem? hz), at_of (j := i.toNat) (by omega) (by rw [List.getElem?_map, hz]; rfl)⟩
theorem sorted_ext {l m : List Int} (p : l.Perm m) (h1 : l.Pairwise (· ≤ ·)) (h2 : m.Pairwise (· ≤ ·)) : l = m :=
  p.eq_of_pairwise (fun a b _ _ x y => Int.le_antisymm x y) h1 h2
/-- reading an item within a comprehension: the written part said aloud -/
theorem ix_lK {X : Cx} (h : X.K = K) : IxR X (rIxL K) := by
  subst h
  exact ix_list
/-- the same of a tuple -/
theorem ix_tK {X : Cx} (h : X.K = K) : IxR X (rIxT K) := by
  subst h
  exact ix_tup
/-- name op= e, by the operation in place -/
theorem ip_op {X : Cx} {op : Operator} {r : R2} (ho : OpR X (inplaceOp op) r) : PIp X op r := fun pins s σ H x y v u Q I r1 r2 h => ho pins s σ H x y v u Q I r1 r2 h

/-! ### what is shallow enough to be compared -/
theorem lays_map {α : Type} (f : α → PyData) (k : Nat) (h : ∀ x, PyData.canLay0 (f x) = true ∧ PyData.depth (f x) ≤ k) : ∀ l : List α, PyData.canLayAll0 (l.map f) = true ∧ PyData.depthAll (l.map f) ≤ k
  | [] => ⟨by simp [PyData.canLayAll0], by simp [PyData.depthAll]⟩
  | x :: l => by
    have h1 := lays_map f k h l
    have h2 := h x
    refine ⟨by simp [PyData.canLayAll0, h1.1, h2.1], ?_⟩
    simp only [List.map_cons, PyData.depthAll]
    omega
theorem shaped_of {ds : List PyData} {k : Nat} (h : PyData.canLayAll0 ds = true ∧ PyData.depthAll ds ≤ k) (hk : k ≤ 60) : SeqAt.shaped (.list ds) = true ∧ SeqAt.shaped (.tuple ds) = true := by
  have e1 : PyData.depth (.list ds) ≤ 64 := by simp only [PyData.depth]; omega
  have e2 : PyData.depth (.tuple ds) ≤ 64 := by simp only [PyData.depth]; omega
  refine ⟨?_, ?_⟩
  · show (PyData.canLay0 (.list ds) && decide (PyData.depth (.list ds) ≤ 64)) = true
    rw [Bool.and_eq_true]
    exact ⟨by simp only [PyData.canLay0]; exact h.1, decide_eq_true e1⟩
  · show (PyData.canLay0 (.tuple ds) && decide (PyData.depth (.tuple ds) ≤ 64)) = true
    rw [Bool.and_eq_true]
    exact ⟨by simp only [PyData.canLay0]; exact h.1, decide_eq_true e2⟩
theorem lay_int (i : Int) : PyData.canLay0 (.int i) = true ∧ PyData.depth (.int i) ≤ 1 := ⟨by simp [PyData.canLay0], by simp [PyData.depth]⟩
theorem shaped_tints (ns : List Int) : SeqAt.shaped (.tuple (ns.map PyData.int)) = true := (shaped_of (lays_map PyData.int 1 lay_int ns) (by decide)).2

end
end Rt
namespace L2
open PySem PySem.Spec PyProof.Rows
/-! ### two lists of one thing, the same -/
def rNe1 (K : PySem.W.Frag) : R2 := fun x y H Q => (∃ a b z, x = .ref a ∧ y = .ref b ∧ SqL K H a [.ref z] ∧ SqL K H b [.ref z] ∧ Q (.bl false) H) ∨ rNeD K x y H Q
theorem op_ne1 {X : Cx} (hu : X.A.units + 64 < cLine) : OpR X (compareOp .NotEq) (rNe1 X.K) := by
  intro pins s σ H x y v u Q I rx ry h
  rcases h with ⟨a, b, z, rfl, rfl, h1, h2, q⟩ | h
  · obtain ⟨its, rv, hl, _⟩ := I.list h1
    obtain ⟨its2, rv2, hl2, _⟩ := I.list h2
    cases (show v = Value.ref a from rx)
    cases (show u = Value.ref b from ry)
    cases rv with
    | cons r1 rr1 =>
      cases rr1
      cases rv2 with
      | cons r2 rr2 =>
        cases rr2
        cases r1
        cases r2
        refine SeqAt.RcNeAt.lists (e := fun _ => true) hl.isList hl2.isList rfl (by omega) (fun j j1 j2 => ?_) _ _ _ _ ⟨.bl false, H, I, rfl, q⟩
        have j0 : j = 0 := by
          have : j < 1 := j1
          omega
        subst j0
        exact SeqAt.EqAt.same _
  · exact op_neD hu pins s σ H x y v u Q I rx ry h
end L2
namespace Rt
open PySem L2 PySem.Spec PyProof.Rows
section
variable {P : Program} {w : World} {K : PySem.W.Frag} {mg : Str → Option Value} {base : Heap}

end
end Rt
namespace L2
open PySem PySem.Spec PyProof.Rows
section
variable {prog : Program} {w : World} {A : Around} {R : Result → Shared → Prop} {s : Shared} {elt t0 i0 t1 i1 : Expr} {ifs0 ifs1 : List Expr} {gens : List Comprehension} {scope : Scope} {pos : Pos} {it acc : Value} {env : Env} {k : Nat}
/-- what a clause's turn does when its tests hold: the clause behind it, or the item -/
def Goes (prog : Program) (w : World) (A : Around) (elt : Expr) (gens : List Comprehension) (scope : Scope) (pos : Pos) (k : Nat) (acc : Value) (env : Env) (Post : Shared → Prop) (Er : Value → Shared → Prop) (s : Shared) : Prop :=
  match gens[k + 1]? with
  | some g => wpAny (model prog w) A (eval g.iter env) (fun x s1 => wpAny (model prog w) A (pyIter x) (fun j s2 =>
      codeAny (model prog w) A (.compStart (.ListComp elt gens scope pos) (k + 1) j acc env) (fun r s' => match r with | .ok _ => Post s' | .error _ => False) s2) Er s1) Er s
  | none => wpAny (model prog w) A (eval elt env) (fun x s1 => wpAny (model prog w) A (call (.builtin "list.append") [acc, x]) (fun _ s2 => Post s2) Er s1) Er s
theorem loop_at (hk : gens[k]? = some ⟨t0, i0, ifs0, 0⟩) (hn : ∀ g, gens[k + 1]? = some g → g.is_async = 0 ∧ ∀ x, foldedSetIterable g.iter env x = pure x) (I : Nat → Shared → Prop)
    (turn : ∀ n s, I n s → wpAny (model prog w) A (pyNext it) (fun r s1 => match r with
      | none => R (.ok .next) s1
      | some v => wpAny (model prog w) A (letOwnedTupleGo t0 it v) (fun _ s1' => wpAny (model prog w) A (assign t0 env v) (fun _ s2 =>
          wpAny (model prog w) A (forIn ifs0 true fun c r => if r = true then do let ok ← isTrue c env (eval c env); pure (ForInStep.yield ok) else pure (ForInStep.yield r)) (fun ok s3 =>
            if ok = true then Goes prog w A elt gens scope pos k acc env (fun s' => ∃ m, m < n ∧ I m s') (notedBy (model prog w) A env fun e s' => R (.error e) s') s3 else ∃ m, m < n ∧ I m s3)
          (notedBy (model prog w) A env fun e s' => R (.error e) s') s2) (notedBy (model prog w) A env fun e s' => R (.error e) s') s1') (notedBy (model prog w) A env fun e s' => R (.error e) s') s1) (notedBy (model prog w) A env fun e s' => R (.error e) s') s)
    (n : Nat) (h : I n s) : codeAny (model prog w) A (.compLoop (.ListComp elt gens scope pos) k it acc env) R s := by
  refine codeAny_loop rfl I (fun n s hI => ?_) n h
  show wpAny _ A ((compTurn (.ListComp elt gens scope pos) k it acc env).onRaise (fun x => do noteFrame x env; theTreesLotGoes x)) _ _ s
  refine wpAny_noted ?_
  unfold compTurn
  simp only [hk]
  refine wpAny_bind (wpAny_standAt ?_)
  refine wpAny_bind (wpAny_mono (turn n s hI) (fun r s1 h1 => ?_) fun _ _ h' => h')
  cases r with
  | none => exact wpAny_pure h1
  | some v =>
    refine wpAny_bind (wpAny_mono h1 (fun _ s1' h1' => ?_) fun _ _ h' => h')
    refine wpAny_bind (wpAny_mono h1' (fun _ s2 h2 => wpAny_bind (wpAny_mono h2 (fun ok s3 h3 => ?_) fun _ _ h' => h')) fun _ _ h' => h')
    cases ok with
    | false => exact wpAny_pure ⟨rfl, h3⟩
    | true =>
      unfold Goes at h3
      simp only [if_true] at h3
      rw [if_pos rfl]
      cases hk1 : gens[k + 1]? with
      | none =>
        rw [hk1] at h3
        exact wpAny_bind (wpAny_bind (wpAny_mono h3 (fun x s4 h4 => wpAny_bind (wpAny_mono h4 (fun _ s5 h5 => wpAny_pure (wpAny_pure ⟨rfl, h5⟩)) fun _ _ h' => h')) fun _ _ h' => h'))
      | some g =>
        rw [hk1] at h3
        obtain ⟨ga, gs⟩ := hn g hk1
        have na : ¬ ((g.is_async != 0) = true) := by rw [ga]; decide
        refine wpAny_bind (wpAny_mono h3 (fun x s4 h4 => wpAny_bind (wpAny_standAt ?_)) fun _ _ h' => h')
        rw [if_neg na]
        refine wpAny_bind (wpAny_of_eq (gs x) ?_)
        rw [if_neg na]
        refine wpAny_bind (wpAny_holding (wpAny_mono h4 (fun j s5 h5 => ?_) fun _ _ h' => h'))
        refine wpAny_bind (wpAny_runOwn ?_)
        rw [Around.mark_none]
        refine codeAny_mono h5 fun r s' hr => ?_
        cases r with
        | ok f =>
          first
            | exact wpAny_pure ⟨rfl, hr⟩
            | exact wpAny_bind (wpAny_pure (wpAny_pure ⟨rfl, hr⟩))
        | error e => exact hr.elim
/-- a clause's start -/
theorem start_at {g : Comprehension} (hk : gens[k]? = some g) (hg : g.is_async = 0) (h0 : codeAny (model prog w) A (.compLoop (.ListComp elt gens scope pos) k it acc env) R s)
    (h : wpAny (model prog w) A (pyIter it) (fun j s' => codeAny (model prog w) A (.compLoop (.ListComp elt gens scope pos) k j acc env) R s') (notedBy (model prog w) A env fun x s' => R (.error x) s') s) :
    codeAny (model prog w) A (.compStart (.ListComp elt gens scope pos) k it acc env) R s := by
  refine codeAny_of_tree ?_
  show wpAny _ _ ((compStart (.ListComp elt gens scope pos) k it acc env).onRaise (fun x => do noteFrame x env; standAt theWindowsPlace)) _ _ s
  refine wpAny_notedAt ?_
  unfold compStart
  have e : (clausesOf (.ListComp elt gens scope pos))[k]? = some g := hk
  simp only [e]
  have na : ¬ ((some g).elim false (fun c => c.is_async != 0) = true) := by show ¬ ((g.is_async != 0) = true); rw [hg]; decide
  rw [if_neg na]
  refine wpAny_bind (wpAny_askSetting ?_)
  split
  · exact wpAny_pure ⟨rfl, h0⟩
  · exact wpAny_bind (wpAny_rule (wpAny_bind (wpAny_standAt (wpAny_bind (wpAny_mono h (fun j s' h' => wpAny_pure ⟨rfl, h'⟩) fun _ _ x => x)))))
end
/-! ### a clause, whatever stands behind it -/
def TB : Type := St → Hp → (Hp → Prop) → Prop
/-- the item, put into the list at D -/
def tPut (D : Addr) (te : TE) : TB := fun σ H Nx => te σ H fun y H1 => ∃ acc, H1 D = some (.lst acc) ∧ acc.length < sizeLine ∧ Nx (upd H1 D (.lst (acc ++ [y])))
/-- a loop of its own, from which Nx is reached; vs: what it forgets -/
def tCl (wi : TI) (g : TG) (tt : TT) (vs : List Nat) (body : TB) : TB := fun σ H Nx => wi σ H fun J H1 => ∃ W : Nat → Nat → Hp → Prop, (∃ m, W 0 m H1) ∧ ∀ i m H, W i m H →
  (J.stop i H ∧ Nx H) ∨ (J.go i H ∧ ∃ N1 : Hp → Prop, (∀ H', N1 H' → ∃ m', m' < m ∧ W (i + 1) m' H') ∧ ∀ x H', J.yld i H x H' → g x (wipe σ vs) H' fun σ2 H2 => wipe σ2 vs = wipe σ vs ∧ tt σ2 H2 fun b H3 => if b = true then body σ2 H3 N1 else N1 H3)
/-- the code behind a clause's tests runs by its reading; fs: what it may forget -/
structure Runs (B : Cx) (elt : Expr) (gens : List Comprehension) (scope : Scope) (pos : Pos) (k : Nat) (D : Addr) (fs : List Nat) (body : TB) : Prop where
  run : ∀ (pins : List (Addr × Obj)) (s : Shared) (σ : St) (H : Hp) (Nx : Hp → Prop) (Post : Shared → Prop) (Er : Value → Shared → Prop), Inv B pins σ H s → body σ H Nx →
    (∀ s' σ' H', Inv B pins σ' H' s' → σ'.length = σ.length → (∀ (j : Nat) v, (wipe σ fs)[j]? = some (some v) → σ'[j]? = some (some v)) → Nx H' → Post s') → Goes B.prog B.w B.A elt gens scope pos k (.ref D) B.env Post Er s
section
variable {B : Cx} {elt : Expr} {gens : List Comprehension} {scope : Scope} {pos : Pos} {k : Nat} {D : Addr} {te : TE} {fs vs : List Nat} {body : TB} {tg iter : Expr} {ifs : List Expr} {wi : TI} {g : TG} {tt : TT}
theorem fit {α : Type} {t : Sem α} {Q Q' : α → Shared → Prop} {M : Model} {A : Around} {F E : Value → Shared → Prop} {s : Shared} (hF : F = fun _ _ => False) (h : wpAny M A t Q F s) (hQ : ∀ a s, Q a s → Q' a s) : wpAny M A t Q' E s :=
  wpAny_mono h hQ fun _ _ z => by rw [hF] at z; exact z.elim
theorem runs_put (hn : gens[k + 1]? = none) (hx : B.xe = fun _ _ => False) (he : PE B elt te) : Runs B elt gens scope pos k D [] (tPut D te) := by
  refine ⟨fun pins s σ H Nx Post Er I q post => ?_⟩
  unfold Goes
  rw [hn]
  refine fit hx (he.run pins s σ H _ I q) fun v s1 ⟨y, H1, I1, r1, acc, hD, hz, nx⟩ => ?_
  exact app_ok I1 hD hz r1 fun s2 I2 => post s2 σ _ I2 rfl (fun _ _ e => e) nx
theorem runs_cl (hk : gens[k + 1]? = some ⟨tg, iter, ifs, 0⟩) (hn : ∀ g, gens[k + 2]? = some g → g.is_async = 0 ∧ ∀ x, foldedSetIterable g.iter B.env x = pure x) (hc : B.calm = true) (hx : B.xe = fun _ _ => False)
    (hi : PI B tg iter wi) (hg : PG B tg g) (ht : PTs B ifs tt) (hb : Runs B elt gens scope pos (k + 1) D fs body) (hf : ∀ i ∈ fs, i ∈ vs) : Runs B elt gens scope pos k D vs (tCl wi g tt vs body) := by
  refine ⟨fun pins s σ H Nx Post Er I q post => ?_⟩
  unfold Goes
  rw [hk]
  refine fit hx (hi.run pins s σ H _ I q) fun xv s1 h1 => fit hx h1 fun itv s2 h2 => ?_
  obtain ⟨it, fp, tn, J, H2, e, I2, T, st2, f2, W, ⟨m0, w0⟩, turn⟩ := h2
  subst e
  have stat : ∀ {H' : Hp}, (∀ b ∈ fp, H' b = none) → ∀ b ∈ fp, FpOk B pins H' b := fun hn b hb => ⟨hn b hb, (f2 b hb).2⟩
  have loop : codeAny (model B.prog B.w) B.A (.compLoop (.ListComp elt gens scope pos) (k + 1) (.ref it) (.ref D) B.env) (fun r s' => match r with | .ok _ => Post s' | .error _ => False) s2 := by
    refine loop_at hk hn (fun m s' => ∃ j H', Inv B pins (wipe σ vs) H' s' ∧ tn j s'.heap ∧ (∀ b ∈ fp, H' b = none) ∧ W j m H') ?_ m0 ⟨0, H2, I2.weak (wipe_length _ _) (fun j v e => (wipe_some e).1), st2, fun b hb => (f2 b hb).1, w0⟩
    rintro m s3 ⟨j, H3, I3, st3, n3, w3⟩
    rcases turn j m H3 w3 with ⟨stop, nx⟩ | ⟨go, N1, hN1, step⟩
    · refine thnF (T.done B rfl rfl rfl hc j _ s3 (wipe σ vs) H3 (fun _ _ => False) I3 (stat n3) st3 stop) fun r s4 ⟨hr, I4⟩ => ?_
      subst hr
      exact post s4 _ _ I4 (wipe_length _ _) (fun _ _ e => e) nx
    · refine thnF (T.item B rfl rfl rfl hc j _ s3 (wipe σ vs) H3 (fun _ _ => False) I3 (stat n3) st3 go) fun r s4 ⟨u, hr, h4⟩ => ?_
      subst hr
      refine thnF h4 fun _ s5 ⟨x, H5, I5, r5, y5, st5, n5⟩ => ?_
      have I5' := I5.pinned (stat n5) (T.obj _ _ st5)
      refine fit hx (hg.run _ s5 (wipe σ vs) H5 x u _ I5' r5 (step x H5 y5)) fun _ s6 ⟨σ6, H6, I6, hw, q6⟩ => ?_
      refine fit hx (ht.run _ s6 σ6 H6 _ I6 q6) fun b s7 ⟨H7, I7, q7⟩ => ?_
      have back : ∀ (s' : Shared) (σ' : St) (H' : Hp), Inv B (pins ++ pinsAt fp s5.heap) σ' H' s' → σ'.length = σ6.length → (∀ (j : Nat) v, (wipe σ6 fs)[j]? = some (some v) → σ'[j]? = some (some v)) → N1 H' →
          ∃ m', m' < m ∧ ∃ j H', Inv B pins (wipe σ vs) H' s' ∧ tn j s'.heap ∧ (∀ b ∈ fp, H' b = none) ∧ W j m' H' := fun s' σ' H' I' hl hkp n1 => by
        obtain ⟨m', hm, w'⟩ := hN1 H' n1
        have pin' : ∀ b ∈ fp, ∀ o, s5.heap.get? b = some o → s'.heap.get? b = some o ∧ H' b = none := fun b hb o e =>
          let z := I'.pin (b, o) (List.mem_append_right _ (List.mem_append_right _ (mem_pinsAt hb e)))
          ⟨z.1, z.2.1⟩
        refine ⟨m', hm, j + 1, H', I'.unpinned.weak (by rw [hl, ← hw, wipe_length]) (fun j v e => ?_), T.keep _ _ _ st5 fun b hb o e => (pin' b hb o e).1, fun b hb => ?_, w'⟩
        · rw [← hw] at e
          obtain ⟨e1, e2⟩ := wipe_some e
          exact hkp j v (by rw [wipe_out fun z => e2 (hf j z)]; exact e1)
        · obtain ⟨o, e, _⟩ := T.obj _ _ st5 b hb
          exact (pin' b hb o e).2
      cases b with
      | false =>
        simp only [Bool.false_eq_true, if_false] at q7 ⊢
        exact back s7 σ6 H7 I7 rfl (fun _ _ e => (wipe_some e).1) q7
      | true =>
        simp only [if_true] at q7 ⊢
        exact hb.run _ s7 σ6 H7 N1 _ _ I7 q7 back
  exact start_at hk rfl loop (T.self B.A 0 _ _ _ st2 loop)
end
theorem pi_listK {X : Cx} {K : PySem.W.Frag} {tg l : Expr} {tl : TE} (hK : X.K = K) (hl : PE X l tl) : PI X tg l (iList K tl) := by
  subst hK
  exact pi_list hl
/-- [elt for .. in .. for .. in .. ..]: D the new list, body what stands behind the first clause -/
def tLcN (wi : TI) (g : TG) (tt : TT) (vs : List Nat) (body : Addr → TB) : TE := fun σ H Q => wi σ H fun J H1 => ∀ D, H1 D = none → ∃ W : Nat → Nat → Hp → Prop, (∃ m, W 0 m (upd H1 D (.lst []))) ∧ ∀ i m H, W i m H →
  (J.stop i H ∧ Q (.ref D) H) ∨ (J.go i H ∧ ∃ N1 : Hp → Prop, (∀ H', N1 H' → ∃ m', m' < m ∧ W (i + 1) m' H') ∧ ∀ x H', J.yld i H x H' → g x (wipe σ vs) H' fun σ2 H2 => wipe σ2 vs = wipe σ vs ∧ tt σ2 H2 fun b H3 => if b = true then body D σ2 H3 N1 else N1 H3)
theorem pe_lcN {X : Cx} {elt tg iter : Expr} {ifs : List Expr} {rest : List Comprehension} {scope : Scope} {own : List (Str × Nat)} {fs : List Nat} {pos : Pos} {wi : TI} {g : TG} {tt : TT} {body : Addr → TB} (hc : X.calm = true) (hN : X.N.Nodup) (hi : PI X tg iter wi) (ok : BlkOk X.N X.env.scope scope own)
    (hg : ∀ (s : Shared) (H : Hp) (C : Addr) (cl : List (Str × Addr)) (fp : List Addr), PG (X.blk s H scope (compEnvC scope cl C X.env) fp) tg g) (ht : ∀ (s : Shared) (H : Hp) (C : Addr) (cl : List (Str × Addr)) (fp : List Addr), PTs (X.blk s H scope (compEnvC scope cl C X.env) fp) ifs tt)
    (hb : ∀ (D : Addr) (s : Shared) (H : Hp) (C : Addr) (cl : List (Str × Addr)) (fp : List Addr), Runs (X.blk s H scope (compEnvC scope cl C X.env) fp) elt (⟨tg, iter, ifs, 0⟩ :: rest) scope pos 0 D fs (body D)) (hf : ∀ i ∈ fs, i ∈ own.map (·.2))
    (hs : ∀ x, foldedSetIterable iter X.env x = pure x := by intro _; rfl) (hn : ∀ env g, rest[0]? = some g → g.is_async = 0 ∧ ∀ x, foldedSetIterable g.iter env x = pure x) :
    PE X (.ListComp elt (⟨tg, iter, ifs, 0⟩ :: rest) scope pos) (tLcN wi g tt (own.map (·.2)) body) := ⟨fun pins s σ H Q I h => by
  rw [eval_ListComp]
  have hfree : ∀ y ∈ scope.names, y.2 = .free → ∃ c, X.env.cells.lookup y.1 = some c := fun y hy e => (ok.free y hy e).elim (fun z => I.ok.has _ (.inl z)) fun z => I.ok.has _ (.inr z)
  refine wpAny_comprehension_free rfl hs (closure_ok hfree) ok.kind (fun y hy e => by rw [ok.uniq y hy, e]) (thn (hi.run pins s σ H _ I h) fun xv s1 h1 => thn h1 fun itv s2 h2 => ?_)
  obtain ⟨it, fp, tn, J, H2, e, I2, T, st2, f2, q⟩ := h2
  subst e
  refine wpAny_newObj_type (newEnv_comp ?_) (by show 0 ≤ sizeLine; decide)
  generalize hD : s2.heap.objs.size = D
  have hDn : H2 D = none := I2.hok.fresh (Nat.le_of_eq hD)
  obtain ⟨W, ⟨m0, w0⟩, turn⟩ := q D hDn
  -- the list is laid
  generalize hs3 : ({ s2 with heap := s2.heap.push { cls := .type "list", data := .seq ([] : List Value).toArray } } : Shared) = s3
  have h3 : s3.heap = s2.heap.push { cls := .type "list", data := .seq ([] : List Value).toArray } := by rw [← hs3]
  have I3 : Inv X pins σ (upd H2 D (.lst [])) s3 := by
    subst hs3
    exact I2.laid (t' := s2.toks) (fun b o e => Heap.get?_push_of_some _ e) (Nat.le_of_eq hD) ⟨Nat.zero_le _, [], 0, .nil, by subst hD; exact Heap.get?_push_size _ rfl⟩
  have f3 : ∀ b ∈ fp, FpOk X pins (upd H2 D (.lst [])) b ∧ b < s3.heap.objs.size := fun b hb => by
    obtain ⟨o, e, _⟩ := T.obj _ _ st2 b hb
    have lt := Heap.lt_size e
    refine ⟨⟨?_, (f2 b hb).2⟩, by rw [h3, Heap.size_push]; exact Nat.lt_succ_of_lt lt⟩
    rw [upd_ne (by rw [← hD]; exact Nat.ne_of_lt lt)]
    exact (f2 b hb).1
  have st3 : tn 0 s3.heap := T.keep _ _ _ st2 fun b _ o e => by rw [h3]; exact Heap.get?_push_of_some _ e
  have I4 := block_start I3 ok hN f3
  have pg := hg s3 (upd H2 D (.lst [])) s3.heap.objs.size (cellsFrom (s3.heap.objs.size + 1) scope.names (cloFrom X.env.cells scope.names [])) fp
  have pt := ht s3 (upd H2 D (.lst [])) s3.heap.objs.size (cellsFrom (s3.heap.objs.size + 1) scope.names (cloFrom X.env.cells scope.names [])) fp
  have pb := hb D s3 (upd H2 D (.lst [])) s3.heap.objs.size (cellsFrom (s3.heap.objs.size + 1) scope.names (cloFrom X.env.cells scope.names [])) fp
  have goal : codeAny (model X.prog X.w) X.A (.compStart (.ListComp elt (⟨tg, iter, ifs, 0⟩ :: rest) scope pos) 0 (.ref it) (.ref D) (compEnvC scope (cellsFrom (s3.heap.objs.size + 1) scope.names (cloFrom X.env.cells scope.names [])) s3.heap.objs.size X.env))
      (compPost (model X.prog X.w) X.A X.xe none (EP X pins σ Q) (.ref D) s3.heap.objs.size) { s3 with heap := pushCells (s3.heap.push { cls := .type "dict", data := .dict #[] }) scope.names } := by
    have nfp : ∀ b ∈ fp, (upd H2 D (.lst [])) b = none := fun b hb => (f3 b hb).1.1
    generalize hce : compEnvC scope (cellsFrom (s3.heap.objs.size + 1) scope.names (cloFrom X.env.cells scope.names [])) s3.heap.objs.size X.env = ce at I4 pg pt pb ⊢
    have cL : ce.locals = s3.heap.objs.size := by subst hce; rfl
    generalize upd H2 D (.lst []) = H3 at I3 I4 pg pt pb w0 nfp f3
    generalize hs4 : ({ s3 with heap := pushCells (s3.heap.push { cls := .type "dict", data := .dict #[] }) scope.names } : Shared) = s4 at I4 ⊢
    have st4 : tn 0 s4.heap := T.keep _ _ _ st3 fun b _ o e => by rw [← hs4]; exact pushCells_keeps _ _ _ _ (Heap.get?_push_of_some _ e)
    have stat : ∀ {σ' : St} {H' : Hp} {s' : Shared}, Inv (X.blk s3 H3 scope ce fp) [] σ' H' s' → (∀ b ∈ fp, H' b = none) → ∀ b ∈ fp, FpOk (X.blk s3 H3 scope ce fp) [] H' b := fun {σ' H' s'} I' hn b hb =>
      ⟨hn b hb, (I'.ok.exf b hb).1, I'.ok.exfs b hb, .inl hb, fun x c e => (I'.ok.exf b hb).2 x c e, fun p hp => absurd (show p ∈ ([] : List (Addr × Obj)) ++ [] from hp) (by simp)⟩
    have loop : codeAny (model X.prog X.w) X.A (.compLoop (.ListComp elt (⟨tg, iter, ifs, 0⟩ :: rest) scope pos) 0 (.ref it) (.ref D) ce) (compPost (model X.prog X.w) X.A X.xe none (EP X pins σ Q) (.ref D) s3.heap.objs.size) s4 := by
      refine loop_at (hk := rfl) (hn := hn ce) (fun m s' => ∃ j H', Inv (X.blk s3 H3 scope ce fp) [] (wipe σ (own.map (·.2))) H' s' ∧ tn j s'.heap ∧ (∀ b ∈ fp, H' b = none) ∧ W j m H') ?_ m0 ⟨0, H3, I4, st4, nfp, w0⟩
      rintro m s5 ⟨j, H5, I5, st5, n5, w5⟩
      rcases turn j m H5 w5 with ⟨stop, qq⟩ | ⟨go, N1, hN1, step⟩
      · refine thnF (T.done (X.blk s3 H3 scope ce fp) rfl rfl rfl hc j [] s5 _ H5 (fun _ _ => False) I5 (stat I5 n5) st5 stop) fun r s6 ⟨hr, I6⟩ => ?_
        subst hr
        have I7 : Inv X pins σ H5 s6 := I3.call' (ch := fp) I6.os I6.base I6.hok I6.bare fun b hb => ⟨(f3 b hb).1.2.2.2.1, (f3 b hb).1.2.1, (f3 b hb).1.2.2.2.2.1, (f3 b hb).1.2.2.2.2.2⟩
        have nC : H5 s3.heap.objs.size = none := by
          have z : H5 ce.locals = none := I6.free
          rwa [cL] at z
        obtain ⟨mm, hn2, _⟩ := I6.loc
        have hn2 : s6.heap.Ns ce.locals mm := hn2
        rw [cL] at hn2
        obtain ⟨g0, g1, g2, g3, g4, g5⟩ := I3.fpOk (Nat.le_refl _) nC
        exact ⟨mm, hn2, fun h'' sb => ⟨.ref D, H5, I7.turned (t' := s6.toks) (fun b o hb e => (sb.2 b hb).trans e) g0 g1 g3 g4 g5, rfl, qq⟩⟩
      · refine thnF (T.item (X.blk s3 H3 scope ce fp) rfl rfl rfl hc j [] s5 _ H5 (fun _ _ => False) I5 (stat I5 n5) st5 go) fun r s6 ⟨u, hr, h6⟩ => ?_
        subst hr
        refine thnF h6 fun _ s7 ⟨x, H7, I7, r7, y7, st7, n7⟩ => ?_
        have I7' := I7.pinned (stat I7 n7) (T.obj _ _ st7)
        refine thnF (pg.run _ s7 _ H7 x u _ I7' r7 (step x H7 y7)) fun _ s8 ⟨σ8, H8, I8, hw, q8⟩ => ?_
        refine thnF (pt.run _ s8 σ8 H8 _ I8 q8) fun b s9 ⟨H9, I9, q9⟩ => ?_
        have back : ∀ (s' : Shared) (σ' : St) (H' : Hp), Inv (X.blk s3 H3 scope ce fp) ([] ++ pinsAt fp s7.heap) σ' H' s' → σ'.length = σ8.length → (∀ (j : Nat) v, (wipe σ8 fs)[j]? = some (some v) → σ'[j]? = some (some v)) → N1 H' →
            ∃ m', m' < m ∧ ∃ j H', Inv (X.blk s3 H3 scope ce fp) [] (wipe σ (own.map (·.2))) H' s' ∧ tn j s'.heap ∧ (∀ b ∈ fp, H' b = none) ∧ W j m' H' := fun s' σ' H' I' hl hkp n1 => by
          obtain ⟨m', hm, w'⟩ := hN1 H' n1
          have pin' : ∀ b ∈ fp, ∀ o, s7.heap.get? b = some o → s'.heap.get? b = some o ∧ H' b = none := fun b hb o e =>
            let z := I'.pin (b, o) (List.mem_append_right _ (List.mem_append_right _ (mem_pinsAt hb e)))
            ⟨z.1, z.2.1⟩
          refine ⟨m', hm, j + 1, H', (I'.unpinned (pins := [])).weak (by rw [hl, ← hw, wipe_length]) (fun j v e => ?_), T.keep _ _ _ st7 fun b hb o e => (pin' b hb o e).1, fun b hb => ?_, w'⟩
          · rw [← hw] at e
            obtain ⟨e1, e2⟩ := wipe_some e
            exact hkp j v (by rw [wipe_out fun z => e2 (hf j z)]; exact e1)
          · obtain ⟨o, e, _⟩ := T.obj _ _ st7 b hb
            exact (pin' b hb o e).2
        cases b with
        | false =>
          simp only [Bool.false_eq_true, if_false] at q9 ⊢
          exact back s9 σ8 H9 I9 rfl (fun _ _ e => (wipe_some e).1) q9
        | true =>
          simp only [if_true] at q9 ⊢
          exact pb.run _ s9 σ8 H9 N1 _ _ I9 q9 back
    exact start_at (hk := rfl) rfl loop (T.self X.A 0 _ _ _ st4 loop)
  exact goal⟩
end L2
namespace Rt
open PySem L2 PySem.Spec PyProof.Rows
section
variable {P : Program} {w : World} {K : PySem.W.Frag} {mg : Str → Option Value} {base : Heap}

/-! ### what is wished for less is met, too -/
def TEMono (t : TE) : Prop := ∀ (σ : L2.St) (H : Hp) (Q Q' : VK), (∀ v H1, Q v H1 → Q' v H1) → t σ H Q → t σ H Q'
def TAMono (t : TA) : Prop := ∀ (σ : L2.St) (H : Hp) (Q Q' : List V → Hp → Prop), (∀ v H1, Q v H1 → Q' v H1) → t σ H Q → t σ H Q'
def TTMono (t : TT) : Prop := ∀ (σ : L2.St) (H : Hp) (Q Q' : Bool → Hp → Prop), (∀ b H1, Q b H1 → Q' b H1) → t σ H Q → t σ H Q'
def R2Mono (r : R2) : Prop := ∀ (x y : V) (H : Hp) (Q Q' : VK), (∀ v H1, Q v H1 → Q' v H1) → r x y H Q → r x y H Q'
theorem m_var {i : Nat} : TEMono (tVar i) := fun _ _ _ _ h ⟨v, e, z⟩ => ⟨v, e, h _ _ z⟩
theorem m_c {v : V} : TEMono (tC v) := fun _ _ _ _ h z => h _ _ z
theorem m_op {r : R2} {a b : TE} (hr : R2Mono r) (ha : TEMono a) (hb : TEMono b) : TEMono (tOp r a b) := fun σ H Q Q' h z => ha σ H _ _ (fun x H1 q => hb σ H1 _ _ (fun y H2 q2 => hr x y H2 _ _ h q2) q) z
theorem m_nil : TAMono tNil := fun _ _ _ _ h z => h _ _ z
theorem m_cons {t : TE} {u : TA} (ht : TEMono t) (hu : TAMono u) : TAMono (tCons t u) := fun σ H Q Q' h z => ht σ H _ _ (fun x H1 q => hu σ H1 _ _ (fun xs H2 q2 => h _ _ q2) q) z
theorem m_test {t : TE} (ht : TEMono t) : TTMono (tTest t) := fun σ H Q Q' h z => ht σ H _ _ (fun x H1 ⟨k, e, q⟩ => ⟨k, e, h _ _ q⟩) z
theorem m_and {t u : TT} (ht : TTMono t) (hu : TTMono u) : TTMono (tAnd t u) := fun σ H Q Q' h z => ht σ H _ _ (fun c H1 q => by
  cases c with
  | true => exact hu σ H1 _ _ h q
  | false => exact h _ _ q) z
theorem m_rI {C : Int → Int → Prop} {g : Int → Int → V} : R2Mono (rI C g) := fun _ _ _ _ _ h ⟨i, j, e1, e2, c, q⟩ => ⟨i, j, e1, e2, c, h _ _ q⟩
theorem m_rI0 {g : Int → Int → V} : R2Mono (rI0 g) := fun _ _ _ _ _ h ⟨i, j, e1, e2, q⟩ => ⟨i, j, e1, e2, h _ _ q⟩
theorem m_rEq : R2Mono rEq := fun _ _ _ _ _ h ⟨e, q⟩ => ⟨e, h _ _ q⟩
theorem m_rNe : R2Mono rNe := fun _ _ _ _ _ h ⟨e, q⟩ => ⟨e, h _ _ q⟩
theorem m_rIn {n : Bool} : R2Mono (rIn K n) := fun _ _ _ _ _ h ⟨p, xs, e, s, f, a, q⟩ => ⟨p, xs, e, s, f, a, h _ _ q⟩
theorem m_len {i : Nat} : TEMono (tCB (fun xs H Q => ∃ p ys, xs = [V.ref p] ∧ (SqL K H p ys ∨ SqT K H p ys) ∧ Q (.int (ys.length : Int)) H) (tCons (tVar i) tNil)) := fun _ _ _ _ h ⟨v, e, p, ys, e1, e2, q⟩ => ⟨v, e, p, ys, e1, e2, h _ _ q⟩
/-! ### what is never reached -/
def tNev : TS := fun _ _ _ => False
theorem pss_nev {X : Cx} {sts : List Stmt} : PSs X sts tNev := ⟨fun _ _ _ _ _ _ h => h.elim⟩

/-! ### is_integer, and the checks -/
def spIsInt (T : Tx P K mg) : Sp := fun vs H Q _ => ∃ (x : V) (lo hi : Int), vs = [x, .int lo, .int hi] ∧ AnyV (OwnT T) H x ∧ Q (.bl (intIn x lo hi)) H
theorem isi_int (T : Tx P K mg) {H : Hp} {x : V} (a : AnyV (OwnT T) H x) : ∃ t, TyX K H x t ∧ (∃ b, PySem.W.kitOne K t (.type "int") = some b ∧ (b = false → ∀ lo hi, intIn x lo hi = false) ∧ ∃ c, PySem.W.kitOne K t (.type "bool") = some c ∧ (c = true → ∀ lo hi, intIn x lo hi = false) ∧ (b = true → c = false → ∃ i, x = .int i)) := by
  cases a with
  | non => exact ⟨_, .base .non, false, kit_ty (by decide +kernel), fun _ _ _ => rfl, false, kit_ty (by decide +kernel), fun _ _ _ => rfl, fun z => nomatch z⟩
  | bl b => exact ⟨_, .base (.bl b), true, kit_ty (by decide +kernel), fun _ _ _ => rfl, true, kit_ty (by decide +kernel), fun _ _ _ => rfl, fun _ z => nomatch z⟩
  | int i => exact ⟨.type "int", .base (.int i), true, kit_ty (by decide +kernel), fun z => Bool.noConfusion z, false, kit_ty (by decide +kernel), fun z => Bool.noConfusion z, fun _ _ => ⟨i, rfl⟩⟩
  | str x => exact ⟨_, .base (.str x), false, kit_ty (by decide +kernel), fun _ _ _ => rfl, false, kit_ty (by decide +kernel), fun _ _ _ => rfl, fun z => nomatch z⟩
  | lst e => exact ⟨_, .base (.lst e), false, kit_ty (by decide +kernel), fun _ _ _ => rfl, false, kit_ty (by decide +kernel), fun _ _ _ => rfl, fun z => nomatch z⟩
  | tup e => exact ⟨_, .base (.tup e), false, kit_ty (by decide +kernel), fun _ _ _ => rfl, false, kit_ty (by decide +kernel), fun _ _ _ => rfl, fun z => nomatch z⟩
  | dct e => exact ⟨_, .base (.dK e), false, kit_ty (by decide +kernel), fun _ _ _ => rfl, false, kit_ty (by decide +kernel), fun _ _ _ => rfl, fun z => nomatch z⟩
  | ins t e => exact ⟨_, .base (t.ty e), false, t.nint, fun _ _ _ => rfl, false, t.nbool, fun _ _ _ => rfl, fun z => nomatch z⟩
theorem ok_is_integer (T : Tx P K mg) : FnOk P w K mg base CX0 lv_is_integer T.a_is_integer T.d_is_integer ["told", "low", "high"] (spIsInt T) := by
  refine T.F_is_integer.ok sc_is_integer (fun vs H Q E h => ?_) (fun cdv A outer s H vs Q E hr h => ?_)
  · obtain ⟨x, lo, hi, rfl, _⟩ := h
    rfl
  · obtain ⟨x, lo, hi, rfl, a, k⟩ := h
    refine ⟨_, (pss_one (ps_ret (pe_and (pe_callB call_isi (by rfl) T.n_isinstance (by decide +kernel) (pa_cons (pv 0) (pa_cons (pe_bltn (v := .ty "int") rfl T.n_int (by decide +kernel) rfl) pa_nil))) (pe_and (pe_not (pe_callB call_isi (by rfl) T.n_isinstance (by decide +kernel) (pa_cons (pv 0) (pa_cons (pe_bltn (v := .ty "bool") rfl T.n_bool (by decide +kernel) rfl) pa_nil)))) (pe_one (pe_chain op_le op_le (pv 1) (pv 0) (pv 2))))))), ?_⟩
    obtain ⟨t, ty, b, e1, h1, c, e2, h2, h3⟩ := isi_int T a
    refine ⟨_, rfl, _, _, _, _, b, rfl, .ty _, ty, e1, b, rfl, ?_⟩
    cases b with
    | false => exact iteF (by rw [h1 rfl lo hi] at k; exact k)
    | true =>
      refine iteT ?_
      refine ⟨_, rfl, _, _, _, _, c, rfl, .ty _, ty, e2, c, rfl, _, rfl, ?_⟩
      cases c with
      | true => exact iteF (by rw [h2 rfl lo hi] at k; exact k)
      | false =>
        refine iteT ?_
        obtain ⟨i, rfl⟩ := h3 rfl rfl
        refine ⟨_, rfl, _, rfl, _, _, rfl, rfl, _, rfl, ?_⟩
        have ke : Q (V.bl (decide (lo ≤ i) && decide (i ≤ hi))) H := k
        refine ite2 (fun c1 => ?_) (fun c1 => ?_)
        · rw [c1] at ke
          exact ⟨_, rfl, _, _, rfl, rfl, ke⟩
        · rw [show decide (lo ≤ i) = false from by simpa using c1] at ke
          exact ke
/-- base, take and the like: a value in the range, or the error of the class C -/
def spChk (T : Tx P K mg) (C : Addr) (lo hi : Int) : Sp := fun vs H Q E => ∃ x : V, vs = [x] ∧ AnyV (OwnT T) H x ∧ (intIn x lo hi = true → Q .non H) ∧ (intIn x lo hi = false → E (.ref C) none H)

/-! ### is_number -/
def spIsNum (T : Tx P K mg) : Sp := fun vs H Q _ => ∃ x : V, vs = [x] ∧ AnyV (OwnT T) H x ∧ Q (.bl (intIn x (-(10 ^ 40)) (10 ^ 40))) H
theorem ok_is_number (T : Tx P K mg) : FnOk P w K mg base CX0 lv_is_number T.a_is_number T.d_is_number ["told"] (spIsNum T) := by
  refine T.F_is_number.ok sc_is_number (fun vs H Q E h => ?_) (fun cdv A outer s H vs Q E hr h => ?_)
  · obtain ⟨x, rfl, _⟩ := h
    rfl
  · obtain ⟨x, rfl, a, k⟩ := h
    refine ⟨_, (pss_one (ps_ret (pe_call (ok_is_integer T) (hr.mono (by decide)) rfl T.g_is_integer T.F_is_integer.kp T.b_is_integer .nil pass0 (pa_cons (pv 0) (pa_cons (pe_un un_neg (pe_glob (v := .int 10000000000000000000000000000000000000000) rfl T.c_GREATEST_NUMBER ⟨_, rfl⟩)) (pa_cons (pe_glob (v := .int 10000000000000000000000000000000000000000) rfl T.c_GREATEST_NUMBER ⟨_, rfl⟩) pa_nil)))))), ?_⟩
    exact ⟨_, rfl, _, rfl, x, _, _, rfl, a, k⟩

/-! ### a call of what an expression gives: one def of a family -/
structure HeldX (P : Program) (w : World) (K : PySem.W.Frag) (mg : Str → Option Value) (base : Heap) (CX : CXT) (k : Nat) (f : Addr) (sp : Sp) : Prop where
  ex : ∃ (k2 : Nat) (fd : FuncData) (ps : List Str), k2 ≤ k ∧ FnOk P w K mg base CX k2 f fd ps sp ∧ PySem.W.keepIn K (.ref f) = true ∧ Binds K fd ps []
def tCallE (te : TE) (fam : Addr → Sp → Prop) (E : XK) (t : TA) : TE := fun σ H Q => te σ H fun x H0 => ∃ f sp, x = .ref f ∧ fam f sp ∧ t σ H0 fun vs H1 => sp vs H1 Q E
theorem pe_callE {X : Cx} {CX : CXT} {k : Nat} {fam : Addr → Sp → Prop} {E : XK} {e0 : PySem.Expr} {te : TE} {e : PySem.Expr} {es : List PySem.Expr} {t : TA} {pos : Pos} (A : ∀ f sp, fam f sp → HeldX X.prog X.w X.K X.mg X.base CX k f sp) (hr : Room k X.A) (h0 : PE X e0 te) (hx : Passes CX X E) (ha : PA X (e :: es) t)
    (hev : eval (.Call e0 (e :: es) [] pos) X.env = (do callWith pos (← eval e0 X.env) [] (backTo pos (starEach (e :: es) X.env)) []) := by rfl)
    (he : starEach (e :: es) X.env = (false, eval e X.env) :: starEach es X.env := by rfl) (hpl : (backTo pos (starEach es X.env)).any (·.1) = false := by rfl) : PE X (.Call e0 (e :: es) [] pos) (tCallE te fam E t) := by
  refine ⟨fun pins s σ H Q I h => ?_⟩
  rw [hev]
  refine wpAny_bind (thn (h0.run pins s σ H _ I h) fun u s1 hh => ?_)
  obtain ⟨x, H1, I1, r1, f, sp, rfl, hf, ht⟩ := hh
  obtain rfl : u = Value.ref f := r1
  obtain ⟨k2, fd, ps, lk, F, hk, hb⟩ := (A f sp hf).ex
  refine PySem.W.callWith_K (h₀ := X.base) I.ok.mod.kin hk (thn (ha.run pos pins s1 σ _ _ I1 ht) fun us s2 ⟨vs, H2, I2, r, q⟩ => ⟨I2.kIn, ?_⟩) he hpl
  exact run_fn F (hr.mono lk) hb .nil hx I2 r (by rw [List.append_nil]; exact q)
/-- the same, where what it lets out may speak of the slots -/
def tCallES (te : TE) (fam : Addr → Sp → Prop) (E : L2.St → XK) (t : TA) : TE := fun σ H Q => te σ H fun x H0 => ∃ f sp, x = .ref f ∧ fam f sp ∧ t σ H0 fun vs H1 => sp vs H1 Q (E σ)
theorem pe_callES {X : Cx} {CX : CXT} {k : Nat} {fam : Addr → Sp → Prop} {E : L2.St → XK} {e0 : PySem.Expr} {te : TE} {e : PySem.Expr} {es : List PySem.Expr} {t : TA} {pos : Pos} (A : ∀ f sp, fam f sp → HeldX X.prog X.w X.K X.mg X.base CX k f sp) (hr : Room k X.A) (h0 : PE X e0 te) (hx : ∀ σ, PassesAt CX X σ (E σ)) (ha : PA X (e :: es) t)
    (hev : eval (.Call e0 (e :: es) [] pos) X.env = (do callWith pos (← eval e0 X.env) [] (backTo pos (starEach (e :: es) X.env)) []) := by rfl)
    (he : starEach (e :: es) X.env = (false, eval e X.env) :: starEach es X.env := by rfl) (hpl : (backTo pos (starEach es X.env)).any (·.1) = false := by rfl) : PE X (.Call e0 (e :: es) [] pos) (tCallES te fam E t) := by
  refine ⟨fun pins s σ H Q I h => ?_⟩
  rw [hev]
  refine wpAny_bind (thn (h0.run pins s σ H _ I h) fun u s1 hh => ?_)
  obtain ⟨x, H1, I1, r1, f, sp, rfl, hf, ht⟩ := hh
  obtain rfl : u = Value.ref f := r1
  obtain ⟨k2, fd, ps, lk, F, hk, hb⟩ := (A f sp hf).ex
  refine PySem.W.callWith_K (h₀ := X.base) I.ok.mod.kin hk (thn (ha.run pos pins s1 σ _ _ I1 ht) fun us s2 ⟨vs, H2, I2, r, q⟩ => ⟨I2.kIn, ?_⟩) he hpl
  exact run_fnS F (hr.mono lk) hb (hx σ) I2 r q

/-! ### enumerate(tuple) -/
end
end Rt
namespace EnumX
open PySem PyProof.Rows
theorem new1 {u : Value} {ob : Obj} {Z : Heap → Prop} (B : Begins u ob Z) : Meets (Builtin.«enumerate.__new__» ⟨[.type "enumerate", u], []⟩) (fun _ R s => Z s.heap ∧
      R (.ok (.ret (.ref (s.heap.push ob).objs.size))) { s with heap := (s.heap.push ob).push ⟨.type "enumerate", none, .fields #[.none, .bool false, .ref s.heap.objs.size, rawInt 0, .none, .none], #[]⟩ }) := by
  refine Meets.of_wp fun P w A R s hyp => ?_
  obtain ⟨z, fin⟩ := hyp
  obtain ⟨hp, g, d, tk, os⟩ := s
  have se := sub_enumerate
  have go : ∀ {A2 : Around} {E2 Q2 : Value → Shared → Prop}, Q2 (.ref hp.objs.size) ⟨hp.push ob, g, d, tk, os⟩ → wpAny (model P w) A2 (pyIter u) Q2 E2 ⟨hp, g, d, tk, os⟩ := fun q => B.iter P w _ _ ⟨hp, g, d, tk, os⟩ _ z q
  wp_walk using go
  refine wpAny_stack_any fun stk => (wpAny_pure ?_)
  split
  · rename_i cc _ _ _ _ _
    cases (cc == Value.type "enumerate") <;> (wp_walk using go; exact ⟨_, rfl, fin⟩)
  · wp_walk using go
    exact ⟨_, rfl, fin⟩
theorem made1 {P : Program} {w : World} {A : Around} {E Q : Value → Shared → Prop} {s : Shared} {u : Value} {ob : Obj} {Z : Heap → Prop} (B : Begins u ob Z) (z : Z s.heap)
    (q : ∀ h2, IsEnum h2 (s.heap.objs.size + 1) s.heap.objs.size 0 .none → h2.get? s.heap.objs.size = some ob → (∀ b o, s.heap.get? b = some o → h2.get? b = some o) → Q (.ref (s.heap.objs.size + 1)) { s with heap := h2 }) :
    wpAny (model P w) A (call (.type "enumerate") [u]) Q E s := by
  refine callType_new F.called_enumerate (by decide) (F.typeCall_enumerate_1 u) (F.newCall_enumerate_1 u) (fun ob => F.args_object_init_2 ob u) F.entry_enumerate_new (new1 B) ⟨z, ?_⟩
  have sz : (s.heap.push ob).objs.size = s.heap.objs.size + 1 := Heap.size_push ..
  have at1 : ((s.heap.push ob).push ⟨.type "enumerate", none, .fields #[.none, .bool false, .ref s.heap.objs.size, rawInt 0, .none, .none], #[]⟩).get? (s.heap.objs.size + 1) = some ⟨.type "enumerate", none, .fields #[.none, .bool false, .ref s.heap.objs.size, rawInt 0, .none, .none], #[]⟩ := by
    rw [← sz]
    exact Heap.get?_push_size _ rfl
  show _ ∧ _
  rw [sz]
  exact ⟨⟨_, at1, rfl⟩, q _ at1 (Heap.get?_push_of_some _ (Heap.get?_push_size _ B.free)) fun b o e => Heap.get?_push_of_some _ (Heap.get?_push_of_some _ e)⟩
/-- at the end nothing is drawn -/
theorem drawn_out {P : Program} {w : World} {A : Around} (hh : A.handled = none) (it t : Addr) (ne : t ≠ it) (its : Array Value) (n : Nat) (hn : its.size ≤ n) : Draws P w A it [it, t] n (fun _ _ => True) (fun j h => j = n ∧ h.IsTupleIter it t n ∧ h.IsTuple t its) where
  live := fun _ _ ⟨_, ⟨o, e, _⟩, _⟩ => ⟨o, e⟩
  frame := fun _ _ _ ⟨z, a, b⟩ k => ⟨z, a.at fun o e => k it List.mem_cons_self o e, b.at fun o e => k t (List.mem_cons_of_mem _ List.mem_cons_self) o e⟩
  item := fun j _ _ _ lt ⟨z, _⟩ _ => absurd z (Nat.ne_of_lt lt)
  done := fun s Q E ⟨_, a, b⟩ q => wpAny_nextOf_tuple_end hh a b (Array.getElem?_eq_none hn) q
end EnumX
namespace L2
open PySem PySem.Spec PyProof.Rows
/-- the tuple at a, each item in a new pair with its place -/
def IteT (K : PySem.W.Frag) (a : Addr) : It where
  go := fun i H => ∃ (ys : List V) (y : V), SqT K H a ys ∧ ys[i]? = some y
  yld := fun i H v H2 => ∃ c y, v = .ref c ∧ H c = none ∧ H2 = upd H c (.tup [.int (i : Nat), y]) ∧ ∀ ys, SqT K H a ys → ys[i]? = some y
  stop := fun i H => ∃ ys : List V, SqT K H a ys ∧ ys.length ≤ i
theorem turn_enumT {P : Program} {w : World} {K : PySem.W.Frag} {elts : List PySem.Expr} {kk : Nat} {tpos : Pos} (a e it : Addr) :
    Turn P w K (.Tuple elts kk tpos) (IteT K a) [e, it] e (fun i h => (∃ old, IsEnum h e it ((i : Nat) : Int) old) ∧ h.IsTupleIter it a i ∧ e ≠ it) where
  mem := List.mem_cons_self
  obj := fun i h st b hb => by
    obtain ⟨⟨v0, en⟩, ⟨o, g1, g2, g3⟩, _⟩ := st
    rcases List.mem_cons.mp hb with z | hb2
    · rw [z]
      exact ⟨_, en, fun v q => nomatch q⟩
    · rw [List.mem_singleton.mp hb2]
      exact ⟨o, g1, fun v q => by rw [g3] at q; cases q⟩
  keep := fun i h h2 st k => by
    obtain ⟨⟨v0, en⟩, ti, ne⟩ := st
    exact ⟨⟨v0, k e List.mem_cons_self _ en⟩, ti.at fun o q => k it (List.mem_cons_of_mem _ List.mem_cons_self) o q, ne⟩
  item := by
    intro X hP hw hK hc i pins s σ H E I hf st hg
    subst hP hw hK
    obtain ⟨⟨v0, en⟩, ti, ne⟩ := st
    obtain ⟨ys, y, sq, hy⟩ := hg
    obtain ⟨its, vals, tp, ln⟩ := I.tuple sq
    obtain ⟨u, hu, ru⟩ := vals.get hy
    have tpl : s.heap.IsTuple a its.toArray := tp
    have le : e < s.heap.objs.size := Heap.lt_size en
    have li : it < s.heap.objs.size := by
      obtain ⟨_, q, _⟩ := ti
      exact Heap.lt_size q
    have nea : e ≠ a := fun z => by
      obtain ⟨o, g1, g2, _⟩ := tpl
      rw [← z, (show s.heap.get? e = some _ from en)] at g1
      rw [← Option.some.inj g1] at g2
      exact absurd (show Value.type "enumerate" = Value.type "tuple" from g2) (by decide)
    have nia : it ≠ a := fun z => by
      obtain ⟨o, g1, g2, _⟩ := tpl
      obtain ⟨o2, f1, f2, _⟩ := ti
      rw [← z, f1] at g1
      rw [← Option.some.inj g1, f2] at g2
      exact absurd g2 (by decide)
    refine wpAny_pyNext_enum_itemD (Draws.tuple (show X.A.in1.handled = none from I.ok.hd hc) it a (Ne.symm nia) its.toArray) en ⟨ti, tpl⟩ (by have := (List.getElem?_eq_some_iff.mp hu).1; simpa using this) ne (by simp [ne, nea]) fun x h2 tk px eo st2 nt sz kp => ?_
    have exu : x = u := by
      have px2 : its.toArray[i]? = some x := px
      rw [List.getElem?_toArray, hu] at px2
      exact (Option.some.inj px2).symm
    subst exu
    refine ⟨_, rfl, wpAny_letOwnedTupleGo_enum (s := { s with heap := h2, toks := tk + 1 }) eo fun h3 en3 sb => ?_⟩
    have nt3 : h3.get? s.heap.objs.size = some { cls := .type "tuple", data := .seq #[.int i tk, x] } := (sb.2 _ (Nat.ne_of_gt le)).trans nt
    have nw : ObjOk X.prog X.w (upd H s.heap.objs.size (.tup [.int (i : Nat), y])) h3 s.heap.objs.size (.tup [.int (i : Nat), y]) := ⟨by show 2 ≤ sizeLine; decide, [.int i tk, x], .cons ⟨_, rfl⟩ (.cons ru .nil), ⟨_, nt3, rfl, _, rfl⟩⟩
    have J : Inv X pins σ (upd H s.heap.objs.size (.tup [.int (i : Nat), y])) { s with heap := h3, toks := tk + 1 } :=
      I.turnedNew (ch := [e, it]) (fun b ob hb q => (sb.2 b (fun z => hb (z ▸ List.mem_cons_self))).trans (kp b ob (fun z => hb (z ▸ List.mem_cons_self)) (fun z => hb (z ▸ List.mem_cons_of_mem _ List.mem_cons_self)) q)) hf (Nat.le_refl _) nw
    refine ⟨.ref s.heap.objs.size, _, J, rfl, ⟨_, y, rfl, I.hok.fresh (Nat.le_refl _), rfl, fun zs hz => by rw [I.tuple_inj hz sq]; exact hy⟩, ⟨⟨x, ?_⟩, st2.1.at fun o q => (sb.2 it (Ne.symm ne)).trans q, ne⟩, fun b hb => ?_⟩
    · rw [show ((i + 1 : Nat) : Int) = (i : Int) + 1 from by omega]
      exact en3
    · have lb : b < s.heap.objs.size := by
        rcases List.mem_cons.mp hb with z | hb2
        · rw [z]
          exact le
        · rw [List.mem_singleton.mp hb2]
          exact li
      rw [upd_ne (Nat.ne_of_lt lb)]
      exact (hf b hb).1
  done := by
    intro X hP hw hK hc i pins s σ H E I hf st hg
    subst hP hw hK
    obtain ⟨⟨v0, en⟩, ti, ne⟩ := st
    obtain ⟨ys, sq, ln⟩ := hg
    obtain ⟨its, vals, tp, _⟩ := I.tuple sq
    obtain ⟨f0, f1, f2, f3, f4, f5⟩ := hf it (List.mem_cons_of_mem _ List.mem_cons_self)
    have tpl : s.heap.IsTuple a its.toArray := tp
    have nia : it ≠ a := fun z => by
      obtain ⟨o, g1, g2, _⟩ := tpl
      obtain ⟨o2, q1, q2, _⟩ := ti
      rw [← z, q1] at g1
      rw [← Option.some.inj g1, q2] at g2
      exact absurd g2 (by decide)
    have hl := vals.length
    refine wpAny_pyNext_enum_endD (EnumX.drawn_out (show X.A.in1.handled = none from I.ok.hd hc) it a (Ne.symm nia) its.toArray i (by simp; omega)) en ⟨rfl, ti, tpl⟩ fun h2 eb => ⟨rfl, I.turned (t' := s.toks) (fun b o hb q => eb b o hb q) f0 f1 f3 f4 f5⟩
  self := fun A i s Q E st h => let ⟨⟨_, en⟩, _⟩ := st; wpAny_pyIter_enum en h
def iEnumT (K : PySem.W.Frag) (ta : TA) : TI := fun σ H R => ta σ H fun vs H1 => ∃ a ys, vs = [.ref a] ∧ SqT K H1 a ys ∧ R (IteT K a) H1
theorem pi_enumT {X : Cx} {e : PySem.Expr} {ta : TA} {p pos tpos : Pos} {elts : List PySem.Expr} {kk : Nat} (hg : Gl X "enumerate") (hm : X.mg "enumerate" = none) (ha : PA X [e] ta) (hs : starEach [e] X.env = [(false, eval e X.env)] := by rfl) :
    PI X (.Tuple elts kk tpos) (.Call (.Name "enumerate" p) [e] [] pos) (iEnumT X.K ta) := by
  refine ⟨fun pins s σ H R I wish => ?_⟩
  refine Call_ (ld_blt I hg hm boot_enumerate (PyProof.Rows.callWith_type1 (thn (ha.run pos pins s σ H _ I wish) fun us s1 hh => ?_) hs rfl))
  obtain ⟨vs, H1, I1, r1, a, ys, rfl, sq, q⟩ := hh
  cases r1 with
  | cons r rr =>
    cases rr
    cases r
    obtain ⟨its, vals, tp, ln⟩ := I1.tuple sq
    have tpl : s1.heap.IsTuple a its.toArray := tp
    refine EnumX.made1 (begins_tuple a its.toArray) tpl fun h2 en nw kp => wpAny_pyIter_enum en ?_
    have J : Inv X pins σ H1 { s1 with heap := h2 } := I1.kept (t' := s1.toks) kp
    refine ⟨s1.heap.objs.size + 1, [s1.heap.objs.size + 1, s1.heap.objs.size], _, _, H1, rfl, J, turn_enumT a (s1.heap.objs.size + 1) s1.heap.objs.size, ⟨⟨.none, en⟩, ⟨_, nw, rfl, rfl⟩, Nat.succ_ne_self _⟩, fun b hb => ?_, q⟩
    have le : s1.heap.objs.size ≤ b := by
      rcases List.mem_cons.mp hb with z | hb2
      · rw [z]
        exact Nat.le_succ _
      · rw [List.mem_singleton.mp hb2]
        exact Nat.le_refl _
    exact I1.fpOk le (I1.hok.fresh le)
theorem walk_enumT {K : PySem.W.Frag} {a : Addr} {ys : List V} : Walk (IteT K a) ys.length (fun H => SqT K H a ys) (YPair (fun i => some (.int (i : Nat))) (fun i => ys[i]?)) := by
  refine ⟨fun i _ lt q => ⟨ys, ys[i], q, by simp [lt]⟩, fun _ q => ⟨ys, q, Nat.le_refl _⟩, fun i H v H2 _ q w => ?_⟩
  obtain ⟨c, y, e1, e2, e3, e4⟩ := w
  exact ⟨c, .int (i : Nat), y, e1, e2, e3, rfl, e4 ys q⟩
end L2
namespace Rt
open PySem L2 PySem.Spec PyProof.Rows
section
variable {P : Program} {w : World} {K : PySem.W.Frag} {mg : Str → Option Value} {base : Heap}

/-! ### a program's own == ; errors that leave a call within a try -/
def NoSub (K : PySem.W.Frag) (C : Addr) (H : Hp) (y : V) : Prop := (∃ b dy gs, y = .ref b ∧ H b = some (.ins C dy gs)) ∨ (∃ b xs, y = .ref b ∧ H b = some (.tup xs) ∧ PySem.W.subIn K (.type "tuple") (.ref C) = some false)
def rOwn (K : PySem.W.Frag) (C : Addr) (sp : Sp) (E : XK) : R2 := fun x y H Q => ∃ a dx fs, x = .ref a ∧ H a = some (.ins C dx fs) ∧ NoSub K C H y ∧ sp [x, y] H (fun v H' => (∃ k, v = .bl k) ∧ Q v H') E
section
variable {X : Cx}
theorem op_own {n : Nat} {CX : CXT} {C f : Addr} {fd : FuncData} {ps : List Str} {sp : Sp} {E : XK} (G : FnOk X.prog X.w X.K X.mg X.base CX n f fd ps sp) (hr : Room n X.A)
    (hs : PySem.W.findIn X.K (.ref C) "__eq__" = some (some (.ref f))) (hf : PySem.W.isFn X.K (.ref f) = true) (hb : Binds X.K fd ps []) (hx : Passes CX X E) : OpR X (compareOp .Eq) (rOwn X.K C sp E) := by
  intro pins s σ H x y v u Q I rx ry hq
  obtain ⟨a, dx, fs, rfl, ha, hy, hsp⟩ := hq
  obtain rfl : v = Value.ref a := rx
  obtain ⟨mA, O, _⟩ := ins_get I.hok ha
  obtain ⟨od, J, _⟩ := O.look
  obtain ⟨m, hF⟩ := I.fr
  have hl : ([V.ref a, y] : List V).length = ps.length := G.len _ _ _ _ hsp
  have back : wpAny (model X.prog X.w) X.A (call (.ref f) [.ref a, u]) (PySem.W.CmpBack (EP X pins σ Q)) X.xe s := by
    have rv : Vals [V.ref a, y] [Value.ref a, u] := .cons rfl (.cons ry .nil)
    have bd := hb s [.ref a, u] I.kIn (by rw [List.append_nil]; exact hl)
    rw [List.append_nil] at bd
    refine wpAny_call (codeAny_mono (G.run X.A X.stack s H ⟨[.ref a, u], []⟩ [.ref a, u] _ _ E hr I.env0 bd rv hsp) fun r s' hw => ?_)
    match r, hw with
    | .error e, hw => exact hx pins σ H s e s' I hw
    | .ok (.ret w'), hw =>
      obtain ⟨z, H', I', rz, ⟨k, ek⟩, qz⟩ := I.after hw
      subst ek
      cases rz
      exact ⟨.bl k, H', I', rfl, qz⟩
    | .ok .next, hw => exact hw.elim
    | .ok .brk, hw => exact hw.elim
    | .ok .cont, hw => exact hw.elim
  show wpAny (model X.prog X.w) X.A (richCompare .Eq (.ref a) u) _ _ s
  rcases hy with ⟨b, dy, gs, rfl, hb'⟩ | ⟨b, xs, rfl, hb', hsub⟩
  · obtain rfl : u = Value.ref b := ry
    obtain ⟨mB, O', _⟩ := ins_get I.hok hb'
    obtain ⟨od', J', _⟩ := O'.look
    exact PySem.W.cmp_K (op := .Eq) (tb := .ref C) hr.units0 hF I.ok.mod.kin J J'.type (by simp [PySem.W.notFirst]) hs hf back
  · obtain rfl : u = Value.ref b := ry
    obtain ⟨_, its, _, o, ho, hc, _⟩ := (show ObjOk X.prog X.w H s.heap b (.tup xs) from I.hok b _ hb')
    exact PySem.W.cmp_K (op := .Eq) (tb := .type "tuple") hr.units0 hF I.ok.mod.kin J (fun A' Q' E' s2 k2 q2 => wpAny_typeOf_ref (k2 _ _ ho) (by rw [hc]; exact q2)) (by simp [PySem.W.notFirst, hsub]) hs hf back
/-- what a call lets out is taken, whatever the slots hold -/
theorem passN {W : WX} (tk : Takes X W) : Passes (L2.CX X.prog X.w) X (fun cls d H => ∀ σ : L2.St, σ.length = X.N.length → W cls d σ H) :=
  fun _ σ _ _ e s' I c => tk e s' (XE.of_call I (fun _ _ _ h => h σ I.len) c)
end

/-! ### try with clauses, each with a name or without one -/
structure Cl where
  cls : Value
  slot : Option Nat
  ts : Addr → Value → Option Addr → TS
/-- behind a suite its name is forgotten -/
def offName (D : Ends) (i : Nat) : Ends := ⟨fun σ H => D.nx (σ.set i none) H, D.rt, fun σ H => D.bk (σ.set i none) H, fun σ H => D.ct (σ.set i none) H⟩
def Cl.wish (q : Cl) (a : Addr) (k : Value) (d : Option Addr) (D : Ends) (σ : L2.St) (H : Hp) : Prop := match q.slot with
  | none => q.ts a k d D σ H
  | some i => q.ts a k d (offName D i) (σ.set i (some (.ref a))) H
def wX (K : PySem.W.Frag) (Wo : WX) (D : Ends) : List Cl → WX
  | [] => Wo
  | q :: r => fun k d σ H => ∃ b, PySem.W.exmOne K k q.cls = some b ∧ (b = true → ∀ a, H a = none → q.wish a k d D σ H) ∧ (b = false → wX K Wo D r k d σ H)
inductive HdsX (X : Cx) : List ExceptHandler → List Cl → Prop
  | nil : HdsX X [] []
  | un {x : Str} {c : Value} {ts : Addr → Value → Option Addr → TS} {s0 : Stmt} {su : List Stmt} {p1 p2 : Pos} {hs : List ExceptHandler} {l : List Cl} (nm : Names X x c)
      (ok : ∀ (a : Addr) (oe : Obj) (k : Value) (d : Option Addr) (pn : List (Addr × Obj)), Zc k d oe → (∃ vs, oe.data = .fields vs) → PSs (X.suite a ((a, oe) :: pn)) (s0 :: su) (ts a k d)) (r : HdsX X hs l) :
      HdsX X (.ExceptHandler (some (.Name x p1)) none (s0 :: su) p2 :: hs) (⟨c, none, ts⟩ :: l)
  | as {x n : Str} {i : Nat} {c : Value} {ts : Addr → Value → Option Addr → TS} {s0 : Stmt} {su : List Stmt} {p1 p2 : Pos} {hs : List ExceptHandler} {l : List Cl} (hi : X.N[i]? = some n) (hl : X.env.kindOf n = some .local) (nm : Names X x c)
      (ok : ∀ (a : Addr) (oe : Obj) (k : Value) (d : Option Addr) (pn : List (Addr × Obj)), Zc k d oe → (∃ vs, oe.data = .fields vs) → PSs (X.suite a ((a, oe) :: pn)) (s0 :: su) (ts a k d)) (r : HdsX X hs l) :
      HdsX X (.ExceptHandler (some (.Name x p1)) (some n) (s0 :: su) p2 :: hs) (⟨c, some i, ts⟩ :: l)
section
variable {X : Cx} {tb : WX → TS} {Wo : WX}
/-- a flight that was landed at the try: what every clause needs of it -/
structure Land (X : Cx) (pins : List (Addr × Obj)) (σ : L2.St) (H : Hp) (a : Addr) (B : Heap) (sI : Shared) (k : Value) (d : Option Addr) (s : Shared) (h : Heap) : Prop where
  ok : X.Ok
  inv : Inv X pins σ H sI
  nb : ∀ b o, sI.heap.get? b = some o → b ∉ frs X.stack → B.get? b = some o
  up : sI.heap.UpToSlots h
  fly : HandSPX.FlyingZ B (X.env :: X.outer) a (Zc k d) h
  na : H a = none
  nL : a ≠ X.env.locals
  nF : a ∉ X.fs
  os : s.os = sI.os
  ag : AllBare s.gens
theorem clauses (hst : X.stack = X.env :: X.outer) (hfr : X.env.frame = some X.env.locals) (hN : X.N.Nodup) (tk : Takes X Wo) {pins : List (Addr × Obj)} {σ : L2.St} {H : Hp} {a : Addr} {B : Heap} {sI : Shared} {k : Value} {d : Option Addr} {s : Shared} {h : Heap} {D : Ends}
    (L : Land X pins σ H a B sI k d s h) : ∀ {hds : List ExceptHandler} {l : List Cl}, HdsX X hds l → wX X.K Wo D l k d σ H → wpAny (model X.prog X.w) X.A (handleBy (.ref a) X.env hds) (SP X pins D) X.xe { s with heap := h } := by
  have Jh : Inv X pins σ H { s with heap := h } := L.inv.landed L.nb L.fly.1 L.up L.os L.ag
  -- a clause's test
  have tst : ∀ {x : Str} {c : Value} {p1 : Pos} {b : Bool} {Q : Bool → Shared → Prop} {E E2 : Value → Shared → Prop}, Names X x c → PySem.W.exmOne X.K k c = some b → Q b { s with heap := h } →
      wpAny (model X.prog X.w) (X.A.mark (some (.ref a))) (eval (.Name x p1) X.env) (fun v s1 => wpAny (model X.prog X.w) (X.A.mark (some (.ref a))) (excMatches (.ref a) v) Q E s1) E2 { s with heap := h } := by
    intro x c p1 b Q E E2 nm e q
    obtain ⟨oe, fv, g1, g2, g3⟩ := L.fly.there
    have S := Jh.suite g1 g3 L.na L.nL L.nF
    have look : PySem.W.Looks (model X.prog X.w) h (typeOf (.ref a)) k := fun A' Q' E' s2 k2 q2 => wpAny_typeOf_ref (k2 _ _ g1) (by rw [g2.1]; exact q2)
    have m := PySem.W.exm_one (M := model X.prog X.w) Jh.kIn look e
    obtain ⟨n1, n2, n3 | ⟨n3, n4, n5⟩⟩ := nm
    · exact ld_glob (X := X.suite a ((a, oe) :: (X.pn ++ pins))) S n1 n3 (m.here q) n2
    · exact ld_blt (X := X.suite a ((a, oe) :: (X.pn ++ pins))) S n1 n3 n4 (m.here q) n5 n2
  intro hds l hk
  induction hk with
  | nil =>
    intro w
    refine wpAny_handleBy_nil ?_
    obtain ⟨_, _, _, oe, fv, t0, _, _, g1, g2, g3, g4, _⟩ := id L.fly
    have out : wpAny (model X.prog X.w) X.A (setFlight (.ref a) X.env.frame) (fun _ s4 => wpAny (model X.prog X.w) X.A (throw (.ref a) : Sem Flow) (SP X pins D) X.xe s4) X.xe { s with heap := h } := by
      rw [hfr]
      exact HandSPX.setFlight_upZ L.fly fun h4 hh4 up4 => wpAny_throw (tk _ _ ⟨a, B, sI, pins, σ, H, k, d, rfl, L.inv, L.nb, L.up.trans up4, .inr (.inr (by rw [hst]; exact hh4)), L.na, L.os, L.ag, w⟩)
    have neN : ¬ ((Value.ref t0 == Value.none) = true) := by simp
    unfold PySem.passOn
    refine wpAny_bind (wpAny_field g1 g3 g4 ?_)
    rw [if_neg neN]
    first
      | exact wpAny_bind (wpAny_pure (wpAny_bind out))
      | exact wpAny_bind out
  | un nm ok r ih =>
    intro w
    obtain ⟨b, e, yes, no⟩ := w
    refine wpAny_handleBy_cons (codeAny_handlers_test (tst nm e ?_)) (by intro q; cases q)
    cases b with
    | false => exact ih (no rfl)
    | true =>
      refine codeAny_handlers_suite (HandSPX.lands_againZ L.fly fun h4 fl4 up4 => ?_)
      obtain ⟨oe, fv, g1, g2, g3⟩ := fl4.there
      have J4 : Inv X pins σ H { s with heap := h4 } := L.inv.landed L.nb fl4.1 (L.up.trans up4) L.os L.ag
      have S := J4.suite g1 g3 L.na L.nL L.nF
      refine wpAny_mono ((ok a oe k d (X.pn ++ pins) g2 ⟨_, g3⟩).run [] _ _ H _ S (yes rfl a L.na)) (fun f s6 z => ?_) (fun _ _ z => z.elim)
      match f, z with
      | .next, ⟨_, _, z, q⟩ => exact ⟨_, _, z.unsuite L.ok, q⟩
      | .brk, ⟨_, _, z, q⟩ => exact ⟨_, _, z.unsuite L.ok, q⟩
      | .cont, ⟨_, _, z, q⟩ => exact ⟨_, _, z.unsuite L.ok, q⟩
      | .ret _, ⟨_, _, _, z, rv, q⟩ => exact ⟨_, _, _, z.unsuite L.ok, rv, q⟩
  | @as x n i c ts s0 su p1 p2 hs l hi hl nm ok r ih =>
    intro w
    obtain ⟨b, e, yes, no⟩ := w
    refine wpAny_handleBy_cons (codeAny_handlers_test (tst nm e ?_)) (by intro q; cases q)
    cases b with
    | false => exact ih (no rfl)
    | true =>
      refine codeAny_handlers_suite_as (HandSPX.lands_againZ L.fly fun h4 fl4 up4 => ?_)
      obtain ⟨oe, fv, g1, g2, g3⟩ := fl4.there
      have J4 : Inv X pins σ H { s with heap := h4 } := L.inv.landed L.nb fl4.1 (L.up.trans up4) L.os L.ag
      have S := J4.suite g1 g3 L.na L.nL L.nF
      refine store_ok (X := X.suite a ((a, oe) :: (X.pn ++ pins))) (v := .ref a) S hN hi (.inl hl) rfl (fun s5 S5 => ?_) (.inr hl)
      refine wpAny_mono ((ok a oe k d (X.pn ++ pins) g2 ⟨_, g3⟩).run [] s5 _ H _ S5 (yes rfl a L.na)) (fun f s6 z => ?_) (fun _ _ z => z.elim)
      have off : ∀ {σ6 : L2.St} {H6 : Hp} {Q : Shared → Prop}, Inv (X.suite a ((a, oe) :: (X.pn ++ pins))) [] σ6 H6 s6 → (∀ s7, Inv X pins (σ6.set i none) H6 s7 → Q s7) →
          wpAny (model X.prog X.w) X.A (do bindName X.env n .none; unbindBehindTheSuite X.env n p2) (fun _ s7 => Q s7) X.xe s6 := fun z hq => gone_ok (z.unsuite L.ok) hN hi hl hq
      match f, z with
      | .next, ⟨_, _, z, q⟩ => exact off z fun s7 J => ⟨_, _, J, q⟩
      | .brk, ⟨_, _, z, q⟩ => exact off z fun s7 J => ⟨_, _, J, q⟩
      | .cont, ⟨_, _, z, q⟩ => exact off z fun s7 J => ⟨_, _, J, q⟩
      | .ret _, ⟨_, _, _, z, rv, q⟩ => exact off z fun s7 J => ⟨_, _, _, J, rv, q⟩
theorem ps_try_x {body : List Stmt} {h0 : ExceptHandler} {hds : List ExceptHandler} {l : List Cl} {pos : Pos} (hst : X.stack = X.env :: X.outer) (hfr : X.env.frame = some X.env.locals) (hN : X.N.Nodup) (tk : Takes X Wo)
    (hb : ∀ (W : WX) (pn : List (Addr × Obj)) (xe : Value → Shared → Prop), Takes (X.tr pn xe) W → PassesOwn (model X.prog X.w) X.A X.env xe → PSs (X.tr pn xe) body (tb W)) (hh : HdsX X (h0 :: hds) l) :
    PS X (.Try body (h0 :: hds) [] [] pos) (fun D σ H => tb (wX X.K Wo D l) D σ H) := by
  refine ⟨fun pins s σ H D I w => wpAny_Try_except ?_⟩
  have ok := I.ok
  refine wpAny_mono ((hb (wX X.K Wo D l) (X.pn ++ pins) (fun e s1 => wpAny (model X.prog X.w) X.A (noteFrame e X.env) (fun _ s2 => wpAny (model X.prog X.w) X.A (setFlight e none) (fun _ s3 =>
    wpAny (model X.prog X.w) X.A (handleBy e X.env (h0 :: hds)) (SP X pins D) X.xe s3) X.xe s2) X.xe s1) (fun u s' q => ?_) PassesOwn.looking).run [] s σ H D (I.toTry _) w) (fun f s1 z => ?_) (fun _ _ z => z)
  · obtain ⟨a, B, sI, pi, σ', H', k, d, rfl, J', nb, up, sky, na, os, ag, w'⟩ := q
    have J := J'.ofTry (X := X) ok
    rw [show (X.tr (X.pn ++ pins) _).stack = X.stack from rfl, hst] at sky
    show wpAny (model X.prog X.w) X.A (noteFrame (.ref a) X.env) _ _ _
    refine Sky.land Zc.steady (by rw [ok.frames, hst]) hfr sky fun h3 fl3 up3 => ?_
    obtain ⟨oe, fv, g1, g2, g3⟩ := fl3.there
    have far : a ∉ frs (X.env :: X.outer) := fun hm => by
      obtain ⟨_, o', e', nf⟩ := fl3.2.2.1.mem hm
      exact nf _ ((Option.some.inj (g1.symm.trans e')) ▸ g3)
    refine clauses hst hfr hN tk ⟨ok, J, nb, up.trans up3, fl3, na, fun z => far ?_, fun hm => far ?_, os, ag⟩ hh w'
    · exact List.mem_filterMap.mpr ⟨X.env, List.mem_cons_self, by rw [hfr, z]⟩
    · obtain ⟨e2, he2, q2⟩ := List.mem_filterMap.mp hm
      exact List.mem_filterMap.mpr ⟨e2, List.mem_cons_of_mem _ he2, q2⟩
  · match f, z with
    | .next, ⟨_, _, z, q⟩ => exact wpAny_execs_nil ⟨_, _, z.ofTry ok, q⟩
    | .brk, ⟨_, _, z, q⟩ => exact ⟨_, _, z.ofTry ok, q⟩
    | .cont, ⟨_, _, z, q⟩ => exact ⟨_, _, z.ofTry ok, q⟩
    | .ret _, ⟨_, _, _, z, rv, q⟩ => exact ⟨_, _, _, z.ofTry ok, rv, q⟩
end

/-! ### what stands where a value points -/
theorem AnyV.at {T : Addr → Prop} {H H1 : Hp} {c : Addr} {o : HO} (a : AnyV T H (.ref c)) (S : Same H H1) (e : H1 c = some o) : H c = some o := by
  cases a with
  | lst e2 => rw [S _ _ e2] at e; rw [← e]; exact e2
  | tup e2 => rw [S _ _ e2] at e; rw [← e]; exact e2
  | dct e2 => rw [S _ _ e2] at e; rw [← e]; exact e2
  | ins t e2 => rw [S _ _ e2] at e; rw [← e]; exact e2
/-- the things of the tuple x -/
def tupOf (H : Hp) (x : V) : Option (List V) := match x with
  | .ref c => match H c with
    | some (.tup ys) => some ys
    | _ => none
  | _ => none
theorem tupOf_ref {H : Hp} {c : Addr} {ys : List V} (h : H c = some (.tup ys)) : tupOf H (.ref c) = some ys := by
  show (match H c with | some (.tup ys) => some ys | _ => none) = _
  rw [h]
theorem tupOf_some {H : Hp} {x : V} {ys : List V} (h : tupOf H x = some ys) : ∃ c, x = .ref c ∧ H c = some (.tup ys) := by
  cases x with
  | ref c =>
    refine ⟨c, rfl, ?_⟩
    have h2 : (match H c with | some (.tup ys) => some ys | _ => none) = some ys := h
    split at h2
    · rename_i zs e
      cases h2
      exact e
    · cases h2
  | _ => cases h
theorem tupOf_same {T : Addr → Prop} {H H2 : Hp} {x : V} (a : AnyV T H x) (S : Same H H2) : tupOf H2 x = tupOf H x := by
  cases e : tupOf H x with
  | some ys =>
    obtain ⟨c, rfl, h⟩ := tupOf_some e
    exact tupOf_ref (S _ _ h)
  | none =>
    cases e2 : tupOf H2 x with
    | none => rfl
    | some ys =>
      obtain ⟨c, rfl, h⟩ := tupOf_some e2
      rw [tupOf_ref (a.at S h)] at e
      cases e
/-- its things are any values -/
def ItemsAny (T : Addr → Prop) (H : Hp) (x : V) : Prop := ∀ ys, tupOf H x = some ys → ∀ y ∈ ys, AnyV T H y
theorem ItemsAny.same {T : Addr → Prop} {H H2 : Hp} {x : V} (h : ItemsAny T H x) (a : AnyV T H x) (S : Same H H2) : ItemsAny T H2 x := fun ys e y hy => by
  rw [tupOf_same a S] at e
  exact (h ys e y hy).mono S
theorem ItemsAny.ints {T : Addr → Prop} {H : Hp} {c : Addr} {ns : List Int} (h : H c = some (.tup (ns.map V.int))) : ItemsAny T H (.ref c) := fun ys e y hy => by
  rw [tupOf_ref h] at e
  cases e
  obtain ⟨z, _, rfl⟩ := List.mem_map.mp hy
  exact .int z
theorem ItemsAny.non {T : Addr → Prop} {H : Hp} {x : V} (h : tupOf H x = none) : ItemsAny T H x := fun ys e => by
  rw [h] at e
  cases e
/-- the place of the first thing that is no integer from a to b -/
def firstW (a b : Int) : List V → Option Nat
  | [] => none
  | y :: ys => if intIn y a b = true then (firstW a b ys).map (· + 1) else some 0
theorem firstW_none {a b : Int} : ∀ {ys : List V}, (∀ y ∈ ys, intIn y a b = true) → firstW a b ys = none
  | [], _ => rfl
  | y :: ys, h => by
    unfold firstW
    rw [if_pos (h y List.mem_cons_self), firstW_none fun z hz => h z (List.mem_cons_of_mem _ hz)]
    rfl
theorem firstW_all {a b : Int} : ∀ {ys : List V}, firstW a b ys = none → ∀ y ∈ ys, intIn y a b = true
  | [], _, _, hy => by cases hy
  | z :: ys, h, y, hy => by
    unfold firstW at h
    by_cases e : intIn z a b = true
    · rw [if_pos e] at h
      rcases List.mem_cons.mp hy with rfl | hy
      · exact e
      · exact firstW_all (Option.map_eq_none_iff.mp h) y hy
    · rw [if_neg e] at h
      cases h
theorem firstW_at {a b : Int} : ∀ {ys : List V} {i : Nat} {y : V}, (∀ (j : Nat) (z : V), j < i → ys[j]? = some z → intIn z a b = true) → ys[i]? = some y → intIn y a b = false → firstW a b ys = some i
  | [], i, y, _, h, _ => by cases h
  | z :: ys, 0, y, _, h, e => by
    cases h
    unfold firstW
    rw [if_neg (by rw [e]; exact Bool.false_ne_true)]
  | z :: ys, i + 1, y, h0, h, e => by
    unfold firstW
    rw [if_pos (h0 0 z (Nat.succ_pos _) rfl), firstW_at (i := i) (y := y) (fun j x hj hx => h0 (j + 1) x (Nat.succ_lt_succ hj) hx) h e]
    rfl
theorem firstW_lt {a b : Int} : ∀ {ys : List V} {i : Nat}, firstW a b ys = some i → i < ys.length
  | [], _, h => by cases h
  | y :: ys, i, h => by
    unfold firstW at h
    by_cases e : intIn y a b = true
    · rw [if_pos e] at h
      obtain ⟨j, hj, rfl⟩ := Option.map_eq_some_iff.mp h
      exact Nat.succ_lt_succ (firstW_lt hj)
    · rw [if_neg e] at h
      cases h
      exact Nat.succ_pos _
theorem firstW_some {a b : Int} : ∀ {ys : List V} {i : Nat}, firstW a b ys = some i → (∀ (j : Nat) (z : V), j < i → ys[j]? = some z → intIn z a b = true) ∧ ∃ y, ys[i]? = some y ∧ intIn y a b = false
  | [], _, h => by cases h
  | y :: ys, i, h => by
    unfold firstW at h
    by_cases e : intIn y a b = true
    · rw [if_pos e] at h
      obtain ⟨j, hj, rfl⟩ := Option.map_eq_some_iff.mp h
      obtain ⟨h1, z, h2, h3⟩ := firstW_some hj
      refine ⟨fun m v hm hv => ?_, z, h2, h3⟩
      cases m with
      | zero =>
        cases hv
        exact e
      | succ m => exact h1 m v (by omega) hv
    · rw [if_neg e] at h
      cases h
      exact ⟨fun m v hm => absurd hm (Nat.not_lt_zero _), y, rfl, by simpa using e⟩
/-- what is wrong of a tuple of lo to hi integers from a to b: nothing, None, or the first wrong place -/
def verdict (lo hi : Nat) (a b : Int) (o : Option (List V)) : Option V := match o with
  | none => some .non
  | some ys => if lo ≤ ys.length ∧ ys.length ≤ hi then (firstW a b ys).map fun i => .int (i : Nat) else some .non
theorem verdict_some (lo hi : Nat) (a b : Int) (ys : List V) : verdict lo hi a b (some ys) = if lo ≤ ys.length ∧ ys.length ≤ hi then (firstW a b ys).map fun i => .int (i : Nat) else some .non := rfl
theorem verdict_good {lo hi : Nat} {a b : Int} {ys : List V} (l1 : lo ≤ ys.length) (l2 : ys.length ≤ hi) (h : ∀ y ∈ ys, intIn y a b = true) : verdict lo hi a b (some ys) = none := by
  rw [verdict_some, if_pos ⟨l1, l2⟩, firstW_none h]
  rfl
theorem verdict_none {lo hi : Nat} {a b : Int} {o : Option (List V)} (h : verdict lo hi a b o = none) : ∃ ys, o = some ys ∧ lo ≤ ys.length ∧ ys.length ≤ hi ∧ ∀ y ∈ ys, intIn y a b = true := by
  cases o with
  | none => cases h
  | some ys =>
    rw [verdict_some] at h
    by_cases l : lo ≤ ys.length ∧ ys.length ≤ hi
    · rw [if_pos l] at h
      exact ⟨ys, rfl, l.1, l.2, firstW_all (Option.map_eq_none_iff.mp h)⟩
    · rw [if_neg l] at h
      cases h

/-! ### for over a list or a tuple -/
end
end Rt
namespace L2
open PySem PySem.Spec PyProof.Rows
def iSeqA (K : PySem.W.Frag) (tl : TE) : TI := fun σ H R => iList K tl σ H R ∨ iTup K tl σ H R
theorem pi_seqA {X : Cx} {tg l : PySem.Expr} {tl : TE} (hl : PE X l tl) : PI X tg l (iSeqA X.K tl) :=
  ⟨fun pins s σ H R I h => h.elim ((pi_list hl).run pins s σ H R I) ((pi_tup hl).run pins s σ H R I)⟩
def iEnumA (K : PySem.W.Frag) (ta : TA) : TI := fun σ H R => iEnum K ta σ H R ∨ iEnumT K ta σ H R
theorem pi_enumA {X : Cx} {e : PySem.Expr} {ta : TA} {p pos tpos : Pos} {elts : List PySem.Expr} {kk : Nat} (hg : Gl X "enumerate") (hm : X.mg "enumerate" = none) (ha : PA X [e] ta) (hs : starEach [e] X.env = [(false, eval e X.env)] := by rfl) :
    PI X (.Tuple elts kk tpos) (.Call (.Name "enumerate" p) [e] [] pos) (iEnumA X.K ta) :=
  ⟨fun pins s σ H R I h => h.elim ((pi_enum hg hm ha hs).run pins s σ H R I) ((pi_enumT hg hm ha hs).run pins s σ H R I)⟩
/-- a list or a tuple stands at c -/
def SqA (H : Hp) (c : Addr) (ys : List V) : Prop := H c = some (.lst ys) ∨ H c = some (.tup ys)
theorem SqA.same {H H2 : Hp} {c : Addr} {ys : List V} (h : SqA H c ys) (S : Same H H2) : SqA H2 c ys := h.imp (S _ _) (S _ _)
theorem SqA.len {K : PySem.W.Frag} {H : Hp} {c : Addr} {ys : List V} (h : SqA H c ys) : SqL K H c ys ∨ SqT K H c ys := h.imp SqL.of SqT.of
theorem seqA_of {K : PySem.W.Frag} {i : Nat} {σ : L2.St} {H : Hp} {R : It → Hp → Prop} {c : Addr} {ys : List V} (hv : σ[i]? = some (some (.ref c))) (hc : SqA H c ys)
    (k : ∀ (J : It) (G : Hp → Prop), Walk J ys.length G (YAt ys) → (∀ H2, Same H H2 → G H2) → R J H) : iSeqA K (tVar i) σ H R := by
  rcases hc with hc | hc
  · exact .inl ⟨_, hv, c, rfl, ⟨_, SqL.of hc⟩, k _ _ walk_list fun H2 S => SqL.of (S _ _ hc)⟩
  · exact .inr ⟨_, hv, c, rfl, ⟨_, SqT.of hc⟩, k _ _ walk_tup fun H2 S => SqT.of (S _ _ hc)⟩
theorem enumA_of {K : PySem.W.Frag} {i : Nat} {σ : L2.St} {H : Hp} {R : It → Hp → Prop} {c : Addr} {ys : List V} (hv : σ[i]? = some (some (.ref c))) (hc : SqA H c ys)
    (k : ∀ (J : It) (G : Hp → Prop), Walk J ys.length G (YPair (fun i => some (.int (i : Nat))) (fun i => ys[i]?)) → (∀ H2, Same H H2 → G H2) → R J H) : iEnumA K (tCons (tVar i) tNil) σ H R := by
  rcases hc with hc | hc
  · exact .inl ⟨_, hv, c, ys, rfl, SqL.of hc, k _ _ walk_enum fun H2 S => SqL.of (S _ _ hc)⟩
  · exact .inr ⟨_, hv, c, ys, rfl, SqT.of hc, k _ _ walk_enumT fun H2 S => SqT.of (S _ _ hc)⟩
end L2
namespace Rt
open PySem L2 PySem.Spec PyProof.Rows
section
variable {P : Program} {w : World} {K : PySem.W.Frag} {mg : Str → Option Value} {base : Heap}

/-! ### tuples of so many things; the first wrong one -/
def isTup (lo hi : Int) (o : Option (List V)) : Bool := match o with
  | none => false
  | some ys => decide (lo ≤ (ys.length : Int)) && decide ((ys.length : Int) ≤ hi)
theorem isi_tup (T : Tx P K mg) {H : Hp} {x : V} (a : AnyV (OwnT T) H x) : ∃ t, TyX K H x t ∧ ∃ b, PySem.W.kitOne K t (.type "tuple") = some b ∧ (b = false → tupOf H x = none) ∧ (b = true → ∃ c ys, x = .ref c ∧ H c = some (.tup ys)) := by
  have no : ∀ {c : Addr} {o : HO}, H c = some o → (∀ ys, o ≠ .tup ys) → tupOf H (.ref c) = none := fun {c o} e h => by
    cases q : tupOf H (.ref c) with
    | none => rfl
    | some ys =>
      obtain ⟨c', e1, e2⟩ := tupOf_some q
      cases e1
      rw [e] at e2
      exact absurd (Option.some.inj e2) (h ys)
  cases a with
  | non => exact ⟨_, .base .non, false, kit_ty (by decide +kernel), fun _ => rfl, fun z => nomatch z⟩
  | bl b => exact ⟨_, .base (.bl b), false, kit_ty (by decide +kernel), fun _ => rfl, fun z => nomatch z⟩
  | int i => exact ⟨.type "int", .base (.int i), false, kit_ty (by decide +kernel), fun _ => rfl, fun z => nomatch z⟩
  | str x => exact ⟨_, .base (.str x), false, kit_ty (by decide +kernel), fun _ => rfl, fun z => nomatch z⟩
  | lst e => exact ⟨_, .base (.lst e), false, kit_ty (by decide +kernel), fun _ => no e (fun _ z => nomatch z), fun z => nomatch z⟩
  | tup e => exact ⟨_, .base (.tup e), true, kit_ty (by decide +kernel), fun z => (nomatch z), fun _ => ⟨_, _, rfl, e⟩⟩
  | dct e => exact ⟨_, .base (.dK e), false, kit_ty (by decide +kernel), fun _ => no e (fun _ z => nomatch z), fun z => nomatch z⟩
  | ins t e => exact ⟨_, .base (t.ty e), false, t.ntuple, fun _ => no e (fun _ z => nomatch z), fun z => nomatch z⟩

/-! ### lists and tuples -/
def seqOf (H : Hp) (x : V) : Option (List V) := match x with
  | .ref c => match H c with
    | some (.tup ys) => some ys
    | some (.lst ys) => some ys
    | _ => none
  | _ => none
theorem seqOf_at {H : Hp} {c : Addr} {ys : List V} (h : SqA H c ys) : seqOf H (.ref c) = some ys := by
  show (match H c with | some (.tup ys) => some ys | some (.lst ys) => some ys | _ => none) = _
  rcases h with h | h <;> rw [h]
theorem seqOf_some {H : Hp} {x : V} {ys : List V} (h : seqOf H x = some ys) : ∃ c, x = .ref c ∧ SqA H c ys := by
  cases x with
  | ref c =>
    refine ⟨c, rfl, ?_⟩
    have h2 : (match H c with | some (.tup ys) => some ys | some (.lst ys) => some ys | _ => none) = some ys := h
    split at h2
    · rename_i zs e
      cases h2
      exact .inr e
    · rename_i zs e
      cases h2
      exact .inl e
    · cases h2
  | _ => cases h
theorem seqOf_same {T : Addr → Prop} {H H2 : Hp} {x : V} (a : AnyV T H x) (S : Same H H2) : seqOf H2 x = seqOf H x := by
  cases e : seqOf H x with
  | some ys =>
    obtain ⟨c, rfl, h⟩ := seqOf_some e
    exact seqOf_at (h.same S)
  | none =>
    cases e2 : seqOf H2 x with
    | none => rfl
    | some ys =>
      obtain ⟨c, rfl, h⟩ := seqOf_some e2
      rw [seqOf_at (show SqA H c ys from h.imp (a.at S) (a.at S))] at e
      cases e
theorem isi_seq (T : Tx P K mg) {H : Hp} {x : V} (a : AnyV (OwnT T) H x) : ∃ t, TyX K H x t ∧ ∃ b, PySem.W.kitAny K t [.type "list", .type "tuple"] = some b ∧ (b = false → seqOf H x = none) ∧ (b = true → ∃ c ys, x = .ref c ∧ SqA H c ys) := by
  have no : ∀ {t : Value}, PySem.W.kitOne K t (.type "list") = some false → PySem.W.kitOne K t (.type "tuple") = some false → PySem.W.kitAny K t [.type "list", .type "tuple"] = some false := fun h1 h2 => kitAny_cons h1 (fun _ => kitAny_cons h2 (fun _ => rfl) (fun z => nomatch z)) (fun z => nomatch z)
  have un : ∀ {c : Addr} {o : HO}, H c = some o → (∀ ys, o ≠ .tup ys) → (∀ ys, o ≠ .lst ys) → seqOf H (.ref c) = none := fun {c o} e h1 h2 => by
    cases q : seqOf H (.ref c) with
    | none => rfl
    | some ys =>
      obtain ⟨c', e1, e2⟩ := seqOf_some q
      cases e1
      rcases e2 with e2 | e2
      · rw [e] at e2
        exact absurd (Option.some.inj e2) (h2 ys)
      · rw [e] at e2
        exact absurd (Option.some.inj e2) (h1 ys)
  cases a with
  | non => exact ⟨_, .base .non, false, no (kit_ty (by decide +kernel)) (kit_ty (by decide +kernel)), fun _ => rfl, fun z => nomatch z⟩
  | bl b => exact ⟨_, .base (.bl b), false, no (kit_ty (by decide +kernel)) (kit_ty (by decide +kernel)), fun _ => rfl, fun z => nomatch z⟩
  | int i => exact ⟨.type "int", .base (.int i), false, no (kit_ty (by decide +kernel)) (kit_ty (by decide +kernel)), fun _ => rfl, fun z => nomatch z⟩
  | str x => exact ⟨_, .base (.str x), false, no (kit_ty (by decide +kernel)) (kit_ty (by decide +kernel)), fun _ => rfl, fun z => nomatch z⟩
  | lst e => exact ⟨_, .base (.lst e), true, kitAny_cons (b := true) (kit_ty (by decide +kernel)) (fun z => nomatch z) (fun _ => rfl), fun z => (nomatch z), fun _ => ⟨_, _, rfl, .inl e⟩⟩
  | tup e => exact ⟨_, .base (.tup e), true, kitAny_cons (b := false) (kit_ty (by decide +kernel)) (fun _ => kitAny_cons (b := true) (kit_ty (by decide +kernel)) (fun z => nomatch z) (fun _ => rfl)) (fun z => nomatch z), fun z => (nomatch z), fun _ => ⟨_, _, rfl, .inr e⟩⟩
  | dct e => exact ⟨_, .base (.dK e), false, no (kit_ty (by decide +kernel)) (kit_ty (by decide +kernel)), fun _ => un e (fun _ z => nomatch z) (fun _ z => nomatch z), fun z => nomatch z⟩
  | ins t e => exact ⟨_, .base (t.ty e), false, no t.nlist t.ntuple, fun _ => un e (fun _ z => nomatch z) (fun _ z => nomatch z), fun z => nomatch z⟩
def spIsSeq (T : Tx P K mg) : Sp := fun vs H Q _ => ∃ (x : V) (lo hi : Int), vs = [x, .int lo, .int hi] ∧ AnyV (OwnT T) H x ∧ ∀ H2, Same H H2 → Q (.bl (isTup lo hi (seqOf H x))) H2
theorem ok_is_list_or_tuple (T : Tx P K mg) : FnOk P w K mg base CX0 lv_is_list_or_tuple T.a_is_list_or_tuple T.d_is_list_or_tuple ["told", "fewest", "most"] (spIsSeq T) := by
  refine T.F_is_list_or_tuple.ok sc_is_list_or_tuple (fun vs H Q E h => ?_) (fun cdv A outer s H vs Q E hr h => ?_)
  · obtain ⟨x, lo, hi, rfl, _⟩ := h
    rfl
  · obtain ⟨x, lo, hi, rfl, a, k⟩ := h
    refine ⟨_, (pss_one (ps_ret (pe_and (pe_callB call_isiT (by rfl) T.n_isinstance (by decide +kernel) (pa_cons (pv 0) (pa_cons (pe_tup (pa_cons (pe_bltn (v := .ty "list") rfl T.n_list (by decide +kernel) rfl) (pa_cons (pe_bltn (v := .ty "tuple") rfl T.n_tuple (by decide +kernel) rfl) pa_nil))) pa_nil))) (pe_one (pe_chain op_le op_le (pv 1) (pe_callB call_len_seq (by rfl) T.n_len (by decide +kernel) (pa_cons (pv 0) pa_nil)) (pv 2)))))), ?_⟩
    refine ⟨_, rfl, by show 2 ≤ sizeLine; decide, fun tp htp => ?_⟩
    have S := same_upd (o := .tup [.ty "list", .ty "tuple"]) htp
    have k := k _ S
    rw [← seqOf_same a S] at k
    have a2 := a.mono S
    obtain ⟨t, ty, q, e1, h1, h2⟩ := isi_seq T a2
    refine ⟨x, tp, _, t, _, q, rfl, upd_same, .cons (.ty _) (.cons (.ty _) .nil), ty, e1, q, rfl, ?_⟩
    cases q with
    | false =>
      rw [h1 rfl] at k
      exact iteF k
    | true =>
      obtain ⟨c, ys, rfl, e⟩ := h2 rfl
      rw [seqOf_at e] at k
      have k : Q (V.bl (decide (lo ≤ (ys.length : Int)) && decide ((ys.length : Int) ≤ hi))) _ := k
      refine iteT ⟨_, rfl, _, rfl, c, ys, rfl, e.len, _, _, rfl, rfl, _, rfl, ?_⟩
      refine ite2 (fun g1 => ?_) (fun g1 => ?_)
      · rw [g1] at k
        exact ⟨_, rfl, _, _, rfl, rfl, k⟩
      · rw [show decide (lo ≤ (ys.length : Int)) = false from by simpa using g1] at k
        exact k

/-! ### pairs -/
def pairOk (H : Hp) (x : V) : Bool := match tupOf H x with
  | some [y, z] => intIn y (-(10 ^ 40)) (10 ^ 40) && intIn z (-(10 ^ 40)) (10 ^ 40)
  | _ => false
theorem pairOk_at {H : Hp} {x y z : V} (h : tupOf H x = some [y, z]) : pairOk H x = (intIn y (-(10 ^ 40)) (10 ^ 40) && intIn z (-(10 ^ 40)) (10 ^ 40)) := by
  unfold pairOk
  rw [h]
theorem pairOk_no {H : Hp} {x : V} (h : ∀ y z, tupOf H x ≠ some [y, z]) : pairOk H x = false := by
  unfold pairOk
  split
  · rename_i y z e
    exact absurd e (h y z)
  · rfl
theorem pairOk_same {T : Addr → Prop} {H H2 : Hp} {x : V} (a : AnyV T H x) (S : Same H H2) : pairOk H2 x = pairOk H x := by
  unfold pairOk
  rw [tupOf_same a S]
def spIsPair (T : Tx P K mg) : Sp := fun vs H Q _ => ∃ x : V, vs = [x] ∧ AnyV (OwnT T) H x ∧ ItemsAny (OwnT T) H x ∧ Q (.bl (pairOk H x)) H
theorem ok_is_pair (T : Tx P K mg) : FnOk P w K mg base CX0 lv_is_pair T.a_is_pair T.d_is_pair ["told"] (spIsPair T) := by
  refine T.F_is_pair.ok sc_is_pair (fun vs H Q E h => ?_) (fun cdv A outer s H vs Q E hr h => ?_)
  · obtain ⟨x, rfl, _⟩ := h
    rfl
  · obtain ⟨x, rfl, a, ia, k⟩ := h
    refine ⟨_, (pss_one (ps_ret (pe_and (pe_callB call_isi (by rfl) T.n_isinstance (by decide +kernel) (pa_cons (pv 0) (pa_cons (pe_bltn (v := .ty "tuple") rfl T.n_tuple (by decide +kernel) rfl) pa_nil))) (pe_and (pe_cmpR op_eq (pe_callB call_len_seq (by rfl) T.n_len (by decide +kernel) (pa_cons (pv 0) pa_nil)) pe_int (nomark _)) (pe_and (pe_call (ok_is_number T) (hr.mono (by decide)) rfl T.g_is_number T.F_is_number.kp T.b_is_number .nil pass0 (pa_cons (pe_ix ix_tup (pv 0) pe_int (fun _ _ => rfl)) pa_nil)) (pe_one (pe_call (ok_is_number T) (hr.mono (by decide)) rfl T.g_is_number T.F_is_number.kp T.b_is_number .nil pass0 (pa_cons (pe_ix ix_tup (pv 0) pe_int (fun _ _ => rfl)) pa_nil)))))))), ?_⟩
    obtain ⟨t, ty, q, e1, h1, h2⟩ := isi_tup T a
    refine ⟨_, rfl, _, _, _, _, q, rfl, .ty _, ty, e1, q, rfl, ?_⟩
    cases q with
    | false =>
      rw [pairOk_no (fun y z => by rw [h1 rfl]; exact fun w => nomatch w)] at k
      exact iteF k
    | true =>
      obtain ⟨c, ys, rfl, e⟩ := h2 rfl
      refine iteT ⟨_, rfl, c, ys, rfl, .inr (SqT.of e), rfl, _, rfl, ?_⟩
      rw [dec_i]
      by_cases l : ys.length = 2
      · rw [decide_eq_true (show (ys.length : Int) = 2 by omega)]
        obtain ⟨y, z, rfl⟩ : ∃ y z, ys = [y, z] := match ys, l with
          | [y, z], _ => ⟨y, z, rfl⟩
        have ay := ia _ (tupOf_ref e) y (by simp)
        have az := ia _ (tupOf_ref e) z (by simp)
        rw [pairOk_at (tupOf_ref e)] at k
        refine iteT ⟨_, rfl, c, _, _, _, rfl, rfl, SqT.of e, at_of (j := 0) rfl rfl, y, rfl, ay, _, rfl, ?_⟩
        cases g : intIn y (-(10 ^ 40)) (10 ^ 40) with
        | false =>
          rw [g] at k
          exact iteF k
        | true =>
          rw [g] at k
          exact iteT ⟨_, rfl, c, _, _, _, rfl, rfl, SqT.of e, at_of (j := 1) rfl rfl, z, rfl, az, k⟩
      · rw [decide_eq_false (show ¬ (ys.length : Int) = 2 by omega)]
        rw [pairOk_no (fun y z => by rw [tupOf_ref e]; exact fun w => l (by cases w; rfl))] at k
        exact iteF k
/-- pairs, or the error -/
def spPairs (T : Tx P K mg) : Sp := fun vs H Q E => ∃ x : V, vs = [x] ∧ AnyV (OwnT T) H x ∧ (∀ ys, seqOf H x = some ys → ∀ y ∈ ys, AnyV (OwnT T) H y ∧ ItemsAny (OwnT T) H y) ∧
  (isTup 1 10 (seqOf H x) = false → ∀ H2 d, Same H H2 → H2 d = none → E (.ref T.C_BadPairs) (some d) (upd H2 d (.xd [(("index" : Str), .non)]))) ∧
  (∀ ys, isTup 1 10 (seqOf H x) = true → seqOf H x = some ys → ∀ (i : Nat) (y : V), ys[i]? = some y → pairOk H y = false → (∀ (j : Nat) (z : V), j < i → ys[j]? = some z → pairOk H z = true) → ∀ H2 d, Same H H2 → H2 d = none → E (.ref T.C_BadPairs) (some d) (upd H2 d (.xd [(("index" : Str), .int (i : Nat))]))) ∧
  (∀ ys, isTup 1 10 (seqOf H x) = true → seqOf H x = some ys → (∀ y ∈ ys, pairOk H y = true) → ∀ H2, Same H H2 → Q .non H2)
theorem ok_check_pairs (T : Tx P K mg) : FnOk P w K mg base (L2.CX P w) lv_check_pairs T.a_check_pairs T.d_check_pairs ["pairs"] (spPairs T) := by
  refine T.F_check_pairs.okX sc_check_pairs (fun vs H Q E h => ?_) (fun cdv A outer s H vs Q E hr h => ?_)
  · obtain ⟨x, rfl, _⟩ := h
    rfl
  · obtain ⟨x, rfl, a, ia, e1, e2, k⟩ := h
    refine ⟨_, (pss_cons (ps_if (pt_not (pt_val (pe_call (ok_is_list_or_tuple T) (hr.mono (by decide)) rfl T.g_is_list_or_tuple T.F_is_list_or_tuple.kp T.b_is_list_or_tuple .nil pass0 (pa_cons (pv 0) (pa_cons pe_int (pa_cons (pe_glob (v := .int 10) rfl T.c_MOST_PAIRS ⟨_, rfl⟩) pa_nil)))))) (pss_one (ps_raiseF T.x_BadPairs ar_BadPairs rfl hr (takes_of rfl rfl rfl rfl) (pa_cons pe_non pa_nil))) pss_nil)
      (pss_one (ps_for (passes_of rfl) rfl (pi_enumA (by rfl) T.n_enumerate (pa_cons (pv 0) pa_nil)) (pg_tup rfl (pgs_cons (pg_name (i := 1) sc_check_pairs.nd rfl (Or.inl rfl)) (pgs_cons (pg_name (i := 2) sc_check_pairs.nd rfl (Or.inl rfl)) pgs_nil))) (pss_one (ps_if (pt_not (pt_val (pe_call (ok_is_pair T) (hr.mono (by decide)) rfl T.g_is_pair T.F_is_pair.kp T.b_is_pair .nil pass0 (pa_cons (pv 2) pa_nil)))) (pss_one (ps_raiseF T.x_BadPairs ar_BadPairs rfl hr (takes_of rfl rfl rfl rfl) (pa_cons (pv 1) pa_nil))) pss_nil))))), ?_⟩
    refine ⟨_, rfl, x, 1, 10, rfl, a, fun H1 S1 => ⟨_, rfl, ?_⟩⟩
    cases g : isTup 1 10 (seqOf H x) with
    | false => exact iteT ⟨_, rfl, .inl rfl, fun d hd => e1 g H1 d S1 hd⟩
    | true =>
      refine iteF ?_
      cases es : seqOf H x with
      | none => rw [es] at g; cases g
      | some ys =>
        obtain ⟨c, rfl, hc⟩ := seqOf_some es
        have ln : ys.length ≤ 10 := by
          rw [es] at g
          have g2 : (decide ((1 : Int) ≤ (ys.length : Int)) && decide ((ys.length : Int) ≤ 10)) = true := g
          rw [Bool.and_eq_true, decide_eq_true_eq, decide_eq_true_eq] at g2
          omega
        refine enumA_of rfl (hc.same S1) fun J G wk hG => ?_
        refine for_it wk (fun i σ H2 => ∃ v1 v2 : Option V, Same H1 H2 ∧ (∀ (j : Nat) (z : V), j < i → ys[j]? = some z → pairOk H z = true) ∧ σ = [some (.ref c), v1, v2]) ⟨none, none, Same.refl H1, fun j z lt _ => absurd lt (Nat.not_lt_zero _), rfl⟩ (fun i σ H2 _ ⟨_, _, S, _, _⟩ => hG H2 S) ?_ ?_
        · rintro i x' σ H2 H3 hi ⟨v1, v2, S, hf, rfl⟩ ⟨p, x2, y, rfl, np, rfl, e2', hy'⟩
          cases e2'
          have hy' : ys[i]? = some y := hy'
          refine ⟨p, _, rfl, SqT.of upd_same, rfl, _, _, rfl, _, _, rfl, rfl, ?_⟩
          have S3 := (S1.trans S).trans (same_upd (o := .tup [.int (i : Nat), y]) np)
          obtain ⟨ay, iy⟩ := ia ys es y (List.mem_of_getElem? hy')
          refine ⟨_, rfl, y, rfl, ay.mono S3, iy.same ay S3, _, rfl, ?_⟩
          rw [pairOk_same ay S3]
          cases gp : pairOk H y with
          | true =>
            refine iteF ⟨_, _, S.trans (same_upd np), fun j z lt hz => ?_, rfl⟩
            rcases Nat.lt_or_ge j i with q | q
            · exact hf j z q hz
            · rw [show j = i by omega, hy'] at hz
              cases hz
              exact gp
          | false =>
            have li : i < ys.length := (List.getElem?_eq_some_iff.mp hy').1
            have sm : ((i : Int)).natAbs.log2 < 1920 := Nat.lt_of_le_of_lt (Nat.log2_le_self _) (by omega)
            exact iteT ⟨_, rfl, _, rfl, .inr ⟨_, rfl, sm⟩, fun d hd => e2 ys g es i y hy' gp hf _ d S3 hd⟩
        · rintro σ H2 ⟨v1, v2, S, hf, rfl⟩
          exact k ys g es (fun y hy => by
            obtain ⟨j, hj⟩ := List.mem_iff_getElem?.mp hy
            exact hf j y (List.getElem?_eq_some_iff.mp hj).1 hj) H2 (S1.trans S)

/-! ### the block -/
def blockOf (b t : Int) : Int := if t = 1 then b else b * b
theorem block_bd {b t : Int} (h1 : 2 ≤ b) (h2 : b ≤ 16) : 2 ≤ blockOf b t ∧ blockOf b t ≤ 256 := by
  unfold blockOf
  split
  · omega
  · have q : b * b ≤ 16 * 16 := Int.mul_le_mul h2 h2 (by omega) (by omega)
    have r : 2 * 2 ≤ b * b := Int.mul_le_mul h1 h1 (by omega) (by omega)
    omega
theorem pow_block {b t : Int} (t1 : 1 ≤ t) (t2 : t ≤ 2) : b ^ t.toNat = blockOf b t := by
  unfold blockOf
  by_cases h : t = 1
  · rw [if_pos h, h]
    exact Int.pow_succ b 0 |>.trans (by rw [Int.pow_zero, Int.one_mul])
  · have h2 : t = 2 := by omega
    rw [if_neg h, h2]
    exact Int.pow_succ b 1 |>.trans (by rw [Int.pow_succ, Int.pow_zero, Int.one_mul])

/-! ### tricks -/
def spBlockOf : Sp := fun vs H Q _ => ∃ b t : Int, vs = [.int b, .int t] ∧ 2 ≤ b ∧ b ≤ 16 ∧ Q (.int (blockOf b t)) H
theorem ok_block_of (T : Tx P K mg) : FnOk P w K mg base CX0 lv_block_of T.a_block_of T.d_block_of ["base", "take"] spBlockOf := by
  refine T.F_block_of.ok sc_block_of (fun vs H Q E h => ?_) (fun cdv A outer s H vs Q E hr h => ?_)
  · obtain ⟨b, t, rfl, _⟩ := h
    rfl
  · obtain ⟨b, t, rfl, h1, h2, k⟩ := h
    refine ⟨_, (pss_one (ps_ret (pe_ifExp (pt_cmpR op_eq (pv 1) pe_int (nomark _)) (pv 0) (pe_op op_mul (pv 0) (pv 0))))), ?_⟩
    refine ⟨_, rfl, rfl, _, rfl, ?_⟩
    refine ite2 (fun c => ?_) (fun c => ?_)
    · have c1 : t = 1 := by simpa using c
      have k2 : Q (.int b) H := by
        have e : blockOf b t = b := by unfold blockOf; rw [if_pos c1]
        rw [e] at k
        exact k
      exact ⟨_, rfl, k2⟩
    · have c1 : ¬ t = 1 := by simpa using c
      have k2 : Q (.int (b * b)) H := by
        have e : blockOf b t = b * b := by unfold blockOf; rw [if_neg c1]
        rw [e] at k
        exact k
      exact ⟨_, rfl, _, rfl, _, _, rfl, rfl, .inl ⟨by omega, by omega⟩, k2⟩

/-! ### what is made with a block -/
def spMadeW (K : PySem.W.Frag) : Sp := fun vs H Q _ => ∃ B m n : Int, vs = [.int B, .int m, .int n] ∧ 2 ≤ B ∧ B ≤ 256 ∧ -100 ≤ m ∧ m ≤ 100 ∧ Q (.int (n / B + m * n.fmod B)) H
theorem ok_made_with (T : Tx P K mg) : FnOk P w K mg base CX0 lv_made_with T.a_made_with T.d_made_with ["block", "times", "n"] (spMadeW K) := by
  refine T.F_made_with.ok sc_made_with (fun vs H Q E h => ?_) (fun cdv A outer s H vs Q E hr h => ?_)
  · obtain ⟨B, m, n, rfl, _⟩ := h
    rfl
  · obtain ⟨B, m, n, rfl, B1, B2, m1, m2, k⟩ := h
    refine ⟨_, (pss_one (ps_ret (pe_op op_add (pe_op op_fdivW (pv 2) (pv 0)) (pe_op op_mul (pv 1) (pe_op op_modN (pv 2) (pv 0)))))), ?_⟩
    refine ⟨_, rfl, _, rfl, _, _, rfl, rfl, wide_div (show 0 < B by omega) (b := 9) (show B.natAbs < 2 ^ 9 by omega) (by decide) (by decide), ?_⟩
    exact ⟨_, rfl, _, rfl, _, rfl, _, _, rfl, rfl, (show B ≠ 0 by omega), _, _, rfl, rfl, .inl (show -(2 ^ 64) < m ∧ m < 2 ^ 64 from ⟨by omega, by omega⟩), _, _, rfl, rfl, k⟩

/-! ### which multipliers fit -/
/-- the pairs' values -/
def PairsAt2 (H : Hp) : List V → List (Int × Int) → Prop
  | [], [] => True
  | v :: vs, z :: l => (∃ p, v = .ref p ∧ H p = some (.tup [.int z.1, .int z.2])) ∧ PairsAt2 H vs l
  | _, _ => False
theorem PairsAt2.same {H H2 : Hp} (S : Same H H2) : ∀ {vs : List V} {l : List (Int × Int)}, PairsAt2 H vs l → PairsAt2 H2 vs l
  | [], [], _ => trivial
  | _ :: _, _ :: _, ⟨⟨p, e, h⟩, r⟩ => ⟨⟨p, e, S _ _ h⟩, r.same S⟩
  | [], _ :: _, h => h.elim
  | _ :: _, [], h => h.elim
theorem PairsAt2.len {H : Hp} : ∀ {vs : List V} {l : List (Int × Int)}, PairsAt2 H vs l → vs.length = l.length
  | [], [], _ => rfl
  | _ :: _, _ :: _, ⟨_, r⟩ => congrArg Nat.succ r.len
  | [], _ :: _, h => h.elim
  | _ :: _, [], h => h.elim
theorem PairsAt2.at {H : Hp} : ∀ {vs : List V} {l : List (Int × Int)}, PairsAt2 H vs l → ∀ {i : Nat} {y : V}, vs[i]? = some y → ∃ p z, y = .ref p ∧ l[i]? = some z ∧ H p = some (.tup [.int z.1, .int z.2])
  | [], [], _, i, y, h => by cases h
  | _ :: _, z :: _, ⟨⟨q, h1, h2⟩, _⟩, 0, y, h => by
    cases h
    exact ⟨q, z, h1, rfl, h2⟩
  | _ :: _, _ :: _, ⟨_, h3⟩, i + 1, y, h => h3.at (i := i) h
  | [], _ :: _, h, _, _, _ => h.elim
  | _ :: _, [], h, _, _, _ => h.elim
/-- what a block and a multiplier make -/
def mkW (B m n : Int) : Int := n / B + m * n.fmod B
def allM : List Int := (List.range 201).map fun i => (-100 : Int) + (i : Nat)
theorem rg_allM : rgV (-100) 101 = allM.map V.int := by
  unfold rgV allM
  rw [List.map_map]
  rfl
def fitM (B : Int) (zs : List (Int × Int)) : List Int := allM.filter fun m => zs.all fun z => decide (mkW B m z.1 = z.2)
theorem fitM_nil (B : Int) : fitM B [] = allM := by
  unfold fitM
  rw [List.filter_eq_self]
  exact fun _ _ => rfl
theorem fitM_snoc (B : Int) (zs : List (Int × Int)) (z : Int × Int) : fitM B (zs ++ [z]) = (fitM B zs).filter fun m => decide (mkW B m z.1 = z.2) := by
  unfold fitM
  rw [List.filter_filter]
  congr 1
  funext m
  rw [List.all_append, Bool.and_comm]
  simp
theorem fitM_mem {B m : Int} {zs : List (Int × Int)} (h : m ∈ fitM B zs) : -100 ≤ m ∧ m ≤ 100 := by
  have h1 := (List.mem_filter.mp h).1
  obtain ⟨i, hi, rfl⟩ := List.mem_map.mp h1
  have := List.mem_range.mp hi
  omega
theorem fitM_len (B : Int) (zs : List (Int × Int)) : (fitM B zs).length ≤ 201 := by
  have := List.length_filter_le (fun m => zs.all fun z => decide (mkW B m z.1 = z.2)) allM
  exact Nat.le_trans this (by decide)
theorem take_snocP {α : Type} {l : List α} {i : Nat} {z : α} (h : l[i]? = some z) : l.take (i + 1) = l.take i ++ [z] := by
  rw [List.take_succ, h]
  rfl
def spTimes (K : PySem.W.Frag) : Sp := fun vs H Q _ => ∃ (B : Int) (c : Addr) (ys : List V) (zs : List (Int × Int)), vs = [.int B, .ref c] ∧ 2 ≤ B ∧ B ≤ 256 ∧ SqA H c ys ∧ PairsAt2 H ys zs ∧
  ∀ (D : Addr) (H' : Hp), Same H H' → H D = none → H' D = some (.lst ((fitM B zs).map V.int)) → Q (.ref D) H'
theorem ok_fitting_times (T : Tx P K mg) : FnOk P w K mg base CX0 lv_fitting_times T.a_fitting_times T.d_fitting_times ["block", "pairs"] (spTimes K) := by
  refine T.F_fitting_times.ok sc_fitting_times (fun vs H Q E h => ?_) (fun cdv A outer s H vs Q E hr h => ?_)
  · obtain ⟨B, c, ys, zs, rfl, _⟩ := h
    rfl
  · obtain ⟨B, c, ys, zs, rfl, B1, B2, hc, P, k⟩ := h
    refine ⟨_, (Evl.pss_cut (ps_set (i := 2) sc_fitting_times.nd rfl (Or.inl rfl) (pe_listRg rfl (by rfl) T.n_list (prg_2 (by rfl) T.n_range (pe_un un_neg (pe_glob (v := .int 100) rfl T.c_GREATEST_TIMES ⟨_, rfl⟩)) (pe_op op_add (pe_glob (v := .int 100) rfl T.c_GREATEST_TIMES ⟨_, rfl⟩) pe_int))))
      (pss_cons (ps_for PassesOwn.never rfl (pi_seqA (pv 1)) (pg_tup rfl (pgs_cons (pg_name (i := 3) sc_fitting_times.nd rfl (Or.inr rfl)) (pgs_cons (pg_name (i := 4) sc_fitting_times.nd rfl (Or.inr rfl)) pgs_nil))) (pss_one (ps_setLc (i := 2) (own := [("times", 5)]) (g := gName 5) rfl sc_fitting_times.nd rfl rfl (sw_true rfl rfl rfl (by decide +kernel)) (pi_list (pv 2)) (blkOk_by (own := [("times", 5)]) (N := ["block", "pairs", "found", "n", "later", "times"]) (sc := defScope s_fitting_times) (by decide +kernel)) (fun _ _ _ _ _ => pg_name (i := 5) sc_fitting_times.nd rfl (Or.inl rfl)) (fun _ _ _ _ _ => pts_one (pt_cmpR op_eq (pe_call (ok_made_with T) (hr.mono (by decide)) rfl T.g_made_with T.F_made_with.kp T.b_made_with .nil pass0 (pa_cons (pv 0) (pa_cons (pv 5) (pa_cons (pv 3) pa_nil)))) (pv 4) (nomark _))) (fun _ _ _ _ _ => (pv 5)))))
      (pss_one (ps_ret (pv 2))))), ?_⟩
    refine ⟨fun σ H1 => ∃ F : Addr, Same H H1 ∧ H F = none ∧ H1 F = some (.lst (allM.map V.int)) ∧ σ = [some (.int B), some (.ref c), some (.ref F), none, none, none], ?_, ?_⟩
    · refine ⟨_, rfl, _, _, rfl, rfl, _, _, rfl, rfl, ⟨by decide, by decide, by decide, by decide, by decide⟩, fun F hF => ⟨F, same_upd hF, hF, ?_, rfl⟩⟩
      rw [upd_same]
      exact congrArg (fun l => some (HO.lst l)) rg_allM
    rintro σ H1 ⟨F, S1, hn, hF, rfl⟩
    refine seqA_of rfl (hc.same S1) fun J G wk hG => ?_
    refine for_it wk (fun i σ H2 => ∃ (F : Addr) (v3 v4 v5 : Option V), Same H1 H2 ∧ H F = none ∧ H2 F = some (.lst ((fitM B (zs.take i)).map V.int)) ∧ σ = [some (.int B), some (.ref c), some (.ref F), v3, v4, v5]) ⟨F, none, none, none, Same.refl H1, hn, by rw [List.take_zero, fitM_nil]; exact hF, rfl⟩ (fun i σ H2 _ ⟨_, _, _, _, S2, _⟩ => hG H2 S2) ?_ ?_
    · clear hF hn
      rintro i x' σ H2 H3 hin ⟨F, v3, v4, v5, S2, hn, hF, rfl⟩ ⟨rfl, hy⟩
      obtain ⟨p, z, rfl, hz, hp⟩ := P.at hy
      have hp2 := S2 _ _ (S1 _ _ hp)
      refine ⟨p, _, rfl, SqT.of hp2, rfl, _, _, rfl, _, _, rfl, rfl, ?_⟩
      refine ⟨_, rfl, F, rfl, ⟨_, SqL.of hF⟩, fun D hD => ?_⟩
      refine lc_it walk_list (fun j H4 => Same H3 H4 ∧ H4 D = some (.lst ((((fitM B (zs.take i)).take j).filter fun m => decide (mkW B m z.1 = z.2)).map V.int))) ⟨same_upd hD, by rw [upd_same]; rfl⟩ (fun j H4 _ ⟨S4, _⟩ => SqL.of (S4 _ _ hF)) ?_ ?_
      · rintro j y H4 H5 hj ⟨S4, hD4⟩ ⟨rfl, hy⟩
        rw [List.getElem?_map] at hy
        obtain ⟨m, hm, rfl⟩ := Option.map_eq_some_iff.mp hy
        obtain ⟨m1, m2⟩ := fitM_mem (List.mem_of_getElem? hm)
        refine ⟨rfl, _, rfl, _, rfl, _, rfl, B, m, z.1, rfl, B1, B2, m1, m2, _, rfl, rfl, _, rfl, ?_⟩
        have ln := List.length_filter_le (fun m => decide (mkW B m z.1 = z.2)) ((fitM B (zs.take i)).take j)
        have l2 := fitM_len B (zs.take i)
        rw [List.length_take] at ln
        rw [dec_i]
        refine ite2 (fun g => ?_) (fun g => ?_)
        · have g1 : decide (mkW B m z.1 = z.2) = true := g
          refine ⟨_, rfl, _, hD4, small1000 (by rw [List.length_map]; omega), fun c' o hc' => ?_, ?_⟩
          · rw [upd_ne (ne_of_none hc' hD)]
            exact S4 _ _ hc'
          · rw [upd_same, take_snocP hm, List.filter_append, List.map_append]
            simp only [List.filter_cons, g1, if_true, List.filter_nil]
            rfl
        · have g1 : decide (mkW B m z.1 = z.2) = false := by
            have : ¬ decide (mkW B m z.1 = z.2) = true := g
            simpa using this
          refine ⟨S4, ?_⟩
          rw [take_snocP hm, List.filter_append]
          simp only [List.filter_cons, g1, List.filter_nil]
          rw [if_neg Bool.false_ne_true, List.append_nil]
          exact hD4
      · rintro H4 ⟨S4, hD4⟩
        rw [List.length_map, List.take_length] at hD4
        refine ⟨D, _, _, _, S2.trans S4, ?_, ?_, rfl⟩
        · cases e : H D with
          | none => rfl
          | some o => rw [S2 _ _ (S1 _ _ e)] at hD; cases hD
        rw [take_snocP hz, fitM_snoc]
        exact hD4
    · rintro σ H2 ⟨F, v3, v4, v5, S2, hn, hF, rfl⟩
      rw [P.len, List.take_length] at hF
      exact ⟨_, rfl, k F H2 (S1.trans S2) hn hF⟩

/-! ### what fits -/
abbrev Tri := Int × Int × Int
def TrisAt (H : Hp) : List V → List Tri → Prop
  | [], [] => True
  | v :: vs, z :: l => (∃ p, v = .ref p ∧ H p = some (.tup [.int z.1, .int z.2.1, .int z.2.2])) ∧ TrisAt H vs l
  | _, _ => False
theorem TrisAt.of {H H2 : Hp} (S : ∀ c xs, H c = some (.tup xs) → H2 c = some (.tup xs)) : ∀ {vs : List V} {l : List Tri}, TrisAt H vs l → TrisAt H2 vs l
  | [], [], _ => trivial
  | _ :: _, _ :: _, ⟨⟨p, e, h⟩, r⟩ => ⟨⟨p, e, S _ _ h⟩, r.of S⟩
  | [], _ :: _, h => h.elim
  | _ :: _, [], h => h.elim
theorem TrisAt.snoc {H : Hp} {q : Addr} {z : Tri} (hq : H q = some (.tup [.int z.1, .int z.2.1, .int z.2.2])) : ∀ {vs : List V} {l : List Tri}, TrisAt H vs l → TrisAt H (vs ++ [.ref q]) (l ++ [z])
  | [], [], _ => ⟨⟨q, rfl, hq⟩, trivial⟩
  | _ :: _, _ :: _, ⟨h1, h3⟩ => ⟨h1, h3.snoc hq⟩
  | [], _ :: _, h => h.elim
  | _ :: _, [], h => h.elim
theorem TrisAt.len {H : Hp} : ∀ {vs : List V} {l : List Tri}, TrisAt H vs l → vs.length = l.length
  | [], [], _ => rfl
  | _ :: _, _ :: _, ⟨_, r⟩ => congrArg Nat.succ r.len
  | [], _ :: _, h => h.elim
  | _ :: _, [], h => h.elim
theorem TrisAt.at {H : Hp} : ∀ {vs : List V} {l : List Tri}, TrisAt H vs l → ∀ {i : Nat} {y : V}, vs[i]? = some y → ∃ p z, y = .ref p ∧ l[i]? = some z ∧ H p = some (.tup [.int z.1, .int z.2.1, .int z.2.2])
  | [], [], _, i, y, h => by cases h
  | _ :: _, z :: _, ⟨⟨q, h1, h2⟩, _⟩, 0, y, h => by
    cases h
    exact ⟨q, z, h1, rfl, h2⟩
  | _ :: _, _ :: _, ⟨_, h3⟩, i + 1, y, h => h3.at (i := i) h
  | [], _ :: _, h, _, _, _ => h.elim
  | _ :: _, [], h, _, _, _ => h.elim
def fit2 (zs : List (Int × Int)) (b t : Int) : List Tri := (fitM (blockOf b t) zs).map fun m => (b, t, m)
def fit1 (zs : List (Int × Int)) (b : Int) (j : Nat) : List Tri := (List.range j).flatMap fun (y : Nat) => fit2 zs b (1 + (y : Int))
def fit0 (zs : List (Int × Int)) (i : Nat) : List Tri := (List.range i).flatMap fun (x : Nat) => fit1 zs (2 + (x : Int)) 2
theorem fit1_succ (zs : List (Int × Int)) (b : Int) (j : Nat) : fit1 zs b (j + 1) = fit1 zs b j ++ fit2 zs b (1 + (j : Int)) := by
  unfold fit1
  rw [List.range_succ, List.flatMap_append, List.flatMap_singleton]
theorem fit0_succ (zs : List (Int × Int)) (i : Nat) : fit0 zs (i + 1) = fit0 zs i ++ fit1 zs (2 + (i : Int)) 2 := by
  unfold fit0
  rw [List.range_succ, List.flatMap_append, List.flatMap_singleton]
theorem fit2_len (zs : List (Int × Int)) (b t : Int) : (fit2 zs b t).length ≤ 201 := by
  unfold fit2
  rw [List.length_map]
  exact fitM_len _ _
theorem fit1_len (zs : List (Int × Int)) (b : Int) : ∀ j, (fit1 zs b j).length ≤ 201 * j
  | 0 => Nat.zero_le _
  | j + 1 => by
    rw [fit1_succ, List.length_append]
    have h1 := fit1_len zs b j
    have h2 := fit2_len zs b (1 + (j : Int))
    omega
theorem fit0_len (zs : List (Int × Int)) : ∀ i, (fit0 zs i).length ≤ 402 * i
  | 0 => Nat.zero_le _
  | i + 1 => by
    rw [fit0_succ, List.length_append]
    have h1 := fit0_len zs i
    have h2 := fit1_len zs (2 + (i : Int)) 2
    omega
theorem walk_w {J : It} {n : Nat} {G : Hp → Prop} {Y : Nat → Hp → V → Hp → Prop} {H0 : Hp} {step : V → Hp → (Hp → Prop) → Prop} {Qd : Hp → Prop} (w : Walk J n G Y) (Pv : Nat → Hp → Prop) (h0 : Pv 0 H0) (hG : ∀ i H, i ≤ n → Pv i H → G H)
    (hs : ∀ i x H H', i < n → Pv i H → Y i H x H' → step x H' (Pv (i + 1))) (hd : ∀ H, Pv n H → Qd H) :
    ∃ W : Nat → Nat → Hp → Prop, (∃ m, W 0 m H0) ∧ ∀ i m H, W i m H → (J.stop i H ∧ Qd H) ∨ (J.go i H ∧ ∃ N1 : Hp → Prop, (∀ H', N1 H' → ∃ m', m' < m ∧ W (i + 1) m' H') ∧ ∀ x H', J.yld i H x H' → step x H' N1) := by
  refine ⟨fun i m H => m + i = n ∧ Pv i H, ⟨n, rfl, h0⟩, ?_⟩
  rintro i m H ⟨e, hp⟩
  have g := hG i H (by omega) hp
  rcases Nat.lt_or_ge i n with lt | ge
  · exact .inr ⟨w.goes i H lt g, Pv (i + 1), fun H' q => ⟨m - 1, by omega, by omega, q⟩, fun x H' y => hs i x H H' lt hp (w.yields i H x H' lt g y)⟩
  · obtain rfl : i = n := by omega
    exact .inl ⟨w.stops H g, hd H hp⟩
def spFit (T : Tx P K mg) : Sp := fun vs H Q E => ∃ (c : Addr) (ys : List V) (zs : List (Int × Int)), vs = [.ref c] ∧ SqA H c ys ∧ PairsAt2 H ys zs ∧ 1 ≤ ys.length ∧ ys.length ≤ 10 ∧ (∀ z ∈ zs, -(10 ^ 40) ≤ z.1 ∧ z.1 ≤ 10 ^ 40 ∧ -(10 ^ 40) ≤ z.2 ∧ z.2 ≤ 10 ^ 40) ∧
  ∀ (D : Addr) (us : List V) (H' : Hp), Same H H' → H' D = some (.lst us) → TrisAt H' us (fit0 zs 15) → Q (.ref D) H'
theorem ok_fitting (T : Tx P K mg) : FnOk P w K mg base (L2.CX P w) lv_fitting T.a_fitting T.d_fitting ["pairs"] (spFit T) := by
  refine T.F_fitting.okX sc_fitting (fun vs H Q E h => ?_) (fun cdv A outer s H vs Q E hr h => ?_)
  · obtain ⟨c, ys, zs, rfl, _⟩ := h
    rfl
  · obtain ⟨c, ys, zs, rfl, hc, P, l1, l2, bd, k⟩ := h
    refine ⟨_, (pss_cons (ps_expr (pe_call (ok_check_pairs T) (hr.mono (by decide)) rfl T.g_check_pairs T.F_check_pairs.kp T.b_check_pairs .nil (passes_call (takes_of rfl rfl rfl rfl) fun _ _ _ _ h => h) (pa_cons (pv 0) pa_nil)))
      (pss_one (ps_ret (pe_lcN (body := fun D => (tCl _ (gName 2) tYes [2, 3] (tCl _ (gName 3) tYes [3] (tPut D _)))) (own := [("base", 1), ("take", 2), ("times", 3)]) (g := gName 1) (tt := tYes) (fs := [2, 3]) rfl sc_fitting.nd (pi_range2 (by rfl) T.n_range (pa_cons (pe_glob (v := .int 2) rfl T.c_LEAST_BASE ⟨_, rfl⟩) (pa_cons (pe_op op_add (pe_glob (v := .int 16) rfl T.c_GREATEST_BASE ⟨_, rfl⟩) pe_int) pa_nil))) (blkOk_by (own := [("base", 1), ("take", 2), ("times", 3)]) (N := ["pairs", "base", "take", "times"]) (sc := defScope s_fitting) (by decide +kernel)) (fun _ _ _ _ _ => pg_name (i := 1) sc_fitting.nd rfl (Or.inl rfl)) (fun _ _ _ _ _ => pts_nil) (fun D _ _ _ _ _ => by (refine runs_cl (g := gName 2) (tt := tYes) (vs := [2, 3]) (fs := [3]) (by exact rfl) ?_ (by rfl) (by rfl) ?_ ?_ pts_nil ?_ (by decide); exact (fun _ e => by cases e; exact ⟨rfl, fun _ => rfl⟩); exact (pi_range2 (by rfl) T.n_range (pa_cons pe_int (pa_cons (pe_op op_add (pe_glob (v := .int 2) rfl T.c_GREATEST_TAKE ⟨_, rfl⟩) pe_int) pa_nil))); exact pg_name (i := 2) sc_fitting.nd rfl (Or.inl rfl); (refine runs_cl (g := gName 3) (tt := tYes) (vs := [3]) (fs := []) (by exact rfl) ?_ (by rfl) (by rfl) ?_ ?_ pts_nil ?_ (by decide); exact (fun _ e => by cases e); exact (pi_listK (K := K) rfl (pe_call (ok_fitting_times T) (hr.mono (by decide)) rfl T.g_fitting_times T.F_fitting_times.kp T.b_fitting_times .nil pass0 (pa_cons (pe_call (ok_block_of T) (hr.mono (by decide)) rfl T.g_block_of T.F_block_of.kp T.b_block_of .nil pass0 (pa_cons (pv 1) (pa_cons (pv 2) pa_nil))) (pa_cons (pv 0) pa_nil)))); exact pg_name (i := 3) sc_fitting.nd rfl (Or.inl rfl); exact runs_put rfl rfl (pe_tup (pa_cons (pv 1) (pa_cons (pv 2) (pa_cons (pv 3) pa_nil))))))) (by decide) (by intro _; rfl) (fun _ _ e => by cases e; exact ⟨rfl, fun _ => rfl⟩))))), ?_⟩
    have sq : seqOf H (.ref c) = some ys := seqOf_at hc
    have tu : isTup 1 10 (seqOf H (.ref c)) = true := by
      rw [sq]
      show (decide ((1 : Int) ≤ (ys.length : Int)) && decide ((ys.length : Int) ≤ 10)) = true
      rw [Bool.and_eq_true, decide_eq_true_eq, decide_eq_true_eq]
      omega
    have good : ∀ y ∈ ys, (AnyV (OwnT T) H y ∧ ItemsAny (OwnT T) H y) ∧ pairOk H y = true := fun y hy => by
      obtain ⟨i, hi⟩ := List.mem_iff_getElem?.mp hy
      obtain ⟨p, z, rfl, hz, hp⟩ := P.at hi
      obtain ⟨z1, z2, z3, z4⟩ := bd z (List.mem_of_getElem? hz)
      refine ⟨⟨.tup hp, ItemsAny.ints (ns := [z.1, z.2]) hp⟩, ?_⟩
      rw [pairOk_at (tupOf_ref hp), intIn_of z1 z2, intIn_of z3 z4]
      rfl
    refine ⟨_, rfl, .ref c, rfl, hc.elim .lst .tup, fun ys' e y hy => ?_, fun g => ?_, fun ys' _ e i y hy g => ?_, fun _ _ _ _ H2 S2 => ?_⟩
    · rw [sq] at e
      cases e
      exact (good y hy).1
    · rw [tu] at g
      cases g
    · rw [sq] at e
      cases e
      rw [(good y (List.mem_of_getElem? hy)).2] at g
      cases g
    have hs : (200000 : Nat) ≤ sizeLine := by decide
    refine ⟨_, _, rfl, rfl, _, _, rfl, ⟨by decide, by decide, by decide, by decide⟩, fun D hD => ?_⟩
    have SD := S2.trans (same_upd (o := .lst []) hD)
    refine walk_w walk_range (fun i H3 => Same H H3 ∧ ∃ us, H3 D = some (.lst us) ∧ TrisAt H3 us (fit0 zs i)) ⟨SD, [], upd_same, trivial⟩ (fun _ _ _ _ => trivial) ?_ ?_
    · rintro i x H3 H4 hi ⟨S3, us, hD3, t3⟩ ⟨rfl, rfl⟩
      refine ⟨rfl, _, _, rfl, rfl, _, _, rfl, ⟨by decide, by decide, by decide, by decide⟩, ?_⟩
      refine walk_w walk_range (fun j H5 => Same H H5 ∧ ∃ us, H5 D = some (.lst us) ∧ TrisAt H5 us (fit0 zs i ++ fit1 zs (2 + (i : Int)) j)) ⟨S3, us, hD3, by rw [show fit1 zs (2 + (i : Int)) 0 = [] from rfl, List.append_nil]; exact t3⟩ (fun _ _ _ _ => trivial) ?_ ?_
      · rintro j x H5 H6 hj ⟨S5, us, hD5, t5⟩ ⟨rfl, rfl⟩
        obtain ⟨B1, B2⟩ := block_bd (b := 2 + (i : Int)) (t := 1 + (j : Int)) (by omega) (by omega)
        refine ⟨rfl, _, rfl, _, rfl, 2 + (i : Int), 1 + (j : Int), rfl, by omega, by omega, _, rfl, _, c, ys, zs, rfl, B1, B2, hc.same S5, P.same S5, fun F H7 S7 nF hF => ⟨F, rfl, ⟨_, SqL.of hF⟩, ?_⟩⟩
        have nFD : F ≠ D := fun z => by rw [z, hD5] at nF; cases nF
        have hDn : H D = none := by
          cases e : H D with
          | none => rfl
          | some o => rw [S2 _ _ e] at hD; cases hD
        have up : ∀ {HH : Hp} {o : HO}, Same H HH → Same H (upd HH D o) := fun {HH o} S c' o' e => by
          rw [upd_ne (ne_of_none e hDn)]
          exact S _ _ e
        refine walk_w walk_list (fun l H8 => Same H H8 ∧ H8 F = some (.lst ((fitM (blockOf (2 + (i : Int)) (1 + (j : Int))) zs).map V.int)) ∧ ∃ us, H8 D = some (.lst us) ∧ TrisAt H8 us (fit0 zs i ++ fit1 zs (2 + (i : Int)) j ++ (fit2 zs (2 + (i : Int)) (1 + (j : Int))).take l))
          ⟨S5.trans S7, hF, us, S7 _ _ hD5, by rw [List.take_zero, List.append_nil]; exact t5.of fun _ _ e => S7 _ _ e⟩ (fun l H8 _ ⟨_, h, _⟩ => SqL.of h) ?_ ?_
        · rintro l y H8 H9 hl ⟨S8, hF8, us8, hD8, t8⟩ ⟨rfl, hy⟩
          rw [List.getElem?_map] at hy
          obtain ⟨m, hm, rfl⟩ := Option.map_eq_some_iff.mp hy
          have hz : (fit2 zs (2 + (i : Int)) (1 + (j : Int)))[l]? = some (2 + (i : Int), 1 + (j : Int), m) := by
            unfold fit2
            rw [List.getElem?_map, hm]
            rfl
          refine ⟨rfl, _, rfl, _, rfl, _, rfl, by show 3 ≤ sizeLine; decide, fun p hp => ⟨us8, same_upd hp _ _ hD8, ?_, ?_⟩⟩
          · have h1 := fit0_len zs i
            have h2 := fit1_len zs (2 + (i : Int)) j
            have h3 := fit2_len zs (2 + (i : Int)) (1 + (j : Int))
            rw [t8.len, List.length_append, List.length_append, List.length_take]
            omega
          · have Sp := S8.trans (same_upd (o := .tup [.int (2 + (i : Int)), .int (1 + (j : Int)), .int m]) hp)
            have npD : p ≠ D := fun z => by rw [z, hD8] at hp; cases hp
            have kt : ∀ c' xs, upd H9 p (.tup [.int (2 + (i : Int)), .int (1 + (j : Int)), .int m]) c' = some (.tup xs) → upd (upd H9 p (.tup [.int (2 + (i : Int)), .int (1 + (j : Int)), .int m])) D (.lst (us8 ++ [.ref p])) c' = some (.tup xs) := fun c' xs e => by
              rw [upd_ne (fun z => by rw [z, same_upd hp _ _ hD8] at e; cases e)]
              exact e
            refine ⟨up Sp, ?_, _, upd_same, ?_⟩
            · rw [upd_ne nFD]
              exact same_upd hp _ _ hF8
            · rw [take_snocP hz, ← List.append_assoc]
              exact TrisAt.snoc (z := (2 + (i : Int), 1 + (j : Int), m)) (kt _ _ upd_same) ((t8.of fun _ _ e => same_upd hp _ _ e).of kt)
        · rintro H8 ⟨S8, hF8, us8, hD8, t8⟩
          refine ⟨S8, us8, hD8, ?_⟩
          rw [fit1_succ, ← List.append_assoc]
          rw [List.length_map, List.take_of_length_le (by unfold fit2; rw [List.length_map]; exact Nat.le_refl _)] at t8
          exact t8
      · rintro H5 ⟨S5, us, hD5, t5⟩
        refine ⟨S5, us, hD5, ?_⟩
        rw [fit0_succ]
        exact t5
    · rintro H3 ⟨S3, us, hD3, t3⟩
      exact k D us H3 S3 hD3 t3

end
end Rt
namespace L2
open PySem PySem.Calls PySem.Spec PyProof.Rows
/-! ### a list and an empty one; len of an object of the program; a new object within a try -/
def rNeNil (K : PySem.W.Frag) : R2 := fun x y H Q => ∃ a b xs, x = .ref a ∧ y = .ref b ∧ SqL K H a xs ∧ SqL K H b [] ∧ Q (.bl (!xs.isEmpty)) H
theorem op_neNil {X : Cx} (hu : X.A.units + 64 < cLine) : OpR X (compareOp .NotEq) (rNeNil X.K) := by
  intro pins s σ H x y v u Q I rx ry h
  obtain ⟨a, b, xs, rfl, rfl, h1, h2, q⟩ := h
  obtain ⟨its, rv, hl, _⟩ := I.list h1
  obtain ⟨its2, rv2, hl2, _⟩ := I.list h2
  cases (show v = Value.ref a from rx)
  cases (show u = Value.ref b from ry)
  cases rv2
  cases xs with
  | nil =>
    cases rv
    exact SeqAt.RcNeAt.lists (e := fun _ => true) hl.isList hl2.isList rfl (by omega) (fun j j1 _ => absurd j1 (Nat.not_lt_zero j)) _ _ _ _ ⟨.bl false, H, I, rfl, q⟩
  | cons z zs =>
    cases rv with
    | cons r1 rr1 =>
      exact SeqAt.RcNeAt.lists_lengths hl.isList hl2.isList rfl (by omega) _ _ _ _ ⟨.bl true, H, I, rfl, q⟩
def rLenO (C : Addr) (sp : Sp) (E : XK) : List V → Hp → VK → Prop := fun xs H Q => ∃ a dx fs, xs = [.ref a] ∧ H a = some (.ins C dx fs) ∧ sp [.ref a] H (fun v H' => ∃ n : Nat, v = .int (n : Int) ∧ n ≤ sizeLine ∧ Q v H') E
theorem call_lenO {X : Cx} {n : Nat} {CX : CXT} {C f : Addr} {fd : FuncData} {ps : List Str} {sp : Sp} {E : XK} (G : FnOk X.prog X.w X.K X.mg X.base CX n f fd ps sp) (hr : Room (n + 1) X.A)
    (hs : PySem.W.findIn X.K (.ref C) "__len__" = some (some (.ref f))) (hf : PySem.W.isFn X.K (.ref f) = true) (hb : Binds X.K fd ps []) (hx : Passes CX X E) : CallR X (.builtin "len") (rLenO C sp E) := by
  intro pins s σ H xs us Q I r h
  obtain ⟨a, dx, fs, rfl, ha, hsp⟩ := h
  obtain ⟨u, rfl, ru⟩ := vals1 r
  obtain rfl : u = Value.ref a := ru
  obtain ⟨mA, O, _⟩ := ins_get I.hok ha
  obtain ⟨od, J, _⟩ := O.look
  obtain ⟨m, hF⟩ := I.fr
  have hl : ([V.ref a] : List V).length = ps.length := G.len _ _ _ _ hsp
  refine PySem.W.len_K hF I.ok.mod.kin J hs hf ?_
  have bd := hb s [.ref a] I.kIn (by rw [List.append_nil]; exact hl)
  rw [List.append_nil] at bd
  refine wpAny_call (codeAny_mono (G.run X.A.in1 X.stack s H ⟨[.ref a], []⟩ [.ref a] [.ref a] _ E hr.in1 I.env0.in1 bd (.cons rfl .nil) hsp) fun r s' hw => ?_)
  match r, hw with
  | .error e, hw => exact hx pins σ H s e s' I hw
  | .ok (.ret w'), hw =>
    obtain ⟨z, H', I', rz, ⟨k, ek, kz, q⟩⟩ := I.after hw
    subst ek
    obtain ⟨t, rfl⟩ : ∃ t, w' = .int (k : Int) t := rz
    have hz : sizeLine = 16777216 := sizeLine_eq
    exact ⟨⟨by omega, by omega⟩, .int (k : Int), H', I'.tok _, ⟨_, rfl⟩, q⟩
  | .ok .next, hw => exact hw.elim
  | .ok .brk, hw => exact hw.elim
  | .ok .cont, hw => exact hw.elim
def tMakeS (C : Addr) (sp : Sp) (E : St → XK) (t : TA) : TE := fun σ H Q => t σ H fun vs H1 => ∀ x dx, H1 x = none → H1 dx = none → dx ≠ x → sp (.ref x :: vs) (upd (upd H1 dx (.own x)) x (.ins C dx [])) (fun v H2 => v = .non ∧ Q (.ref x) H2) (E σ)
theorem pe_makeS {X : Cx} {CX : CXT} {k : Nat} {f C : Addr} {fd : FuncData} {ps : List Str} {sp : Sp} {E : St → XK} {x : Str} {p pos : Pos} {e : Expr} {es : List Expr} {t : TA} (M : Mk X.K C f) (G : FnOk X.prog X.w X.K X.mg X.base CX k f fd ps sp) (hr : Room (k + 1) X.A) (hg : Gl X x) (hm : X.mg x = some (.ref C))
    (hb : Binds X.K fd ps []) (hx : ∀ σ, PassesAt CX X σ (E σ)) (ha : PA X (e :: es) t) (hdb : (x == ("__debug__" : Str)) = false := by decide) (he : starEach (e :: es) X.env = (false, eval e X.env) :: starEach es X.env := by rfl)
    (hpl : (backTo pos (starEach es X.env)).any (·.1) = false := by rfl) : PE X (.Call (.Name x p) (e :: es) [] pos) (tMakeS C sp E t) := ⟨fun pins s σ H Q I h => by
  refine wpAny_Call_Name_kw (ld_glob I hg hm (PySem.W.callWith_K (h₀ := X.base) I.ok.mod.kin M.kp (thn (ha.run pos pins s σ H _ I h) fun us s1 ⟨vs, H1, I1, r, q⟩ => ⟨I1.kIn, ?_⟩) he hpl) hdb)
  -- the new object's two places
  have fr := fun a (h : s1.heap.objs.size ≤ a) => I1.hok.fresh h
  have hq := q _ _ (fr (s1.heap.objs.size + 1) (Nat.le_succ _)) (fr s1.heap.objs.size (Nat.le_refl _)) (Nat.ne_of_lt (Nat.lt_succ_self _))
  have J := Inv.made (C := C) I1
  have rs : Vals (V.ref (s1.heap.objs.size + 1) :: vs) (Value.ref (s1.heap.objs.size + 1) :: us) := .cons rfl r
  have ln : (Value.ref (s1.heap.objs.size + 1) :: us).length = ps.length := rs.length ▸ G.len _ _ _ _ hq
  have bd := hb _ (Value.ref (s1.heap.objs.size + 1) :: us) J.kIn (by rw [List.append_nil]; exact ln)
  rw [List.append_nil] at bd
  refine wpAny_call (make_map (f := f) I1.kIn M.makes M.init (beq_iff_eq.mp M.fn) (codeAny_mono (G.run _ X.stack _ _ ⟨_, []⟩ _ _ _ (E σ) (hr.make C us []) (J.env0.make C us []) bd rs hq) fun o s' ho => ?_))
  match o, ho with
  | .error e, ho => exact hx σ pins _ _ e s' J ho
  | .ok (.ret u), ho =>
    obtain ⟨v, H', I3, rv, ev, q3⟩ := J.after ho
    subst ev
    exact ⟨rv, V.ref (s1.heap.objs.size + 1), H', I3, rfl, q3⟩
  | .ok .next, ho => exact ho.elim
  | .ok .brk, ho => exact ho.elim
  | .ok .cont, ho => exact ho.elim⟩
end L2
namespace Rt
open PySem L2 PySem.Spec PyProof.Rows
section
variable {P : Program} {w : World} {K : PySem.W.Frag} {mg : Str → Option Value} {base : Heap}

end
end Rt
namespace L2
open PySem PySem.Spec PyProof.Rows
/-! ### two lists of the same objects -/
theorem refs_one : ∀ {xs : List V} {us vs : List Value}, (∀ x ∈ xs, ∃ a, x = V.ref a) → Vals xs us → Vals xs vs → us = vs
  | [], _, _, _, .nil, .nil => rfl
  | _ :: _, _, _, h, .cons r1 t1, .cons r2 t2 => by
    obtain ⟨a, rfl⟩ := h _ List.mem_cons_self
    cases r1
    cases r2
    rw [refs_one (fun x hx => h x (List.mem_cons_of_mem _ hx)) t1 t2]
def rNeS (K : PySem.W.Frag) : R2 := fun x y H Q => (∃ a b xs, x = .ref a ∧ y = .ref b ∧ SqL K H a xs ∧ SqL K H b xs ∧ (∀ x ∈ xs, ∃ c, x = V.ref c) ∧ Q (.bl false) H) ∨ rNeD K x y H Q
theorem op_neS {X : Cx} (hu : X.A.units + 64 < cLine) : OpR X (compareOp .NotEq) (rNeS X.K) := by
  intro pins s σ H x y v u Q I rx ry h
  rcases h with ⟨a, b, xs, rfl, rfl, h1, h2, hr, q⟩ | h
  · obtain ⟨its, rv, hl, _⟩ := I.list h1
    obtain ⟨its2, rv2, hl2, _⟩ := I.list h2
    cases (show v = Value.ref a from rx)
    cases (show u = Value.ref b from ry)
    obtain rfl := refs_one hr rv rv2
    refine SeqAt.RcNeAt.lists (e := fun _ => true) hl.isList hl2.isList rfl (by omega) (fun j j1 j2 => ?_) _ _ _ _ ⟨.bl false, H, I, ?_, q⟩
    · exact SeqAt.EqAt.same _
    · have e : (List.range its.toArray.size).all (fun _ => true) = true := by simp
      show RelV (V.bl false) (Value.bool (!(List.range its.toArray.size).all (fun _ => true)))
      rw [e]
      rfl
  · exact op_neD hu pins s σ H x y v u Q I rx ry h
theorem call_list_ofK {X : Cx} {K : PySem.W.Frag} (e : X.K = K) : CallR X (.type "list") (fun xs H Q => ∃ p ys, xs = [.ref p] ∧ (SqL K H p ys ∨ SqT K H p ys) ∧ ∀ l, H l = none → Q (.ref l) (upd H l (.lst ys))) := by
  subst e
  exact call_list_of
end L2
namespace Rt
open PySem L2 PySem.Spec PyProof.Rows
section
variable {P : Program} {w : World} {K : PySem.W.Frag} {mg : Str → Option Value} {base : Heap}

/-! ### room -/
theorem room65 {k : Nat} {A : Around} (h : Room k A) : A.units + 65 < cLine := by
  have := h.un
  omega

/-! ### the runs of a search, for tables of any power of two -/
end
end Rt
namespace L2
open PySem PySem.Spec PyProof.Rows
/-- 1 + 5 + .. + 5^(n-1) -/
def s5 : Nat → Nat
  | 0 => 0
  | n + 1 => 5 * s5 n + 1
theorem s5_pow : ∀ n, 4 * s5 n + 1 = 5 ^ n
  | 0 => rfl
  | n + 1 => by
    have := s5_pow n
    show 4 * (5 * s5 n + 1) + 1 = 5 ^ n * 5
    omega
theorem s5_par : ∀ n, s5 n % 2 = n % 2
  | 0 => rfl
  | n + 1 => by
    have := s5_par n
    show (5 * s5 n + 1) % 2 = (n + 1) % 2
    omega
theorem s5_add (a : Nat) : ∀ b, s5 (a + b) = 5 ^ b * s5 a + s5 b
  | 0 => by
    show s5 a = 1 * s5 a + 0
    omega
  | b + 1 => by
    show 5 * s5 (a + b) + 1 = 5 ^ b * 5 * s5 a + (5 * s5 b + 1)
    rw [s5_add a b, Nat.mul_add, Nat.mul_comm (5 ^ b) 5, Nat.mul_assoc]
    omega
theorem s5_two (k : Nat) : s5 (2 * k) = 2 * (s5 k * (2 * s5 k + 1)) := by
  rw [Nat.two_mul, s5_add, ← s5_pow, Nat.add_mul, Nat.mul_add, Nat.mul_one, Nat.one_mul, Nat.mul_add, ← Nat.mul_assoc (s5 k) 2, Nat.mul_comm (s5 k) 2, Nat.mul_assoc, Nat.mul_assoc]
  omega
theorem odd_dvd (y : Nat) : ∀ (e x : Nat), 2 ^ e ∣ x * (2 * y + 1) → 2 ^ e ∣ x
  | 0, x, _ => ⟨x, by omega⟩
  | e + 1, x, ⟨c, hc⟩ => by
    have hx : x % 2 = 0 := by
      have h1 : (x * (2 * y + 1)) % 2 = x % 2 := by
        rw [Nat.mul_add, Nat.mul_one, ← Nat.mul_assoc, Nat.mul_comm x 2, Nat.mul_assoc]
        omega
      rw [← h1, hc, Nat.pow_succ, Nat.mul_comm (2 ^ e) 2, Nat.mul_assoc]
      omega
    obtain ⟨z, rfl⟩ : ∃ z, x = 2 * z := ⟨x / 2, by omega⟩
    rw [Nat.pow_succ, Nat.mul_comm (2 ^ e) 2, Nat.mul_assoc, Nat.mul_assoc] at hc
    obtain ⟨d, hd⟩ := odd_dvd y e z ⟨c, by omega⟩
    refine ⟨d, ?_⟩
    rw [Nat.pow_succ, Nat.mul_comm (2 ^ e) 2, Nat.mul_assoc]
    omega
theorem s5_dvd : ∀ (e n : Nat), 2 ^ e ∣ s5 n → 2 ^ e ∣ n
  | 0, n, _ => ⟨n, by omega⟩
  | e + 1, n, ⟨c, hc⟩ => by
    have hn : n % 2 = 0 := by
      rw [← s5_par, hc, Nat.pow_succ, Nat.mul_comm (2 ^ e) 2, Nat.mul_assoc]
      omega
    obtain ⟨k, rfl⟩ : ∃ k, n = 2 * k := ⟨n / 2, by omega⟩
    rw [s5_two, Nat.pow_succ, Nat.mul_comm (2 ^ e) 2, Nat.mul_assoc] at hc
    obtain ⟨d, hd⟩ := s5_dvd e k (odd_dvd (s5 k) e _ ⟨c, by omega⟩)
    refine ⟨d, ?_⟩
    rw [Nat.pow_succ, Nat.mul_comm (2 ^ e) 2, Nat.mul_assoc]
    omega
theorem lcgI_le {m i : Nat} (hi : i ≤ m) : ∀ k, lcgI m i k ≤ m
  | 0 => hi
  | k + 1 => Nat.le_of_lt_succ (Nat.mod_lt _ (Nat.succ_pos _))
theorem lcgI_is {m i : Nat} (hi : i ≤ m) : ∀ k, lcgI m i k = (5 ^ k * i + s5 k) % (m + 1)
  | 0 => by
    show i = (1 * i + 0) % (m + 1)
    rw [Nat.mod_eq_of_lt (by omega)]
    omega
  | k + 1 => by
    show (lcgI m i k * 5 + 1) % (m + 1) = (5 ^ k * 5 * i + (5 * s5 k + 1)) % (m + 1)
    rw [lcgI_is hi k, Nat.add_mod, Nat.mul_mod, Nat.mod_mod, ← Nat.mul_mod, ← Nat.add_mod, Nat.mul_comm (5 ^ k) 5, Nat.mul_assoc]
    congr 1
    omega
theorem lcgI_add (m i a : Nat) : ∀ k, lcgI m i (a + k) = lcgI m (lcgI m i a) k
  | 0 => rfl
  | k + 1 => by
    show (lcgI m i (a + k) * 5 + 1) % (m + 1) = (lcgI m (lcgI m i a) k * 5 + 1) % (m + 1)
    rw [lcgI_add m i a k]
/-- one less than a power of two -/
def Pow2 (m : Nat) : Prop := ∃ e, m + 1 = 2 ^ e
theorem lcg_away {m x n : Nat} (hm : Pow2 m) (hx : x ≤ m) (n0 : 0 < n) (n1 : n ≤ m) : lcgI m x n ≠ x := fun h => by
  obtain ⟨e, he⟩ := hm
  rw [lcgI_is hx, ← s5_pow] at h
  have h2 : (4 * s5 n + 1) * x + s5 n = x + s5 n * (2 * (2 * x) + 1) := by
    rw [Nat.add_mul, Nat.mul_add, Nat.mul_comm 4, Nat.mul_assoc, ← Nat.mul_assoc 2 2 x, show 2 * 2 = 4 from rfl]
    omega
  rw [h2] at h
  have h3 := Nat.div_add_mod (x + s5 n * (2 * (2 * x) + 1)) (m + 1)
  rw [h] at h3
  have d : 2 ^ e ∣ s5 n * (2 * (2 * x) + 1) := by
    rw [← he]
    exact ⟨(x + s5 n * (2 * (2 * x) + 1)) / (m + 1), by omega⟩
  have := Nat.le_of_dvd n0 (s5_dvd e n (odd_dvd _ e _ d))
  omega
/-- among the first runs one begins at a slot that isn't named -/
theorem run_free {m : Nat} (hm : Pow2 m) (h : Int) (l : List Nat) (hl : l.length ≤ m) : ∃ n, n ≤ 12 + l.length ∧ runI m (SetTable.bits h) n ∉ l := by
  refine Classical.byContradiction fun no => ?_
  have all : ∀ n, n ≤ 12 + l.length → runI m (SetTable.bits h) n ∈ l := fun n hn => Classical.byContradiction fun z => no ⟨n, hn, z⟩
  have nd : ((List.range (l.length + 1)).map fun k => runI m (SetTable.bits h) (12 + k)).Nodup := by
    refine List.pairwise_map.mpr (List.Pairwise.imp_of_mem (fun {a b} ha hb hab e => ?_) List.pairwise_lt_range)
    have hb := List.mem_range.mp hb
    rw [runI_tail (bits_lt h), runI_tail (bits_lt h), show b = a + (b - a) by omega, lcgI_add] at e
    exact lcg_away hm (lcgI_le (runI_le m _ 12) a) (by omega) (by omega) e.symm
  have := nat_nodup_len _ l nd fun x hx => by
    obtain ⟨k, hk, rfl⟩ := List.mem_map.mp hx
    exact all _ (by have := List.mem_range.mp hk; omega)
  rw [List.length_map, List.length_range] at this
  omega
end L2
namespace Rt
open PySem L2 PySem.Spec PyProof.Rows
section
variable {P : Program} {w : World} {K : PySem.W.Frag} {mg : Str → Option Value} {base : Heap}

/-! ### tables of any power of two, into which only what is new is put -/
end
end Rt
namespace L2
open PySem PySem.Spec PyProof.Rows
theorem way_in (m : Nat) (h : Int) (k : Nat) : way m h k ≤ m := by
  have hi : SetTable.bits h % (m + 1) ≤ m := Nat.le_of_lt_succ (Nat.mod_lt _ (Nat.succ_pos _))
  have e := (runEnd_bd hi).1
  have g := (runEnd_bd hi).2.1
  have z : (runAt m (SetTable.bits h % (m + 1)) (SetTable.bits h)).j + (runAt m (SetTable.bits h % (m + 1)) (SetTable.bits h)).more ≤ m := by
    show SetTable.bits h % (m + 1) + (SetTable.runEnd m (SetTable.bits h % (m + 1)) - SetTable.bits h % (m + 1)) ≤ m
    omega
  exact Nat.le_trans (Nat.le_add_right _ _) (nth_in k _ z)
structure TabG (t : SetTable) (n : Nat) : Prop where
  ris : Ris t.place.toList
  dm : t.dummies = #[]
  sz : t.place.size = n
  two : Pow2 t.mask
  bd : ∀ x ∈ t.place.toList, x ≤ t.mask
theorem TabG.first {t : SetTable} {n : Nat} (T : TabG t n) (hn : n ≤ t.mask) (h : Int) : ∃ k, k ≤ 10 * (12 + n) ∧ way t.mask h k ∉ t.place.toList ∧ ∀ c, c < k → way t.mask h c ∈ t.place.toList := by
  have len : t.place.toList.length = n := by rw [Array.length_toList, T.sz]
  obtain ⟨r, hr, out⟩ := run_free T.two h t.place.toList (by rw [len]; exact hn)
  obtain ⟨c, hc, e⟩ := run_nth t.mask (SetTable.bits h) r
  have w1 : way t.mask h c = runI t.mask (SetTable.bits h) r := congrArg SetTable.Probe.j e
  obtain ⟨k, k1, k2, k3⟩ := st_least (p := fun c => way t.mask h c ∉ t.place.toList) c (by show way t.mask h c ∉ _; rw [w1]; exact out)
  exact ⟨k, by omega, k2, fun c' h' => Classical.byContradiction fun z => k3 c' h' z⟩
theorem TabG.put {t : SetTable} {n j : Nat} (T : TabG t n) (hj : j ≤ t.mask) (out : j ∉ t.place.toList) : TabG (t.put j).1 (n + 1) ∧ SetTable.below t.place j ≤ n := by
  obtain ⟨c1, _, _⟩ := below_cut T.ris j
  have le : SetTable.below t.place j ≤ t.place.toList.length := by
    rw [Array.length_toList]
    exact c1
  have new : t.place[SetTable.below t.place j]? ≠ some j := fun e => out (List.mem_of_getElem? (by rw [Array.getElem?_toList]; exact e))
  have pl := put_place t j
  refine ⟨⟨ris_insert T.ris new, put_dm T.dm j, ?_, T.two, fun x hx => ?_⟩, by rw [← T.sz]; exact c1⟩
  · rw [← Array.length_toList, pl, len_ins _ le, Array.length_toList, T.sz]
  · rw [pl] at hx
    rcases mem_ins.1 hx with z | z
    · rw [z]
      exact hj
    · exact T.bd x z
/-- who sits where while all is laid anew -/
structure OwnG (m n : Nat) (owner : Array (Option Nat)) : Prop where
  sz : owner.size = m + 1
  all : ∀ k, k < n → ∃ j, j ≤ m ∧ oAt owner j = some k
  ps : ∃ ps : List Nat, ps.length = n ∧ ∀ j, j ≤ m → oAt owner j ≠ none → j ∈ ps
theorem OwnG.step {m n : Nat} (hm : Pow2 m) {owner : Array (Option Nat)} (W : OwnG m n owner) (hn : n ≤ m) (h : Int) :
    ∃ j, SetTable.layClean.free m owner (SetTable.turns m) (SetTable.bits h % (m + 1)) (SetTable.bits h) = some j ∧ OwnG m (n + 1) (owner.setIfInBounds j (some n)) := by
  obtain ⟨ps, hps, sits⟩ := W.ps
  obtain ⟨r, hr, out⟩ := run_free hm h ps (by omega)
  have empty : oAt owner (runI m (SetTable.bits h) r) = none := Classical.byContradiction fun z => out (sits _ (runI_le m _ r) z)
  have at_r : way m h (off m (SetTable.bits h % (m + 1)) (SetTable.bits h) r) = runI m (SetTable.bits h) r := by
    show (nth m (runAt m (SetTable.bits h % (m + 1)) (SetTable.bits h)) (off m (SetTable.bits h % (m + 1)) (SetTable.bits h) r)).j = _
    rw [nth_off, itL_run]
    rfl
  obtain ⟨k, k1, k2, k3⟩ := st_least (p := fun c => oAt owner (way m h c) = none) (off m (SetTable.bits h % (m + 1)) (SetTable.bits h) r) (by
    show oAt owner (way m h _) = none
    rw [at_r]
    exact empty)
  have found := free_spec m owner (SetTable.turns m) r _ _ k (by unfold SetTable.turns; omega) k1
    (fun c hc => by
      have z := k3 c hc
      cases e : oAt owner (nth m (runAt m (SetTable.bits h % (m + 1)) (SetTable.bits h)) c).j with
      | none => exact absurd e z
      | some _ => rfl)
    (by
      have z : oAt owner (nth m (runAt m (SetTable.bits h % (m + 1)) (SetTable.bits h)) k).j = none := k2
      rw [z]
      rfl)
  refine ⟨way m h k, found, ?_⟩
  have in1 : way m h k < owner.size := by
    rw [W.sz]
    exact Nat.lt_succ_of_le (way_in m h k)
  refine ⟨by rw [Array.size_setIfInBounds]; exact W.sz, fun c hc => ?_, way m h k :: ps, by rw [List.length_cons, hps], fun j hj z => ?_⟩
  · rcases Nat.lt_or_ge c n with q | q
    · obtain ⟨j, hj, e⟩ := W.all c q
      refine ⟨j, hj, ?_⟩
      rw [oAt_set_ne _ (fun z => by rw [z] at e; rw [show oAt owner (way m h k) = none from k2] at e; cases e)]
      exact e
    · obtain rfl : c = n := by omega
      exact ⟨_, way_in m h k, oAt_set_self _ in1⟩
  · by_cases c : j = way m h k
    · rw [c]
      exact List.mem_cons_self
    · rw [oAt_set_ne _ c] at z
      exact List.mem_cons_of_mem _ (sits j hj z)
theorem lay_all {m : Nat} (hm : Pow2 m) : ∀ (hs : List Int) (n : Nat) (owner : Array (Option Nat)), OwnG m n owner → n + hs.length ≤ m →
    ∃ owner', hs.foldl (stepF m) (some (owner, n)) = some (owner', n + hs.length) ∧ OwnG m (n + hs.length) owner'
  | [], _, owner, W, _ => ⟨owner, rfl, W⟩
  | h :: hs, n, owner, W, le => by
    rw [List.length_cons] at le ⊢
    obtain ⟨j, e, W1⟩ := W.step hm (by omega) h
    obtain ⟨o2, f, W2⟩ := lay_all hm hs (n + 1) _ W1 (by omega)
    rw [show n + 1 + hs.length = n + (hs.length + 1) by omega] at f W2
    exact ⟨o2, by rw [List.foldl_cons, stepF_some e]; exact f, W2⟩
theorem relaid_any (t : SetTable) {hs : Array Int} {wanted M : Nat} (hw : SetTable.sizeAbove wanted - 1 = M) (hM : Pow2 M) (hn : hs.size ≤ M) :
    ∃ t' order, t.relaid hs wanted = some (t', order) ∧ order.toList.Perm (List.range hs.size) ∧ TabG t' hs.size ∧ t'.mask = M ∧ t'.led = t.led ∧ t'.plain = t.plain := by
  have W0 : OwnG M 0 (Array.replicate (M + 1) none) := ⟨by simp, fun k hk => absurd hk (Nat.not_lt_zero _), [], rfl, fun j hj e => absurd (oAt_init hj) e⟩
  obtain ⟨owner, f, W⟩ := lay_all hM hs.toList 0 _ W0 (by rw [Array.length_toList]; omega)
  rw [Nat.zero_add, Array.length_toList] at W
  have lc : SetTable.layClean M hs = some owner := by
    rw [layClean_eq, f]
    rfl
  have re : t.relaid hs wanted = some (tabOf t M owner, ((liveOf M owner).map (·.2)).toArray) := by
    rw [relaid_eq, hw, lc]
    rfl
  obtain ⟨r1, r2⟩ := ris_live (fun j => owner.getD j none) (List.range (M + 1)) (show (List.range (M + 1)).Pairwise (· < ·) from List.pairwise_lt_range)
  have r1 : Ris ((liveOf M owner).map (·.1)) := r1
  have r2 : ∀ x ∈ (liveOf M owner).map (·.1), x ∈ List.range (M + 1) := r2
  have nd : ((liveOf M owner).map (·.1)).Nodup := List.Pairwise.imp (fun h => Nat.ne_of_lt h) r1
  have has : ∀ k, k < hs.size → k ∈ (liveOf M owner).map (·.2) := fun k hk => by
    obtain ⟨j, b1, b2⟩ := W.all k hk
    exact List.mem_map.mpr ⟨(j, k), (mem_live W.sz).2 ⟨b1, b2⟩, rfl⟩
  have len : (liveOf M owner).length = hs.size := by
    obtain ⟨ps, p1, p2⟩ := W.ps
    have a := nat_nodup_len _ ps nd fun x hx => by
      obtain ⟨⟨y, k⟩, hq, rfl⟩ := List.mem_map.mp hx
      obtain ⟨b1, b2⟩ := (mem_live W.sz).1 hq
      exact p2 y b1 (by rw [b2]; exact fun z => nomatch z)
    have b := nat_nodup_len (List.range hs.size) ((liveOf M owner).map (·.2)) List.nodup_range fun k hk => has k (List.mem_range.mp hk)
    rw [List.length_map, p1] at a
    rw [List.length_map, List.length_range] at b
    omega
  refine ⟨_, _, re, perm_range hs.size _ (by rw [List.length_map, len]) has, ⟨r1, rfl, ?_, hM, fun x hx => Nat.le_of_lt_succ (List.mem_range.mp (r2 x hx))⟩, rfl, rfl, rfl⟩
  show ((liveOf M owner).map (·.1)).toArray.size = hs.size
  rw [List.size_toArray, List.length_map, len]
end L2
namespace Rt
open PySem L2 PySem.Spec PyProof.Rows
section
variable {P : Program} {w : World} {K : PySem.W.Frag} {mg : Str → Option Value} {base : Heap}

/-! ### a set of tuples of ints, of any size to 8000: what is new is put in -/
end
end Rt
namespace L2
open PySem PySem.Spec PyProof.Rows
def maskL : List Nat := [7, 31, 127, 511, 2047, 8191, 32767]
theorem maskL_two : ∀ m ∈ maskL, Pow2 m := by
  intro m hm
  simp only [maskL, List.mem_cons, List.not_mem_nil, or_false] at hm
  rcases hm with rfl | rfl | rfl | rfl | rfl | rfl | rfl
  · exact ⟨3, rfl⟩
  · exact ⟨5, rfl⟩
  · exact ⟨7, rfl⟩
  · exact ⟨9, rfl⟩
  · exact ⟨11, rfl⟩
  · exact ⟨13, rfl⟩
  · exact ⟨15, rfl⟩
/-- a full table's next size -/
theorem maskL_next {m n : Nat} (hm : m ∈ maskL) (h1 : n * 5 < m * 3) (h2 : (n + 1) * 5 ≥ m * 3) (h3 : n + 1 ≤ 8000) :
    SetTable.sizeAbove (SetTable.grown (n + 1)) - 1 ∈ maskL ∧ SetTable.sizeAbove (SetTable.grown (n + 1)) ≤ 32768 ∧ (n + 1) * 5 < (SetTable.sizeAbove (SetTable.grown (n + 1)) - 1) * 3 := by
  simp only [maskL, List.mem_cons, List.not_mem_nil, or_false] at hm
  rcases hm with rfl | rfl | rfl | rfl | rfl | rfl | rfl
  · obtain rfl : n = 4 := by omega
    decide +kernel
  · obtain rfl : n = 18 := by omega
    decide +kernel
  · obtain rfl : n = 76 := by omega
    decide +kernel
  · obtain rfl : n = 306 := by omega
    decide +kernel
  · obtain rfl : n = 1228 := by omega
    decide +kernel
  · obtain rfl : n = 4914 := by omega
    decide +kernel
  · omega
abbrev Rows2 := List (Addr × List Int)
structure SetG (P : Program) (w : World) (h : Heap) (a : Addr) (L : Rows2) (es : Array (Int × Value)) (ep : Nat) (t : SetTable) : Prop where
  ob : ∃ o, h.get? a = some o ∧ o.ExactSet ∧ o.data = .set es ep t
  rows : es.toList = rowsOf P w L
  tab : TabG t L.length
  msk : t.mask ∈ maskL
  nd : (L.map (·.2)).Nodup
  plain : t.plain = true
  led : w.params.followText "set-order" = true ∨ t.led = true
  room : L.length * 5 < t.mask * 3
  few : L.length ≤ 8000
section
variable {P : Program} {w : World} {A : Around} {E : Value → Shared → Prop} {s : Shared} {a : Addr} {L : Rows2} {es : Array (Int × Value)} {ep : Nat} {t : SetTable}
theorem rows_size (h : es.toList = rowsOf P w L) : es.size = L.length := by
  rw [← Array.length_toList, h]
  exact List.length_map _
theorem rows_at (h : es.toList = rowsOf P w L) {i : Nat} {p : Addr × List Int} (hp : L[i]? = some p) : es[i]? = some (thash P w p.2, Value.ref p.1) := by
  rw [← Array.getElem?_toList, h]
  show (L.map _)[i]? = _
  rw [List.getElem?_map, hp]
  rfl
theorem tabG_fits (T : TabG t L.length) (le : L.length ≤ t.mask) (h : es.size = L.length) : t.fits es.size = true := by
  unfold SetTable.fits SetTable.fill
  rw [T.dm, T.sz, h, beq_self_eq_true, Bool.true_and]
  exact decide_eq_true le
theorem SetG.fits {h : Heap} (R : SetG P w h a L es ep t) : t.fits es.size = true :=
  tabG_fits R.tab (by have := R.room; omega) (rows_size R.rows)
theorem SetG.sure {h : Heap} (R : SetG P w h a L es ep t) : ¬ t.gaveWay = true := by
  obtain ⟨e, he⟩ := R.tab.two
  have g := R.msk
  unfold SetTable.gaveWay
  simp only [maskL, List.mem_cons, List.not_mem_nil, or_false] at g
  rcases g with g | g | g | g | g | g | g <;> rw [g] <;> decide
theorem nth_dummy (m : Nat) : ∀ (n : Nat) (p : SetTable.Probe), p.dummy = none → (nth m p n).dummy = none
  | 0, _, h => h
  | n + 1, p, h => by
    refine nth_dummy m n (adv m p) ?_
    unfold adv
    split <;> exact h
/-- a search for what isn't there ends at the first empty slot -/
theorem seek_new (R : SetG P w s.heap a L es ep t) (tup : ∀ p ∈ L, IsT P w s.heap p.2 p.1) {x : Addr} {k : List Int} (hx : IsT P w s.heap k x) (new : k ∉ L.map (·.2)) (hu : A.units < cLine) {g : Nat} (hg : g < 10 * SetTable.turns t.mask)
    (he : way t.mask (thash P w k) g ∉ t.place.toList) (hb : ∀ c, c < g → way t.mask (thash P w k) c ∈ t.place.toList) {Q : SetFound → Shared → Prop} (q : Q (.free (way t.mask (thash P w k) g) false) s) :
    ∀ (f c : Nat) (stand : Option SetTable.Probe), stand.getD (t.probeStart (thash P w k)) = nth t.mask (runAt t.mask (SetTable.bits (thash P w k) % (t.mask + 1)) (SetTable.bits (thash P w k))) c → c ≤ g → g - c < f →
      wpAny (model P w) A (setSearchFrom a (.ref x) (thash P w k) true f stand) Q E s
  | 0, _, _, _, _, hf => absurd hf (Nat.not_lt_zero _)
  | f + 1, c, stand, hs, hc, hf => by
    obtain ⟨o, ho, hex, hd⟩ := R.ob
    rw [setSearchFrom_succ]
    refine wpAny_bind (wpAny_setState_of ho hd R.fits ?_)
    dsimp only
    refine wp_if_neg R.sure ?_
    try refine wpAny_bind (wpAny_pure ?_)
    generalize hP0 : runAt t.mask (SetTable.bits (thash P w k) % (t.mask + 1)) (SetTable.bits (thash P w k)) = P0 at *
    have d0 : (nth t.mask P0 c).dummy = none := nth_dummy _ c _ (by rw [← hP0]; rfl)
    have wy : ∀ n, way t.mask (thash P w k) n = (nth t.mask P0 n).j := fun n => by rw [← hP0]
    have sh : ∀ n, nth t.mask (nth t.mask P0 c) n = nth t.mask P0 (c + n) := fun n => (nth_add t.mask c _ n).symm
    have spec := go_spec t R.tab.ris R.tab.dm (fun i => (es[i]?.map (·.1)).getD 0) (thash P w k) (10 * SetTable.turns t.mask) (g - c) (nth t.mask P0 c) d0 (by omega)
      (fun n hn => by rw [sh, ← wy]; exact hb _ (by omega)) (by rw [sh, ← wy, show c + (g - c) = g by omega]; exact he)
    rcases spec with ⟨n, i, hn, hi, hh, _, pr⟩ | ⟨_, pr⟩
    · have pr2 : t.probe (fun i => (es[i]?.map (·.1)).getD 0) (thash P w k) (stand.getD (t.probeStart (thash P w k))) = some (.candidate (way t.mask (thash P w k) (c + n)) i (nth t.mask P0 (c + (n + 1)))) := by
        rw [hs, wy, ← sh, ← sh]
        exact pr
      rw [pr2]
      dsimp only
      rw [sh, ← wy] at hi
      have il : i < L.length := by
        have := (List.getElem?_eq_some_iff.mp hi).1
        rwa [Array.length_toList, R.tab.sz] at this
      obtain ⟨p, hp⟩ : ∃ p, L[i]? = some p := ⟨_, List.getElem?_eq_getElem il⟩
      have pm : p ∈ L := List.mem_of_getElem? hp
      have ne : p.2 ≠ k := fun z => new (List.mem_map.mpr ⟨p, pm, z⟩)
      have on : wpAny (model P w) A (searchRest a (.ref x) (thash P w k) true f es t (way t.mask (thash P w k) (c + n)) i (nth t.mask P0 (c + (n + 1)))) Q E s := by
        unfold searchRest
        rw [rows_at R.rows hp]
        dsimp only
        refine wpAny_bind (wpAny_holding (wpAny_eqBool_tuple hu (tup p pm) hx ?_))
        refine wpAny_bind (wpAny_setState_of ho hd R.fits ?_)
        dsimp only
        refine wp_if_neg (by simp [ne]) ?_
        try refine wpAny_bind (wpAny_pure ?_)
        rw [sameMem]
        dsimp only
        simp only [if_true, slot_live R.tab.ris hi, rows_at R.rows hp]
        refine wpAny_bind (wpAny_isSame_ref_self (wpAny_bind (wpAny_pure ?_)))
        simp only [if_true]
        refine wp_if_neg (by simp [ne]) ?_
        subst hP0
        exact seek_new R tup hx new hu hg he hb q f (c + (n + 1)) _ rfl (by omega) (by omega)
      by_cases ld : t.led = true
      · refine wp_if_neg (by simp [ld]) ?_
        first
          | exact on
          | exact wpAny_bind (wpAny_pure on)
      · refine wp_if_pos (by simpa using ld) ?_
        refine wpAny_bind (seen_tup hx (fun y hy => ?_) ?_)
        · obtain ⟨e, he', rfl⟩ := List.mem_map.mp hy
          have he2 : e ∈ es.toList := (Array.mem_filter.mp (Array.mem_toList_iff.mp he')).1 |> Array.mem_toList_iff.mpr
          rw [R.rows] at he2
          obtain ⟨r, hr, rfl⟩ := List.mem_map.mp he2
          exact ⟨r.2, r.1, rfl, tup r hr⟩
        · refine wp_if_neg (by simp) ?_
          first
            | exact on
            | exact wpAny_bind (wpAny_pure on)
    · have pr2 : t.probe (fun i => (es[i]?.map (·.1)).getD 0) (thash P w k) (stand.getD (t.probeStart (thash P w k))) = some (.empty (way t.mask (thash P w k) g) none) := by
        rw [hs, wy, show g = c + (g - c) by omega, ← sh]
        exact pr
      rw [pr2]
      dsimp only
      exact wpAny_pure q
end
end L2
namespace Rt
open PySem L2 PySem.Spec PyProof.Rows
section
variable {P : Program} {w : World} {K : PySem.W.Frag} {mg : Str → Option Value} {base : Heap}

/-! ### the set grows -/
end
end Rt
namespace L2
open PySem PySem.Spec PyProof.Rows
section
variable {P : Program} {w : World} {A : Around} {E : Value → Shared → Prop} {s : Shared} {a : Addr} {L : Rows2} {es : Array (Int × Value)} {ep : Nat} {t : SetTable}
/-- the table laid anew -/
theorem relay_any {o : Obj} (ho : s.heap.get? a = some o) (hex : o.ExactSet) (hd : o.data = .set es ep t) (hr : es.toList = rowsOf P w L) (T : TabG t L.length) (le : L.length ≤ t.mask) (nd : (L.map (·.2)).Nodup) (pl : t.plain = true)
    (ld : w.params.followText "set-order" = true ∨ t.led = true) (few : L.length ≤ 8000) {wanted : Nat} (m1 : SetTable.sizeAbove wanted - 1 ∈ maskL) (m2 : SetTable.sizeAbove wanted ≤ 32768) (m3 : L.length * 5 < (SetTable.sizeAbove wanted - 1) * 3) {Q : Unit → Shared → Prop}
    (q : ∀ h2 L2 es2 ep2 t2, Heap.SameBut a s.heap h2 → SetG P w h2 a L2 es2 ep2 t2 → L2.Perm L → Q () { s with heap := h2 }) : wpAny (model P w) A (setRelay a wanted) Q E s := by
  have size := rows_size hr
  obtain ⟨t2, order, e, pm, T2, em, el, ep2⟩ := relaid_any t (hs := es.map (·.1)) rfl (maskL_two _ m1) (by rw [Array.size_map, size]; omega)
  rw [Array.size_map, size] at pm T2
  obtain ⟨L2, r1, r2, _⟩ := order_rows L es order hr pm
  have s2 : (order.filterMap (es[·]?)).size = es.size := by rw [rows_size r1, r2.length_eq, size]
  rw [setRelay_eq]
  refine wpAny_bind (wpAny_setState_of ho hd (tabG_fits T le size) ?_)
  dsimp only
  refine wp_if_neg (by rw [sizeLine_eq]; omega) ?_
  try refine wpAny_bind (wpAny_pure ?_)
  rw [e]
  dsimp only
  refine wpAny_bind ?_
  refine wp_if_neg (by rw [s2]; simp) ?_
  try refine wpAny_bind (wpAny_pure ?_)
  refine wpAny_pure ?_
  dsimp only
  refine wpAny_storeSet_of ho hd ?_ (by rw [s2, size, sizeLine_eq]; omega)
  refine q _ L2 _ (ep + 1) t2 (Heap.SameBut.update ..) ⟨⟨_, store_at ho hd, ⟨hex.1, hex.2.1, hex.2.2⟩, rfl⟩, r1, by rw [r2.length_eq]; exact T2, by rw [em]; exact m1, (r2.map (·.2)).nodup_iff.mpr nd, by rw [ep2]; exact pl, by rw [el]; exact ld, by rw [r2.length_eq, em]; exact m3, by rw [r2.length_eq]; exact few⟩ r2
/-- a new tuple is put in -/
theorem add_new (R : SetG P w s.heap a L es ep t) (tup : ∀ p ∈ L, IsT P w s.heap p.2 p.1) {x : Addr} {k : List Int} (hx : IsT P w s.heap k x) (new : k ∉ L.map (·.2)) (hu : A.units < cLine) (few : L.length + 1 ≤ 8000) {Q : Bool → Shared → Prop}
    (q : ∀ h2 L2 es2 ep2 t2, Heap.SameBut a s.heap h2 → SetG P w h2 a L2 es2 ep2 t2 → L2.Perm ((x, k) :: L) → Q true { s with heap := h2 }) :
    wpAny (model P w) A (setAddHashed a (.ref x) (thash P w k)) Q E s := by
  obtain ⟨o, ho, hex, hd⟩ := R.ob
  have size := rows_size R.rows
  have room := R.room
  have le : L.length ≤ t.mask := by omega
  obtain ⟨g, g1, g2, g3⟩ := R.tab.first le (thash P w k)
  have jm := way_in t.mask (thash P w k) g
  unfold setAddHashed
  refine wpAny_holding ?_
  rw [show (100000 : Nat) = 99999 + 1 from rfl, setAddHashedIn_succ]
  refine wpAny_bind (wpAny_setState_of ho hd R.fits ?_)
  dsimp only
  refine wp_if_neg (by simp [byScan, Value.scannable]) ?_
  try refine wpAny_bind (wpAny_pure ?_)
  refine wpAny_bind ?_
  unfold setSearch
  refine seek_new R tup hx new hu (by unfold SetTable.turns; omega) g2 g3 ?_ 100000 0 none rfl (Nat.zero_le _) (by omega)
  generalize way t.mask (thash P w k) g = j at g2 jm
  dsimp only
  refine wpAny_bind (wpAny_setState_of ho hd R.fits ?_)
  dsimp only
  obtain ⟨T1, b1⟩ := R.tab.put jm g2
  have e2 : (t.put j).2 = SetTable.below t.place j := rfl
  have e3 : (t.put j).1.mask = t.mask := rfl
  have e4 : (t.put j).1.led = t.led := rfl
  have e5 : (t.put j).1.plain = t.plain := rfl
  have e6 : (t.put j).1.fill = L.length + 1 := by
    unfold SetTable.fill
    rw [T1.sz, T1.dm]
    rfl
  generalize t.put j = pt at T1 e2 e3 e4 e5 e6 ⊢
  obtain ⟨t1, p⟩ := pt
  dsimp only at T1 e2 e3 e4 e5 e6 ⊢
  rw [← e2] at b1
  have pl1 : t1.plain = true := e5.trans R.plain
  first
    | (refine wpAny_bind ?_; refine wp_if_pos pl1 ?_; refine hashBy_tup hx ?_)
    | refine wp_if_pos pl1 (wpAny_bind (hashBy_tup hx ?_))
  simp only [if_true]
  have r1 : (SetTable.insertAt es p (thash P w k, Value.ref x)).toList = rowsOf P w (L.take p ++ (x, k) :: L.drop p) := by
    rw [SetTable.toList_insertAt, rows_put, R.rows]
  have pm := put_perm L p (x, k)
  have nd1 : ((L.take p ++ (x, k) :: L.drop p).map (·.2)).Nodup := (pm.map (·.2)).nodup_iff.mpr (List.nodup_cons.mpr ⟨new, R.nd⟩)
  generalize SetTable.insertAt es p (thash P w k, Value.ref x) = es1 at r1 ⊢
  generalize L.take p ++ (x, k) :: L.drop p = L1 at pm nd1 r1
  have len : L1.length = L.length + 1 := pm.length_eq
  have size1 := rows_size r1
  refine wpAny_bind (wpAny_storeSet_of ho hd ?_ (by rw [size1, len, sizeLine_eq]; omega))
  have sb : Heap.SameBut a s.heap (s.heap.update a (Obj.putSet es1 t1)) := Heap.SameBut.update ..
  have ho1 := store_at (es' := es1) (t' := t1) ho hd
  generalize s.heap.update a (Obj.putSet es1 t1) = h1 at sb ho1 ⊢
  rw [← len] at T1
  have ld1 : w.params.followText "set-order" = true ∨ t1.led = true := by rw [e4]; exact R.led
  by_cases full : t1.tooFull = true
  · first
      | (refine wpAny_bind ?_; refine wp_if_pos (by simp [full]) ?_)
      | (refine wp_if_pos (by simp [full]) ?_; refine wpAny_bind ?_)
    have h2 : (L.length + 1) * 5 ≥ t.mask * 3 := by
      unfold SetTable.tooFull at full
      rw [decide_eq_true_eq, e6, e3] at full
      exact full
    obtain ⟨m1, m2, m3⟩ := maskL_next R.msk room h2 few
    rw [size]
    refine relay_any (s := { s with heap := h1 }) ho1 ⟨hex.1, hex.2.1, hex.2.2⟩ rfl r1 T1 (by rw [len, e3]; omega) nd1 pl1 ld1 (by omega) m1 m2 (by rw [len]; exact m3) ?_
    intro h2 L2 es2 ep2 t2 sb2 R2 pm2
    exact wpAny_pure (q h2 L2 es2 ep2 t2 (sb.trans sb2) R2 (pm2.trans pm))
  · first
      | refine wp_if_neg (by simp [full]) ?_
      | (refine wpAny_bind ?_; refine wp_if_neg (by simp [full]) ?_; refine wpAny_pure ?_)
    refine wpAny_pure (q h1 L1 es1 (ep + 1) t1 sb ⟨⟨_, ho1, ⟨hex.1, hex.2.1, hex.2.2⟩, rfl⟩, r1, T1, by rw [e3]; exact R.msk, nd1, pl1, ld1, ?_, by omega⟩ pm)
    unfold SetTable.tooFull at full
    rw [decide_eq_true_eq, e6] at full
    omega
end
end L2
namespace Rt
open PySem L2 PySem.Spec PyProof.Rows
section
variable {P : Program} {w : World} {K : PySem.W.Frag} {mg : Str → Option Value} {base : Heap}

/-! ### set(a list of distinct tuples of ints, of any size to 8000) -/
end
end Rt
namespace L2
open PySem PySem.Spec PyProof.Rows
section
variable {P : Program} {w : World} {A : Around} {E : Value → Shared → Prop} {s : Shared}
theorem SetG.keep {h h2 : Heap} {a : Addr} {L : Rows2} {es : Array (Int × Value)} {ep : Nat} {t : SetTable} (R : SetG P w h a L es ep t) (k : ∀ o, h.get? a = some o → h2.get? a = some o) : SetG P w h2 a L es ep t :=
  let ⟨o, ho, r⟩ := R.ob
  ⟨⟨o, k o ho, r⟩, R.rows, R.tab, R.msk, R.nd, R.plain, R.led, R.room, R.few⟩
abbrev setObj0 (w : World) : Obj := { cls := .type "set", dict := none, data := .set #[] 0 (.fresh 0 0 (!w.params.followText "set-order")) }
theorem setG_fresh {h : Heap} {a : Addr} (ho : h.get? a = some (setObj0 w)) : SetG P w h a [] #[] 0 (.fresh 0 0 (!w.params.followText "set-order")) where
  ob := ⟨_, ho, ⟨rfl, rfl, rfl⟩, rfl⟩
  rows := rfl
  tab := ⟨List.Pairwise.nil, rfl, rfl, ⟨3, rfl⟩, fun x hx => nomatch hx⟩
  msk := List.mem_cons_self
  nd := List.nodup_nil
  plain := rfl
  led := by
    show _ ∨ (!w.params.followText "set-order") = true
    cases w.params.followText "set-order" with
    | false => exact .inr rfl
    | true => exact .inl rfl
  room := (by show 0 * 5 < 7 * 3; decide)
  few := Nat.zero_le _
theorem fill_new {I : Addr} {fp wr : List Addr} {G : Array GenState → Array GenState → Prop} {n : Nat} {Pv : Nat → Value → Prop} {St : Nat → Shared → Prop} {R : Result → Shared → Prop}
    (W : WalksS P w A.in1 I fp wr G n Pv St) (S : Addr) (out : S ∉ fp) (ks : Rows2) (hn : n = ks.length) (few : n ≤ 8000) (nd : (ks.map (·.2)).Nodup) (val : ∀ i v, Pv i v → ∃ p, ks[i]? = some p ∧ v = .ref p.1)
    (h0 : Heap) (hk : ∀ p ∈ ks, IsT P w h0 p.2 p.1) (hS : h0.get? S = none) (hw : ∀ b ∈ wr, h0.get? b = none) (hu : A.in1.units < cLine) :
    ∀ (k i : Nat) (s : Shared), i + k = n → St i s → (∀ b o, h0.get? b = some o → s.heap.get? b = some o) → (∃ L es ep t, SetG P w s.heap S L es ep t ∧ L.Perm (ks.take i)) →
      (∀ s2 L es ep t, Moved (S :: wr) G s s2 → (∀ b o, h0.get? b = some o → s2.heap.get? b = some o) → SetG P w s2.heap S L es ep t → L.Perm ks → R (.ok (.ret .none)) s2) →
      codeAny (model P w) A (.builtin "set.update.loop" ⟨[.ref S, .ref I], []⟩) R s := by
  have ow : S ∉ wr := fun z => out (W.sub _ z)
  have sub : ∀ b ∈ wr, b ∈ S :: wr := fun b z => List.mem_cons_of_mem _ z
  have on : ∀ {s s2 : Shared}, Moved wr G s s2 → (∀ b o, h0.get? b = some o → s.heap.get? b = some o) → ∀ b o, h0.get? b = some o → s2.heap.get? b = some o := fun mv kp b o e =>
    mv.heap b o (fun z => by rw [hw b z] at e; cases e) (kp b o e)
  intro k
  induction k with
  | zero =>
    rintro i s rfl st kp ⟨L, es, ep, t, hL, pm⟩ q
    refine codeAny_builtin F.entry_set_update_loop ?_
    rw [Around.under_plainId F.plain_set_update_loop _]
    show wpAny _ A.in1 (pyNext (.ref I) >>= _) _ _ s
    refine wpAny_bind (W.done s _ _ st fun s2 mv => ?_)
    show wpAny _ A.in1 (ret Value.none) _ _ s2
    refine wpAny_pure (q s2 L es ep t (mv.mono sub) (on mv kp) (hL.keep fun o e => mv.heap S o ow e) ?_)
    rwa [List.take_of_length_le (by omega)] at pm
  | succ k ih =>
    rintro i s en st kp ⟨L, es, ep, t, hL, pm⟩ q
    have lt : i < n := by omega
    refine codeAny_builtin F.entry_set_update_loop ?_
    rw [Around.under_plainId F.plain_set_update_loop _]
    show wpAny _ A.in1 (pyNext (.ref I) >>= _) _ _ s
    refine wpAny_bind (W.item i s _ _ lt st fun v s2 pv st2 mv => ?_)
    obtain ⟨p, hp, rfl⟩ := val i v pv
    have kp2 := on mv kp
    have L2' : SetG P w s2.heap S L es ep t := hL.keep fun o e => mv.heap S o ow e
    have tup : ∀ r ∈ L, IsT P w s2.heap r.2 r.1 := fun r hr => isT_keep (hk r (List.mem_of_mem_take (pm.mem_iff.mp hr))) kp2
    have hx : IsT P w s2.heap p.2 p.1 := isT_keep (hk p (List.mem_of_getElem? hp)) kp2
    have tn := take_next hp
    have new : p.2 ∉ L.map (·.2) := fun z => by
      have z2 := (pm.map (·.2)).mem_iff.mp z
      have nd2 : ((ks.take (i + 1)).map (·.2)).Nodup := List.Pairwise.sublist (List.Sublist.map _ (List.take_sublist _ _)) nd
      rw [tn, List.map_append] at nd2
      exact (List.nodup_append.mp nd2).2.2 _ z2 _ List.mem_cons_self rfl
    show wpAny _ A.in1 (holding [Value.ref p.1] (setAdd S (.ref p.1)) >>= _) _ _ s2
    refine wpAny_bind (wpAny_holding ?_)
    unfold setAdd
    refine wpAny_holding ?_
    refine wpAny_bind (wpAny_pyHash_tuple hu hx ?_)
    have ln : L.length = i := by rw [pm.length_eq, List.length_take]; omega
    refine add_new (s := { s2 with toks := s2.toks + (p.2.length + 1) }) L2' tup hx new hu (by omega) fun h3 L3 es3 ep3 t3 sb R3 pm3 => ?_
    have kp3 : ∀ b o, h0.get? b = some o → h3.get? b = some o := fun b o e => (sb.2 b (fun z => by rw [z, hS] at e; cases e)).trans (kp2 b o e)
    have pm4 : L3.Perm (ks.take (i + 1)) := by
      rw [tn]
      exact pm3.trans ((pm.cons p).trans (List.perm_append_singleton p _).symm)
    refine wpAny_pure ⟨plainId_quiet F.plain_set_update_loop _, ih (i + 1) _ (by omega) (W.frame _ s2 _ _ st2 (Nat.le_add_right _ _) fun b hb o e => ?_) kp3 ⟨L3, es3, ep3, t3, R3, pm4⟩ fun s5 L5 es5 ep5 t5 mv5 kp5 R5 pm5 => ?_⟩
    · rw [sb.2 b (fun z : b = S => out (by rw [← z]; exact hb))]
      exact e
    · refine q s5 L5 es5 ep5 t5 (Moved.trans W.gtrans ((mv.mono sub).then_heap (Nat.le_add_right _ _) fun b o hb e => ?_) mv5) kp5 R5 pm5
      rw [sb.2 b (fun z : b = S => hb (by rw [z]; exact List.mem_cons_self))]
      exact e
end
end L2
namespace Rt
open PySem L2 PySem.Spec PyProof.Rows
section
variable {P : Program} {w : World} {K : PySem.W.Frag} {mg : Str → Option Value} {base : Heap}

/-! ### set(such a list): the call -/
end
end Rt
namespace L2
open PySem PySem.Spec PyProof.Rows
section
variable {P : Program} {w : World} {A : Around} {E : Value → Shared → Prop} {s : Shared}
set_option maxRecDepth 100000 in
set_option maxHeartbeats 3200000 in
theorem set_new {l : Addr} {xs : Array Value} (ks : Rows2) {Q : Value → Shared → Prop} (calm : A.handled = none) (isl : s.heap.IsList l xs) (all : xs.toList = ks.map fun p => Value.ref p.1) (hk : ∀ p ∈ ks, IsT P w s.heap p.2 p.1) (nd : (ks.map (·.2)).Nodup) (few : ks.length ≤ 8000) (hu : A.units + 3 < cLine)
    (q : ∀ (h2 : Heap) (tk : Nat) (L : Rows2) es ep t, SetG P w h2 s.heap.objs.size L es ep t → L.Perm ks → (∀ b o, s.heap.get? b = some o → h2.get? b = some o) → Q (.ref s.heap.objs.size) { s with heap := h2, toks := tk }) :
    wpAny (model P w) A (call (.type "set") [.ref l]) Q E s := by
  have len : xs.size = ks.length := by
    rw [← Array.length_toList, all, List.length_map]
  obtain ⟨c0, tl0, mro0⟩ := F.called_set.mro
  have made0 := F.called_set.made
  have sub0 := F.called_set.sub
  refine wpAny_call (codeAny_of_tree (?_ : wpAny _ _ (callAny (.type "set") _) _ _ _))
  refine wpAny_pure ⟨Code.quiet_builtin _ (by decide +kernel), (codeAny_builtin F.entry_type_call ?_)⟩
  rw [Around.under_plain (weight_type_call_type "set" [Value.ref l] []) rfl]
  have g1 := F.called_set.notType
  have g2 := F.called_set.canCreate
  have g3 := F.typeCall_set_1 (Value.ref l)
  repeat (any_goals (first | assumption | wp_step))
  refine codeAny_mono (code_set_led1 (.ref l) (E := E) (Q₁ := fun ob s2 => ob = .ref s.heap.objs.size ∧ s2 = { s with heap := s.heap.push (setObj0 w) }) ⟨rfl, rfl⟩) fun r s2 hr => ?_
  match r, hr with
  | .error e, hr => exact hr
  | .ok .next, hr => exact hr.elim
  | .ok .brk, hr => exact hr.elim
  | .ok .cont, hr => exact hr.elim
  | .ok (.ret ob), hr =>
    obtain ⟨rfl, rfl⟩ := hr
    have at0 : (s.heap.push (setObj0 w)).get? s.heap.objs.size = some (setObj0 w) := Heap.get?_push_size _ rfl
    have ty0 : Shared.TypeIs { s with heap := s.heap.push (setObj0 w) } (.ref s.heap.objs.size) "set" := ⟨_, at0, rfl⟩
    have look0 := F.called_set.init.lookup
    have bind0 := F.called_set.init.bind (Value.ref s.heap.objs.size)
    repeat (any_goals (first | assumption | wp_step))
    refine codeAny_mono (codeAny_call_builtin (R := wants (fun r s3 => r = .none ∧ ∃ h2 tk L es ep t, s3 = { s with heap := h2, toks := tk } ∧ SetG P w h2 s.heap.objs.size L es ep t ∧ L.Perm ks ∧ (∀ b o, s.heap.get? b = some o → h2.get? b = some o)) E)
      F.called_set.init.plain F.entry_set_init (check_set_init_1 ty0 ?_)) fun r3 s3 hr3 => ?_
    · obtain ⟨⟨c1, d1, dt1, sl1⟩, hol, hcl, n1, hdl⟩ := isl
      simp only at hcl hdl
      subst hcl hdl
      have atl : (s.heap.push (setObj0 w)).get? l = some { cls := .type "list", dict := d1, data := .seq xs n1, slots := sl1 } := Heap.get?_push_of_some _ hol
      have no1 := F.sub_list_set
      have no2 := F.sub_list_frozenset
      have no3 : (Value.type "list" == Value.type "dict") = false := (by decide)
      have il1 : (s.heap.push (setObj0 w)).IsList l xs := ⟨_, atl, rfl, n1, rfl⟩
      unfold Builtin.«set.__init__» noKeywords Builtin.Frozenset.updateFrom
      generalize hIT : pyIter = IT
      wp_walk
      subst hIT
      refine wpAny_pyIter_list il1 (wpAny_bind (wpAny_runValue ?_))
      have lS : l < s.heap.objs.size := Heap.lt_size hol
      have calm3 : A.in1.in1.in1.handled = none := by simp [calm]
      have neI : l ≠ (s.heap.push (setObj0 w)).objs.size := by
        rw [Heap.size_push]
        exact Nat.ne_of_lt (Nat.lt_succ_of_lt lS)
      have nofp : s.heap.objs.size ∉ [(s.heap.push (setObj0 w)).objs.size, l] := by
        intro hm
        rcases List.mem_cons.mp hm with z | z
        · rw [Heap.size_push] at z
          exact absurd z (Nat.ne_of_lt (Nat.lt_succ_self _))
        · exact absurd (List.mem_singleton.mp z) (Nat.ne_of_gt lS)
      have vals : ∀ (i : Nat) (v : Value), xs[i]? = some v → ∃ p, ks[i]? = some p ∧ v = .ref p.1 := fun i v hv => by
        rw [← Array.getElem?_toList, all, List.getElem?_map] at hv
        obtain ⟨p, hp, e⟩ := Option.map_eq_some_iff.mp hv
        exact ⟨p, hp, e.symm⟩
      have none_of : ∀ b, s.heap.objs.size ≤ b → s.heap.get? b = none := fun b hb => by
        cases q : s.heap.get? b with
        | none => rfl
        | some o => exact absurd (Nat.lt_of_lt_of_le (Heap.lt_size q) hb) (Nat.lt_irrefl _)
      refine fill_new ((Walks.list calm3 _ l neI xs).toS) s.heap.objs.size nofp ks len (by omega) nd vals s.heap hk (none_of _ (Nat.le_refl _)) (fun b hb => none_of b (by
        rw [List.mem_singleton.mp hb, Heap.size_push]
        exact Nat.le_succ _)) hu xs.size 0 _ (Nat.zero_add _) ⟨⟨_, Heap.get?_push_size _ rfl, rfl, rfl⟩, il1.push _⟩ (fun b o e => Heap.get?_push_of_some _ (Heap.get?_push_of_some _ e))
        ⟨[], #[], 0, _, setG_fresh (Heap.get?_push_of_some _ at0), List.Perm.refl _⟩ fun s4 L4 es4 ep4 t4 mv kp4 R4 pm4 => ?_
      obtain ⟨h4, gs4, dr4, tk4, os4⟩ := s4
      obtain rfl : gs4 = s.gens := mv.gens
      obtain rfl : dr4 = s.drawn := mv.drawn
      obtain rfl : os4 = s.os := mv.os
      show wpAny _ _ _ _ _ _
      refine wpAny_pure ?_
      show wpAny _ _ (ret Value.none) _ _ _
      exact wpAny_pure ⟨rfl, h4, tk4, L4, es4, ep4, t4, rfl, R4, pm4, kp4⟩
    · match r3, hr3 with
      | .error e, hr3 => exact hr3
      | .ok .next, hr3 => exact hr3.elim
      | .ok .brk, hr3 => exact hr3.elim
      | .ok .cont, hr3 => exact hr3.elim
      | .ok (.ret u), hr3 =>
        obtain ⟨rfl, h2, tk, L, es, ep, t, rfl, R2, pm2, kp⟩ := hr3
        repeat (any_goals (first | assumption | wp_step))
        exact q _ _ _ _ _ _ R2 pm2 kp
end
end L2
namespace Rt
open PySem L2 PySem.Spec PyProof.Rows
section
variable {P : Program} {w : World} {K : PySem.W.Frag} {mg : Str → Option Value} {base : Heap}

/-! ### the items of such a set, of any size -/
end
end Rt
namespace L2
open PySem PySem.Spec PyProof.Rows
section
variable {P : Program} {w : World} {A : Around} {E : Value → Shared → Prop} {s : Shared} {a : Addr} {es : Array (Int × Value)} {ep : Nat} {t : SetTable}
theorem iter_plain {Q : Value → Shared → Prop} (ha : SetAt s.heap a es ep t) (fits : t.fits es.size = true) (pl : t.plain = true) (ris : Ris t.place.toList) (ld : w.params.followText "set-order" = true ∨ t.led = true)
    (q : ∀ s2 I, SetIt P w s a es s2 I → Q (.ref I) s2) : wpAny (model P w) A (pyIter (.ref a)) Q E s := by
  obtain ⟨o, ho, hc, hd⟩ := id ha
  have ty : s.TypeIs (.ref a) "set" := ⟨o, ho, hc⟩
  have ne : a ≠ s.heap.objs.size := Nat.ne_of_lt (Heap.lt_size ho)
  refine wpAny_pyIter_slot ty F.slot_set_iter (wpAny_call_entry F.slot_set_iter ty entry_s_iter ?_ (F.args_set_iter_1 _))
  unfold Builtin.«frozenset.__iter__»
  refine wpAny_bind (m := Builtin.Frozenset.slot0 "__iter__" _) (wpAny_of_eq (a := a) (by rfl) ?_)
  refine wpAny_bind (m := Builtin.Frozenset.sizeOf a) ?_
  unfold Builtin.Frozenset.sizeOf
  refine wpAny_bind (wpAny_setEntries_of ho hd fits (wpAny_pure ?_))
  first | refine wpAny_bind (setDrawn_at ha fits ?_) | refine wpAny_bind (wpAny_bind (setDrawn_at ha fits ?_))
  rw [pl]
  refine wp_if_neg (by simp) ?_
  first | refine wpAny_bind (wpAny_pure ?_) | refine wpAny_pure ?_
  refine wpAny_bind (wpAny_setEpoch_of ho hd fits ?_)
  refine wpAny_bind (wpAny_newObj_type (wpAny_pure ⟨_, rfl, "set_iterator", _, ⟨_, Heap.get?_push_size _ rfl, rfl⟩, slot_si_next.lookup, ?_⟩))
  have fp : ∀ b ∈ [s.heap.objs.size, a], b = a ∨ s.heap.objs.size ≤ b := fun b hb => by
    rcases List.mem_cons.mp hb with z | z
    · exact .inr (Nat.le_of_eq z.symm)
    · exact .inl (List.mem_singleton.mp z)
  cases by_ : w.params.followText "set-order" with
  | true =>
    refine q _ _ (SetIt.of (out := (pickOrder (w.params.setOrder a ep) es).toList.map (·.2)) (fun B hB => walks_text (P := P) (ep := ep) hB ne fits by_) (by rw [List.length_map, Array.length_toList]) (fun b u e => Heap.get?_push_of_some _ e) rfl rfl rfl (Nat.le_refl _) fp ((pick_perm (w.params.setOrder a ep) es).map _)
      (fun j v z => ?_) ⟨⟨_, Heap.get?_push_size _ rfl, rfl, rfl⟩, ha.at fun u e => Heap.get?_push_of_some _ e⟩)
    rw [List.getElem?_map, Array.getElem?_toList]
    exact z
  | false =>
    have led : t.led = true := ld.resolve_left (by rw [by_]; exact Bool.false_ne_true)
    refine q _ _ (SetIt.of (out := es.toList.map (·.2)) (fun B hB => walks_led (P := P) (ep := ep) hB ne fits ris by_ (by rw [pl]; rfl) led) (by rw [List.length_map, Array.length_toList]) (fun b u e => Heap.get?_push_of_some _ e) rfl rfl rfl (Nat.le_refl _) fp (List.Perm.refl _)
      (fun j v z => ?_) ⟨⟨_, Heap.get?_push_size _ rfl, rfl, rfl⟩, ha.at fun u e => Heap.get?_push_of_some _ e⟩)
    rw [List.getElem?_map, Array.getElem?_toList]
    exact z
set_option maxHeartbeats 3200000 in
theorem collect_plain {Q : List Value → Shared → Prop} (calm : A.handled = none) (ha : SetAt s.heap a es ep t) (fits : t.fits es.size = true) (small : es.size ≤ sizeLine) (pl : t.plain = true) (ris : Ris t.place.toList) (ld : w.params.followText "set-order" = true ∨ t.led = true)
    (q : ∀ s2 out, (∀ b o, s.heap.get? b = some o → s2.heap.get? b = some o) → s.heap.objs.size ≤ s2.heap.objs.size → s2.gens = s.gens → s2.os = s.os → out.Perm (es.toList.map (·.2)) → Q out s2) :
    wpAny (model P w) A (collect (.ref a)) Q E s := by
  obtain ⟨o, ho, hc, hd⟩ := id ha
  have lt : a < s.heap.objs.size := Heap.lt_size ho
  have ne : s.heap.objs.size ≠ a := Nat.ne_of_gt lt
  unfold collect
  refine wpAny_bind (wpAny_runValue (codeAny_builtin F.entry_proto_collect ?_))
  rw [Around.under_plainId F.plain_proto_collect _]
  show wpAny _ A.in1 (newList [] >>= fun l => again (.builtin "list.__iadd__" ⟨[l, .ref a], []⟩)) _ _ s
  refine wpAny_bind (wpAny_newObj_type ?_)
  refine wpAny_pure ⟨plainId_quiet F.plain_list_iadd _, codeAny_builtin F.entry_list_iadd ?_⟩
  rw [Around.under_plainId F.plain_list_iadd _]
  have at1 : (s.heap.push { cls := .type "list", data := .seq ([] : List Value).toArray }).get? s.heap.objs.size = some { cls := .type "list", data := .seq ([] : List Value).toArray } := Heap.get?_push_size _ rfl
  have ha1 : SetAt (s.heap.push { cls := .type "list", data := .seq ([] : List Value).toArray }) a es ep t := ha.at fun u e => Heap.get?_push_of_some _ e
  have sz1 : (s.heap.push { cls := .type "list", data := .seq ([] : List Value).toArray }).objs.size = s.heap.objs.size + 1 := size_push' _ _
  show wpAny _ A.in1 (Builtin.List.listExtendWith (.ref s.heap.objs.size) (.ref a) (.ref s.heap.objs.size)) _ _ _
  unfold Builtin.List.listExtendWith
  refine wpAny_bind (wpAny_typeOf (T := "set") ⟨o, Heap.get?_push_of_some _ ho, hc⟩ ?_)
  have b1 : Builtin.List.listSameRef (.ref s.heap.objs.size) (.ref a) = false := by simp [Builtin.List.listSameRef, ne]
  have b2 : (Value.type "set" == Value.type "list") = false := by decide
  have b3 : (Value.type "set" == Value.type "tuple") = false := by decide
  simp only [b1, b2, b3, Bool.or_false, Bool.false_eq_true, if_false]
  refine wpAny_bind (iter_plain (s := { s with heap := s.heap.push { cls := .type "list", data := .seq ([] : List Value).toArray } }) ha1 fits pl ris ld fun s2 I it => ?_)
  obtain ⟨fp, St, out, Pv, k2, g2, o2, t2, hI, hfp, pm, walks, hPv, st0⟩ := it
  have hI2 : s.heap.objs.size + 1 ≤ I := by rw [← sz1]; exact hI
  have nofp : s.heap.objs.size ∉ fp := fun z => by
    rcases hfp _ z with y | y
    · exact ne y
    · have y2 : s.heap.objs.size + 1 ≤ s.heap.objs.size := by rw [← sz1]; exact y
      omega
  have ty2 : s2.TypeIs (.ref a) "set" := ⟨o, k2 a o (Heap.get?_push_of_some _ ho), hc⟩
  refine wpAny_bind (wpAny_holding ?_)
  unfold Builtin.List.listLengthHint
  refine wpAny_bind (wpAny_specialOf ty2 F.slot_set_len.lookup ?_)
  (generalize hid : ("set.__len__" : String) = id0; (fail_if_success (clear hid id0)); wp_delta; rw [show splitId id0 = some ("set", "__len__") from by subst hid; decide +kernel]; subst hid)
  refine wpAny_bind (wpAny_isInstance (b := true) ty2 sub_set_self ?_)
  show wpAny _ A.in1 (typeOf (.ref a) >>= _) _ _ _
  refine wpAny_bind (wpAny_typeOf ty2 ?_)
  refine wpAny_pure ?_
  show wpAny _ A.in1 (rule "list.extend.makes-room" >>= fun _ => Builtin.List.listTouch (.ref s.heap.objs.size) >>= fun _ =>
    again (.builtin "list.extend.loop" ⟨[.ref s.heap.objs.size, .ref I, .ref s.heap.objs.size], []⟩)) _ _ _
  refine wpAny_bind (wpAny_rule ?_)
  have at2 := k2 _ _ at1
  refine wpAny_bind ?_
  show wpAny _ A.in1 (updateSeq s.heap.objs.size (·.push .none) >>= fun _ => updateSeq s.heap.objs.size (·.pop)) _ _ _
  refine wpAny_bind (wpAny_updateSeq at2 rfl ?_)
  have at3 := Heap.get?_update_self (Obj.mapSeq (·.push Value.none)) at2 rfl
  refine wpAny_updateSeq at3 rfl ?_
  have at4 := Heap.get?_update_self (Obj.mapSeq (·.pop)) at3 rfl
  have oth : ∀ b u, b ≠ s.heap.objs.size → s2.heap.get? b = some u → ((s2.heap.update s.heap.objs.size (Obj.mapSeq (·.push Value.none))).update s.heap.objs.size (Obj.mapSeq (·.pop))).get? b = some u :=
    fun b u hb e => (Heap.get?_update_other _ _ (Ne.symm hb)).trans ((Heap.get?_update_other _ _ (Ne.symm hb)).trans e)
  have le : out.length ≤ sizeLine := by rw [pm.length_eq, List.length_map, Array.length_toList]; exact small
  have W := walks A.in1 calm
  have st2 : St 0 ((s2.heap.update s.heap.objs.size (Obj.mapSeq (·.push Value.none))).update s.heap.objs.size (Obj.mapSeq (·.pop))) :=
    W.frame 0 _ _ st0 fun b hb u e => oth b u (fun z => nofp (z ▸ hb)) e
  refine wpAny_pure ⟨plainId_quiet F.plain_extend_loop _, codeAny_extend_loopS W.toS le _ nofp _ out.length 0 _ _ _ rfl (Nat.zero_le _) st2 at4 (ItemsOf.nil Pv) fun s3 acc c mv at5 it5 => ?_⟩
  show wpAny _ A (load s.heap.objs.size >>= _) _ _ s3
  refine wpAny_bind (wpAny_load at5 (wpAny_pure ?_))
  show Q acc.toList s3
  rw [items_out it5 hPv]
  refine q s3 out (fun b u e => ?_) (Nat.le_of_lt (Heap.lt_size at5)) (Eq.trans mv.gens g2) (Eq.trans mv.os o2) pm
  have lb : b < s.heap.objs.size := Heap.lt_size e
  refine mv.heap b u (fun z => ?_) (oth b u (Nat.ne_of_lt lb) (k2 b u (Heap.get?_push_of_some _ e)))
  rcases List.mem_cons.mp z with z | z
  · exact absurd lb (by rw [z]; exact Nat.lt_irrefl _)
  · exact absurd lb (by rw [List.mem_singleton.mp z]; exact Nat.not_lt_of_le (Nat.le_of_succ_le hI2))
end
end L2
namespace Rt
open PySem L2 PySem.Spec PyProof.Rows
section
variable {P : Program} {w : World} {K : PySem.W.Frag} {mg : Str → Option Value} {base : Heap}

/-! ### sorted(a list of tuples of ints, of any lengths but 0) -/
end
end Rt
namespace L2
open PySem PySem.Spec PyProof.Rows
def lexI : List Int → List Int → Bool
  | [], [] => false
  | [], _ :: _ => true
  | _ :: _, [] => false
  | x :: r, y :: t => decide (x < y) || (!decide (y < x) && lexI r t)
theorem lexI_lt : ∀ r t : List Int, lexLt itemOrd (r.map Sum.inl) (t.map Sum.inl) = lexI r t
  | [], [] => rfl
  | [], _ :: _ => rfl
  | _ :: _, [] => rfl
  | x :: r, y :: t => by
    show (itemOrd.blt (Sum.inl x) (Sum.inl y) || (!itemOrd.blt (Sum.inl y) (Sum.inl x) && lexLt itemOrd (r.map Sum.inl) (t.map Sum.inl))) = _
    rw [lexI_lt r t]
    rfl
theorem lexI_total {r t : List Int} (h1 : lexI r t = false) (h2 : lexI t r = false) : r = t := by
  rw [← lexI_lt] at h1 h2
  have := lex_total (O := itemOrd) _ _ h1 h2
  exact (List.map_inj_right (fun a b e => by injection e)).mp this
theorem lexI_trans {r t u : List Int} (h1 : lexI t r = false) (h2 : lexI u t = false) : lexI u r = false := by
  rw [← lexI_lt] at h1 h2 ⊢
  cases e : lexLt itemOrd (u.map Sum.inl) (r.map Sum.inl) with
  | false => rfl
  | true =>
    rcases lex_negTrans (O := itemOrd) _ (t.map Sum.inl) _ e with z | z
    · rw [h2] at z; cases z
    · rw [h1] at z; cases z
theorem lexI_irrefl (r : List Int) : lexI r r = false := by
  rw [← lexI_lt]
  exact lex_irrefl _
theorem tupItems_ints {i : Nat} : ∀ {ns : List Int} {us : List Value}, Vals (ns.map V.int) us → tupItems (fun _ => false) i us = some (ns.map Sum.inl) := by
  intro ns
  induction ns generalizing i with
  | nil => intro us h; cases h; rfl
  | cons n ns ih =>
    intro us h
    cases h with
    | cons r t =>
      obtain ⟨tk, rfl⟩ := r
      show (if (false : Bool) = true then none else (tupItems (fun _ => false) (i + 1) _).map (Sum.inl n :: ·)) = _
      rw [if_neg Bool.false_ne_true, ih t]
      rfl
def rSortTG (K : PySem.W.Frag) : List V → Hp → VK → Prop := fun vs H Q => ∃ (a : Addr) (ps : List Addr) (c : Addr → List Int), vs = [.ref a] ∧ SqL K H a (ps.map V.ref) ∧ (∀ p ∈ ps, H p = some (.tup ((c p).map V.int)) ∧ c p ≠ []) ∧
  ∀ (qs : List Addr) (D : Addr), qs.Perm ps → qs.Pairwise (fun x y => lexI (c y) (c x) = false) → H D = none → Q (.ref D) (upd H D (.lst (qs.map V.ref)))
def refOf0 : Value → Addr
  | .ref a => a
  | _ => 0
theorem vals_refs0 : ∀ {ps : List Addr} {us : List Value}, Vals (ps.map V.ref) us → us = ps.map Value.ref
  | [], _, h => by cases h; rfl
  | p :: ps, _, h => by
    cases h with
    | cons r t =>
      cases r
      rw [vals_refs0 t]
      rfl
theorem vals_of_refs0 : ∀ ps : List Addr, Vals (ps.map V.ref) (ps.map Value.ref)
  | [] => .nil
  | p :: ps => .cons rfl (vals_of_refs0 ps)
section
variable {X : Cx}
/-- tuples of ints in the heap, as sort keys -/
theorem tups_at {pins : List (Addr × Obj)} {σ : St} {H : Hp} {s : Shared} {ps : List Addr} {c : Addr → List Int} (I : Inv X pins σ H s) (hc : ∀ p ∈ ps, H p = some (.tup ((c p).map V.int)) ∧ c p ≠ []) :
    (∀ p ∈ ps, PyProof.Rows.G.tupKeyC s.heap (fun _ => false) (.ref p) = some ((c p).map Sum.inl)) ∧ ∃ fs, TupsOf s.heap (fun _ => false) (ps.map Value.ref) fs := by
  have obj : ∀ p ∈ ps, ∃ o xs n, s.heap.get? p = some o ∧ o.cls = .type "tuple" ∧ o.data = .seq xs n ∧ Vals ((c p).map V.int) xs.toList := fun p hp => by
    obtain ⟨_, us, ru, o, ho, hcl, n, hd⟩ := I.hok _ _ (hc p hp).1
    exact ⟨o, us.toArray, n, ho, hcl, hd, by simpa using ru⟩
  have key : ∀ p ∈ ps, PyProof.Rows.G.tupKeyC s.heap (fun _ => false) (.ref p) = some ((c p).map Sum.inl) := fun p hp => by
    obtain ⟨o, xs, n, ho, hcl, hd, hv⟩ := obj p hp
    unfold PyProof.Rows.G.tupKeyC
    rw [if_pos (by simp [PyProof.Rows.G.isTupObj, ho, hcl])]
    simp only [tupKey, ho, hd]
    exact tupItems_ints hv
  have tof : ∀ l : List Addr, (∀ p ∈ l, p ∈ ps) → ∃ fs, TupsOf s.heap (fun _ => false) (l.map Value.ref) fs := by
    intro l
    induction l with
    | nil => exact fun _ => ⟨[], .nil⟩
    | cons p l ih =>
      intro hl2
      obtain ⟨fs, hfs⟩ := ih fun x hx => hl2 x (List.mem_cons_of_mem _ hx)
      obtain ⟨o, xs, n, ho, hcl, hd, hv⟩ := obj p (hl2 p List.mem_cons_self)
      have ne := (hc p (hl2 p List.mem_cons_self)).2
      generalize c p = cp at hv ne
      cases cp with
      | nil => exact absurd rfl ne
      | cons x r =>
        generalize hx : xs.toList = xl at hv
        cases hv with
        | cons r1 t1 =>
          obtain ⟨tk, rfl⟩ := r1
          refine ⟨_ :: fs, .cons ⟨p, o, xs, n, rfl, ho, hcl, hd, ?_, fun _ => ⟨x, tk, rfl⟩, fun z => nomatch z⟩ hfs⟩
          rw [← Array.getElem?_toList, hx]
          rfl
  exact ⟨key, tof ps fun _ h => h⟩
/-- what the sort leaves -/
theorem out_tups {s : Shared} {st : SortSt} {ps : List Addr} {c : Addr → List Int} (key : ∀ p ∈ ps, PyProof.Rows.G.tupKeyC s.heap (fun _ => false) (.ref p) = some ((c p).map Sum.inl)) (pm : (arrOf st).Perm (pairsOf (ps.map Value.ref)))
    (so : SortedToK (PyProof.Rows.G.tupKindC s.heap (fun _ => false)) (arrOf st) (pairsOf (ps.map Value.ref)).size) :
    ((arrOf st).map (·.2)).toList = ((arrOf st).toList.map fun e => refOf0 e.1).map Value.ref ∧ ((arrOf st).toList.map fun e => refOf0 e.1).Perm ps ∧ ((arrOf st).toList.map fun e => refOf0 e.1).Pairwise (fun x y => lexI (c y) (c x) = false) := by
  have pml := pm.toList
  rw [pairsOf_toList] at pml
  generalize hA : arrOf st = A at *
  have mem : ∀ e ∈ A.toList, e.1 = e.2 ∧ ∃ p ∈ ps, e.1 = Value.ref p := fun e he => by
    obtain ⟨e1, e2⟩ := mem_zip_self (pml.mem_iff.mp he)
    obtain ⟨p, hp, e3⟩ := List.mem_map.mp e2
    exact ⟨e1, p, hp, e3.symm⟩
  have outl : (A.map (·.2)).toList = (A.toList.map fun e => refOf0 e.1).map Value.ref := by
    rw [Array.toList_map, List.map_map]
    refine List.map_congr_left fun e he => ?_
    obtain ⟨e1, p, _, e2⟩ := mem e he
    show e.2 = Value.ref (refOf0 e.1)
    rw [← e1, e2]
    rfl
  have perm : (A.toList.map fun e => refOf0 e.1).Perm ps := by
    have z := pml.map fun e => refOf0 e.1
    rw [show (((ps.map Value.ref).zip (ps.map Value.ref)).map fun e => refOf0 e.1) = ps from by
      have : ∀ l : List Addr, (((l.map Value.ref).zip (l.map Value.ref)).map fun e => refOf0 e.1) = l := by
        intro l
        induction l with
        | nil => rfl
        | cons x l ih => exact congrArg (x :: ·) ih
      exact this ps] at z
    exact z
  have sz : A.size = (pairsOf (ps.map Value.ref)).size := pm.size_eq
  have sorted : (A.toList.map fun e => refOf0 e.1).Pairwise (fun x y => lexI (c y) (c x) = false) := by
    rw [List.pairwise_map, List.pairwise_iff_getElem]
    intro i j hi hj hij
    have h1 := so i j (Nat.le_of_lt hij) (by rw [← sz]; rwa [Array.length_toList] at hj)
    have kk : ∀ i (hi : i < A.toList.length), KK (PyProof.Rows.G.tupKindC s.heap (fun _ => false)) A i = (c (refOf0 A.toList[i].1)).map Sum.inl := fun i hi => by
      obtain ⟨_, p, hp, e2⟩ := mem _ (List.getElem_mem hi)
      unfold KK
      rw [← Array.getElem?_toList, List.getElem?_eq_getElem hi]
      show (PyProof.Rows.G.tupKeyC s.heap (fun _ => false) A.toList[i].1).getD [] = _
      rw [e2, key p hp]
      rfl
    rw [kk i hi, kk j hj] at h1
    rw [← lexI_lt]
    exact h1
  exact ⟨outl, perm, sorted⟩
theorem cr_sortTG : CallR X (.builtin "sorted") (rSortTG X.K) := by
  intro pins s σ H vs us Q I r h
  obtain ⟨a, ps, c, rfl, hs, hc, q⟩ := h
  obtain ⟨its, rv, hl, hz⟩ := I.list hs
  have eits := vals_refs0 rv
  subst eits
  rw [Vals.ref1 r]
  obtain ⟨key, fs, hfs⟩ := tups_at I hc
  refine PyProof.Rows.G.sorted_tups (shape := fun _ => false) (vs := ps.map Value.ref) (fs := fs) hl.isList hfs (fun v hv => ?_) (by rw [List.length_map] at hz ⊢; exact hz) fun st pm so _ => ?_
  · obtain ⟨p, hp, rfl⟩ := List.mem_map.mp hv
    exact ⟨_, key p hp⟩
  · obtain ⟨outl, perm, sorted⟩ := out_tups key pm so
    generalize hA : arrOf st = A at *
    obtain ⟨ep, he⟩ := PyProof.Rows.sortedAll_at s.heap (ps.map Value.ref) (A.map (·.2))
    refine ⟨.ref _, upd H (s.heap.objs.size + 1) (.lst ((A.toList.map fun e => refOf0 e.1).map V.ref)), I.laid (t' := s.toks) (fun _ _ => PyProof.Rows.sortedAll_old) (Nat.le_succ _) ⟨?_, (A.toList.map fun e => refOf0 e.1).map Value.ref, ep, vals_of_refs0 _, ?_⟩, rfl, q _ _ perm sorted (I.hok.fresh (Nat.le_succ _))⟩
    · rw [List.length_map, perm.length_eq]
      rwa [List.length_map] at hz
    · rw [← outl]
      exact he
end
end L2
namespace Rt
open PySem L2 PySem.Spec PyProof.Rows
section
variable {P : Program} {w : World} {K : PySem.W.Frag} {mg : Str → Option Value} {base : Heap}

/-! ### set(..) and sorted(set(..)) of a list of distinct tuples of ints -/
end
end Rt
namespace L2
open PySem PySem.Spec PyProof.Rows
def rowsL (ps : List Addr) (c : Addr → List Int) : Rows2 := ps.map fun p => (p, c p)
/-- the set at a, of the tuples at ps with the ints c -/
def SetGO (P : Program) (w : World) (a : Addr) (ks : Rows2) : HO := .ext fun h => ∃ L es ep t, SetG P w h a L es ep t ∧ L.Perm ks
theorem setGO_new {P : Program} {w : World} {H : Hp} {h : Heap} {a : Addr} {ks L : Rows2} {es : Array (Int × Value)} {ep : Nat} {t : SetTable} (R : SetG P w h a L es ep t) (pm : L.Perm ks) : ObjOk P w H h a (SetGO P w a ks) := by
  have ⟨o, ho, _⟩ := R.ob
  refine ⟨⟨L, es, ep, t, R, pm⟩, ⟨o, ho⟩, fun h1 h2 p k => ?_⟩
  obtain ⟨L1, es1, ep1, t1, R1, pm1⟩ := p
  exact ⟨L1, es1, ep1, t1, R1.keep k, pm1⟩
def rSetG (K : PySem.W.Frag) (P : Program) (w : World) : List V → Hp → VK → Prop := fun vs H Q => ∃ (l : Addr) (ps : List Addr) (c : Addr → List Int), vs = [.ref l] ∧ SqL K H l (ps.map V.ref) ∧ (∀ p ∈ ps, H p = some (.tup ((c p).map V.int))) ∧ (ps.map c).Nodup ∧ ps.length ≤ 8000 ∧
  ∀ a, H a = none → Q (.ref a) (upd H a (SetGO P w a (rowsL ps c)))
def rSortG (P : Program) (w : World) : List V → Hp → VK → Prop := fun vs H Q => ∃ (a : Addr) (ps : List Addr) (c : Addr → List Int), vs = [.ref a] ∧ H a = some (SetGO P w a (rowsL ps c)) ∧ (∀ p ∈ ps, H p = some (.tup ((c p).map V.int)) ∧ c p ≠ []) ∧
  ∀ (qs : List Addr) (D : Addr), qs.Perm ps → qs.Pairwise (fun x y => lexI (c y) (c x) = false) → H D = none → Q (.ref D) (upd H D (.lst (qs.map V.ref)))
theorem rowsL_fst (ps : List Addr) (c : Addr → List Int) : (rowsL ps c).map (·.1) = ps := by
  unfold rowsL
  rw [List.map_map]
  exact List.map_id _
theorem refs_of_perm : ∀ {vs : List Value} {ps : List Addr}, vs.Perm (ps.map Value.ref) → vs = (vs.map refOf0).map Value.ref ∧ (vs.map refOf0).Perm ps := by
  intro vs ps pm
  have p2 := pm.map refOf0
  rw [List.map_map, show (refOf0 ∘ Value.ref) = id from rfl, List.map_id] at p2
  refine ⟨?_, p2⟩
  rw [List.map_map]
  conv => lhs; rw [← List.map_id vs]
  refine List.map_congr_left fun v hv => ?_
  obtain ⟨p, _, rfl⟩ := List.mem_map.mp (pm.mem_iff.mp hv)
  rfl
section
variable {X : Cx}
theorem cr_setG (hc : X.calm = true) (hu : X.A.units + 64 < cLine) : CallR X (.type "set") (rSetG X.K X.prog X.w) := by
  intro pins s σ H vs us Q I r h
  obtain ⟨l, ps, c, rfl, hl, ht, nd, few, q⟩ := h
  rw [Vals.ref1 r]
  obtain ⟨its, rv, pl, hz⟩ := I.list hl
  refine set_new (P := X.prog) (w := X.w) (rowsL ps c) (I.ok.hd hc) pl.isList ?_ (fun p hp => ?_) ?_ ?_ (by omega) fun h2 tk L es ep t R pm kp => ?_
  · rw [vals_refs0 rv]
    unfold rowsL
    rw [List.map_map]
    rfl
  · obtain ⟨p0, hp0, rfl⟩ := List.mem_map.mp hp
    exact I.isT (SqT.of (ht p0 hp0))
  · unfold rowsL
    rw [List.map_map]
    exact nd
  · unfold rowsL
    rw [List.length_map]
    exact few
  · exact ⟨.ref s.heap.objs.size, _, I.laid (t' := tk) kp (Nat.le_refl _) (setGO_new R pm), rfl, q _ (I.hok.fresh (Nat.le_refl _))⟩
theorem cr_sortG (hc : X.calm = true) : CallR X (.builtin "sorted") (rSortG X.prog X.w) := by
  intro pins s σ H vs us Q I r h
  obtain ⟨a, ps, c, rfl, ha, ht, q⟩ := h
  rw [Vals.ref1 r]
  obtain ⟨L, es, ep, t, R, pmL⟩ := (show ObjOk X.prog X.w H s.heap a (SetGO X.prog X.w a (rowsL ps c)) from I.hok a _ ha).1
  obtain ⟨o, ho, hx, hd⟩ := R.ob
  have size := rows_size R.rows
  have few := R.few
  have s8 : (8000 : Nat) ≤ sizeLine := by decide
  refine Calls.call_function_entry kind_sorted plain_sorted entry_sorted (args_sorted1 _) (?_ : wpAny _ _ (Builtin.«sorted» _) _ _ _)
  unfold Builtin.«sorted»
  refine wpAny_bind (m := checkCount "sorted" 1 1 _) (wpAny_pure (wpAny_bind (collect_plain (A := X.A.in1) (I.ok.hd hc) ⟨o, ho, hx.1, hd⟩ R.fits (by omega) R.plain R.tab.ris R.led fun s1 vs kp sz gs os pm => ?_)))
  have pm2 : vs.Perm (ps.map Value.ref) := by
    rw [R.rows] at pm
    refine pm.trans ?_
    unfold rowsOf
    rw [List.map_map]
    have := (pmL.map (·.1)).map Value.ref
    rw [rowsL_fst, List.map_map] at this
    exact this
  obtain ⟨e1, p1⟩ := refs_of_perm pm2
  generalize vs.map refOf0 = rs at e1 p1
  subst e1
  have lr : rs.length = L.length := by
    rw [p1.length_eq, pmL.length_eq]
    unfold rowsL
    rw [List.length_map]
  have ht1 : ∀ p ∈ rs, H p = some (.tup ((c p).map V.int)) ∧ c p ≠ [] := fun p hp => ht p (p1.mem_iff.mp hp)
  have small : (rs.map Value.ref).length ≤ sizeLine := by rw [List.length_map, lr]; omega
  refine wpAny_bind (wpAny_newList ?_ small)
  have atL : (s1.heap.push (seqObj "list" (rs.map Value.ref).toArray 0)).get? s1.heap.objs.size = some (seqObj "list" (rs.map Value.ref).toArray 0) := Heap.get?_push_size _ rfl
  have I0 : Inv X pins σ H s1 := I.call' (ch := []) os (Un.kept kp) (I.hok.kept kp) (by rw [gs]; exact I.bare) (fun _ z => nomatch z)
  have I1 : Inv X pins σ H { s1 with heap := s1.heap.push (seqObj "list" (rs.map Value.ref).toArray 0) } := I0.kept (t' := s1.toks) fun b o e => Heap.get?_push_of_some _ e
  obtain ⟨tk1, fs, htof⟩ := tups_at I1 (c := c) ht1
  refine wpAny_bind (wpAny_holding (wpAny_call_entry slot_list_sort ⟨_, atL, rfl⟩ entry_list_sort (PyProof.Rows.G.list_sort_tups (shape := fun _ => false) (fs := fs) atL htof (fun v hv => ?_) small fun st pm so _ => ⟨_, rfl, ?_⟩) (args_list_sort _)))
  · obtain ⟨p, hp, rfl⟩ := List.mem_map.mp hv
    exact ⟨_, tk1 p hp⟩
  · obtain ⟨outl, perm, sorted⟩ := out_tups tk1 pm so
    generalize hA : arrOf st = B at *
    obtain ⟨ep2, he2⟩ := sortedHeap_at (vs := rs.map Value.ref) (out := B.map (·.2)) atL
    have kp2 : ∀ b o, s1.heap.get? b = some o → (sortedHeap (s1.heap.push (seqObj "list" (rs.map Value.ref).toArray 0)) s1.heap.objs.size (rs.map Value.ref) (B.map (·.2))).get? b = some o := fun b o e => by
      have lt := Heap.lt_size e
      rw [sortedHeap_old (Nat.ne_of_lt lt) (by rw [size_push']; exact Nat.lt_succ_of_lt lt)]
      exact Heap.get?_push_of_some _ e
    refine wpAny_pure ⟨_, rfl, .ref s1.heap.objs.size, upd H s1.heap.objs.size (.lst ((B.toList.map fun e => refOf0 e.1).map V.ref)), I0.laid (t' := s1.toks) kp2 (Nat.le_refl _) ⟨?_, (B.toList.map fun e => refOf0 e.1).map Value.ref, ep2, vals_of_refs0 _, ?_⟩, rfl, q _ _ (perm.trans p1) sorted (I0.hok.fresh (Nat.le_refl _))⟩
    · rw [List.length_map, perm.length_eq]
      omega
    · rw [← outl]
      exact he2
end
end L2
namespace Rt
open PySem L2 PySem.Spec PyProof.Rows
section
variable {P : Program} {w : World} {K : PySem.W.Frag} {mg : Str → Option Value} {base : Heap}

/-! ### the law's draws: what is drawn lies in its range; nothing but the row of the draws changes -/
theorem fmod_bd (x : Int) {m : Int} (h : 0 < m) : 0 ≤ x.fmod m ∧ x.fmod m < m := by
  rw [Int.fmod_eq_emod_of_nonneg x (by omega)]
  exact ⟨Int.emod_nonneg x (by omega), Int.emod_lt_of_pos x h⟩
abbrev rowL (a : Addr) (i s c : Int) : List V := [.ref a, .int i, .int s, .int c]
/-- the script at a: locked, or of the top's own -/
def Scr (K : PySem.W.Frag) (H : Hp) (a : Addr) (xs : List V) : Prop := (∃ o, H a = some (.frz o (.lst xs))) ∨ SqL K (fun _ => none) a xs
theorem scr_of {H : Hp} {a : Addr} {xs : List V} (hO : ∀ b, H b = none ∨ ∃ o xs, H b = some (.frz o (.lst xs))) (h : SqL K H a xs) : Scr K H a xs := by
  rcases h with (h | h) | h
  · rcases hO a with z | ⟨o, ys, z⟩
    · rw [z] at h; cases h
    · rw [z] at h; cases h
  · exact .inl h
  · exact .inr (.inr h)
theorem Scr.seq {H : Hp} {a : Addr} {xs : List V} (h : Scr K H a xs) : SqL K H a xs := by
  rcases h with h | (h | ⟨o, h⟩) | h
  · exact .inl (.inr h)
  · cases h
  · cases h
  · exact .inr h
theorem Scr.mono {H H' : Hp} {a : Addr} {xs : List V} (h : Scr K H a xs) (k : ∀ b o u, H b = some (.frz o u) → H' b = some (.frz o u)) : Scr K H' a xs := by
  rcases h with ⟨o, h⟩ | h
  · exact .inl ⟨o, k _ _ _ h⟩
  · exact .inr h
/-- at r the row of the draws over the script at a -/
def RowAt (K : PySem.W.Frag) (H : Hp) (r a : Addr) (ns : List Int) : Prop := ∃ i s c : Int, H r = some (.lst (rowL a i s c)) ∧ 0 ≤ i ∧ 0 ≤ c ∧ Scr K H a (ns.map V.int) ∧ ns.length ≤ 63
theorem RowAt.same {H H' : Hp} {r a : Addr} {ns : List Int} (h : RowAt K H r a ns) (e : Same H H') : RowAt K H' r a ns :=
  let ⟨i, s, c, h1, h2, h3, h4, h5⟩ := h
  ⟨i, s, c, e _ _ h1, h2, h3, h4.mono fun _ _ _ z => e _ _ z, h5⟩
/-- another list is changed -/
theorem RowAt.put {H : Hp} {r a q : Addr} {ns : List Int} {ys : List V} {o : HO} (h : RowAt K H r a ns) (hq : H q = some (.lst ys)) (n : q ≠ r) : RowAt K (upd H q o) r a ns :=
  let ⟨i, s, c, h1, h2, h3, h4, h5⟩ := h
  ⟨i, s, c, by rw [upd_ne (Ne.symm n)]; exact h1, h2, h3, h4.mono fun b o' u z => by rw [upd_ne (ne_of z hq (by intro y; cases y))]; exact z, h5⟩
/-- the row as the law lays it -/
theorem RowAt.start {H : Hp} {r a : Addr} {ns : List Int} {i s c : Int} (hr : H r = none) (hS : Scr K H a (ns.map V.int)) (hl : ns.length ≤ 63) (hi : 0 ≤ i) (hc : 0 ≤ c) : RowAt K (upd H r (.lst (rowL a i s c))) r a ns :=
  ⟨i, s, c, upd_same, hi, hc, hS.mono fun b o u z => by rw [upd_ne (ne_of_none z hr)]; exact z, hl⟩
def spTaken (K : PySem.W.Frag) : Sp := fun vs H Q _ => ∃ (r a : Addr) (ns : List Int) (m : Int), vs = [.ref r, .int m] ∧ 0 < m ∧ m ≤ 10 ^ 41 ∧ RowAt K H r a ns ∧
  ∀ (v : Int) (H' : Hp), 0 ≤ v → v < m → RowAt K H' r a ns → But r H H' → Q (.int v) H'
theorem ok__law_taken (T : Tx P K mg) : FnOk P w K mg base CX0 lv__law_taken T.a__law_taken T.d__law_taken ["_law_row", "_law_many"] (spTaken K) := by
  refine T.F__law_taken.ok sc__law_taken (fun vs H Q E h => ?_) (fun cdv A outer s H vs Q E hr h => ?_)
  · obtain ⟨r, a, ns, m, rfl, _⟩ := h
    rfl
  · obtain ⟨r, a, ns, m, rfl, m0, m1, ⟨i, s, c, hR, i0, c0, hK, hlen⟩, k⟩ := h
    have hKB : ∀ H', But r H H' → Scr K H' a (ns.map V.int) := fun H' b => hK.mono fun c o u z => b c _ z (ne_of z hR (by intro y; cases y))
    have hdv : ∀ x : Int, CDivW x m := fun x => wide_div m0 (b := 140) (by omega) (by decide) (by decide)
    have back : ∀ (v : Int) (i' s' c' : Int) (H' : Hp), 0 ≤ v → v < m → 0 ≤ i' → 0 ≤ c' → H' r = some (.lst (rowL a i' s' c')) → But r H H' → Q (.int v) H' := fun v i' s' c' H' v0 v1 z1 z2 e b =>
      k v H' v0 v1 ⟨i', s', c', e, z1, z2, hKB _ b, hlen⟩ b
    refine ⟨_, (pss_cons (ps_if (pt_cmpR op_gt (pe_ix ix_list (pv 0) pe_int (fun _ _ => rfl)) pe_int (nomark _)) (pss_cons (ps_set (i := 2) sc__law_taken.nd rfl (Or.inl rfl) (pe_op op_modN (pe_callTy call_int1 (by rfl) T.n_int (by decide +kernel) (pa_cons (pe_ix ix_list (pv 0) pe_int (fun _ _ => rfl)) pa_nil)) (pv 1)))
      (pss_cons (ps_asg (pe_op op_fdivW (pe_ix ix_list (pv 0) pe_int (fun _ _ => rfl)) (pv 1)) (pg_sub (pv 0) pe_int set_list))
      (pss_one (ps_ret (pv 2))))) pss_nil)
      (pss_cons (ps_asg (pe_op op_add (pe_ix ix_list (pv 0) pe_int (fun _ _ => rfl)) pe_int) (pg_sub (pv 0) pe_int set_list))
      (pss_cons (ps_if (pt_cmpR op_gt (pe_ix ix_list (pv 0) pe_int (fun _ _ => rfl)) (pe_callB call_len_seq (by rfl) T.n_len (by decide +kernel) (pa_cons (pe_ix ix_list (pv 0) pe_int (fun _ _ => rfl)) pa_nil)) (nomark _)) (pss_cons (ps_asg (pe_op op_modN (pe_callTy call_int1 (by rfl) T.n_int (by decide +kernel) (pa_cons (pe_op op_add (pe_op op_mul (pe_ix ix_list (pv 0) pe_int (fun _ _ => rfl)) pe_int) pe_int) pa_nil)) pe_int) (pg_sub (pv 0) pe_int set_list))
      (pss_one (ps_ret (pe_op op_modN (pe_callTy call_int1 (by rfl) T.n_int (by decide +kernel) (pa_cons (pe_op op_fdivW (pe_ix ix_list (pv 0) pe_int (fun _ _ => rfl)) pe_int) pa_nil)) (pv 1))))) pss_nil)
      (pss_cons (ps_set (i := 3) sc__law_taken.nd rfl (Or.inl rfl) (pe_ix ix_list (pe_ix ix_list (pv 0) pe_int (fun _ _ => rfl)) (pe_op op_sub (pe_ix ix_list (pv 0) pe_int (fun _ _ => rfl)) pe_int) (fun _ _ => rfl)))
      (pss_cons (ps_asg (pe_op op_modN (pe_callTy call_int1 (by rfl) T.n_int (by decide +kernel) (pa_cons (pe_op op_add (pe_op op_add (pe_op op_mul (pe_ix ix_list (pv 0) pe_int (fun _ _ => rfl)) pe_int) (pv 3)) pe_int) pa_nil)) pe_int) (pg_sub (pv 0) pe_int set_list))
      (pss_cons (ps_if (pt_cmpR op_ge (pv 3) (pe_op op_pow pe_int pe_int) (nomark _)) (pss_one (ps_asg (pe_op op_fdivW (pv 3) (pv 1)) (pg_sub (pv 0) pe_int set_list))) pss_nil)
      (pss_one (ps_ret (pe_op op_modN (pe_callTy call_int1 (by rfl) T.n_int (by decide +kernel) (pa_cons (pv 3) pa_nil)) (pv 1)))))))))), ?_⟩
    refine ⟨_, rfl, r, _, _, _, rfl, rfl, SqL.of hR, rfl, _, _, rfl, rfl, _, rfl, ?_⟩
    refine ite2 (fun g => ?_) (fun g => ?_)
    · -- a great cell's digits
      obtain ⟨v0, v1⟩ := fmod_bd c m0
      refine ⟨_, rfl, r, _, _, _, rfl, rfl, SqL.of hR, rfl, .inl ⟨_, rfl, _, rfl, _, _, rfl, rfl, by omega, ?_⟩⟩
      refine ⟨_, rfl, r, _, _, _, rfl, rfl, SqL.of hR, rfl, _, rfl, _, _, rfl, rfl, hdv c, _, rfl, r, _, _, _, rfl, rfl, hR, rfl, ?_⟩
      exact ⟨_, rfl, back _ i s (c / m) _ v0 v1 i0 (Int.ediv_nonneg c0 (by omega)) upd_same But.put⟩
    · refine ⟨_, rfl, r, _, _, _, rfl, rfl, SqL.of hR, rfl, _, _, rfl, rfl, _, rfl, r, _, _, _, rfl, rfl, hR, rfl, ?_⟩
      -- behind the script's end?
      have hR1 : upd H r (.lst (rowL a (i + 1) s c)) r = some (.lst (rowL a (i + 1) s c)) := upd_same
      have hB1 : But r H (upd H r (.lst (rowL a (i + 1) s c))) := But.put
      have hS1 : SqL K (upd H r (.lst (rowL a (i + 1) s c))) a (ns.map V.int) := (hKB _ hB1).seq
      refine ⟨_, rfl, r, _, _, _, rfl, rfl, SqL.of hR1, rfl, _, rfl, r, _, _, _, rfl, rfl, SqL.of hR1, rfl, a, _, rfl, .inl hS1, _, _, rfl, rfl, _, rfl, ?_⟩
      refine ite2 (fun g2 => ?_) (fun g2 => ?_)
      · refine ⟨_, rfl, r, _, _, _, rfl, rfl, SqL.of hR1, rfl, _, _, rfl, rfl, .inr ⟨by decide, by decide⟩, _, _, rfl, rfl, .inl ⟨_, rfl, _, _, rfl, rfl, (show (2147483647 : Int) ≠ 0 by decide), ?_⟩⟩
        refine ⟨_, rfl, r, _, _, _, rfl, rfl, hR1, rfl, ?_⟩
        refine ⟨_, rfl, r, _, _, _, rfl, rfl, SqL.of upd_same, rfl, _, _, rfl, rfl, wide_div (by decide) (b := 3) (by decide) (by decide) (by decide), .inl ⟨_, rfl, _, rfl, _, _, rfl, rfl, by omega, ?_⟩⟩
        obtain ⟨v0, v1⟩ := fmod_bd ((s * 48271 + 11).fmod 2147483647 / 7) m0
        exact back _ (i + 1) _ c _ v0 v1 (by omega) c0 upd_same (hB1.trans But.put)
      · have g3 : i + 1 ≤ (ns.length : Int) := by
          simp only [decide_eq_true_eq, List.length_map] at g2
          omega
        obtain ⟨z, hz⟩ : ∃ z, ns[i.toNat]? = some z := ⟨ns[i.toNat]'(by omega), List.getElem?_eq_getElem (by omega)⟩
        have hz1 : atI (ns.map V.int) (i + 1 - 1) = some (V.int z) := at_of (j := i.toNat) (by omega) (by rw [List.getElem?_map, hz]; rfl)
        refine ⟨_, rfl, r, _, _, _, rfl, rfl, SqL.of hR1, rfl, _, rfl, r, _, _, _, rfl, rfl, SqL.of hR1, rfl, _, _, rfl, rfl, a, _, _, _, rfl, rfl, hS1, hz1, ?_⟩
        refine ⟨_, rfl, r, _, _, _, rfl, rfl, SqL.of hR1, rfl, _, _, rfl, rfl, .inr ⟨by decide, by decide⟩, _, rfl, _, _, rfl, rfl, _, _, rfl, rfl, .inl ⟨_, rfl, _, _, rfl, rfl, (show (2147483647 : Int) ≠ 0 by decide), ?_⟩⟩
        refine ⟨_, rfl, r, _, _, _, rfl, rfl, hR1, rfl, ?_⟩
        have hR2 : upd (upd H r (.lst (rowL a (i + 1) s c))) r (.lst (rowL a (i + 1) ((s * 48271 + z + 11).fmod 2147483647) c)) r = some (.lst (rowL a (i + 1) ((s * 48271 + z + 11).fmod 2147483647) c)) := upd_same
        have hB2 : But r H (upd (upd H r (.lst (rowL a (i + 1) s c))) r (.lst (rowL a (i + 1) ((s * 48271 + z + 11).fmod 2147483647) c))) := hB1.trans But.put
        obtain ⟨v0, v1⟩ := fmod_bd z m0
        refine ⟨_, rfl, _, _, rfl, rfl, ⟨by decide, by decide, by decide⟩, _, _, rfl, rfl, _, rfl, ?_⟩
        refine ite2 (fun g4 => ?_) (fun g4 => ?_)
        · refine ⟨_, rfl, _, rfl, _, _, rfl, rfl, hdv z, _, rfl, r, _, _, _, rfl, rfl, hR2, rfl, ?_⟩
          have z0 : 0 ≤ z := by
            have g5 : (10 : Int) ^ 18 ≤ z := by simpa using g4
            exact Int.le_trans (by decide) g5
          refine ⟨_, rfl, .inl ⟨_, rfl, _, rfl, _, _, rfl, rfl, by omega, ?_⟩⟩
          exact back _ (i + 1) _ (z / m) _ v0 v1 (by omega) (Int.ediv_nonneg z0 (by omega)) upd_same (hB2.trans But.put)
        · refine ⟨_, rfl, .inl ⟨_, rfl, _, rfl, _, _, rfl, rfl, by omega, ?_⟩⟩
          exact back _ (i + 1) _ c _ v0 v1 (by omega) c0 hR2 hB2

/-! ### a menu: an item of a written list at a drawn place -/
theorem RowAt.new {H : Hp} {r a p : Addr} {ns : List Int} {o : HO} (h : RowAt K H r a ns) (hp : H p = none) : RowAt K (upd H p o) r a ns := h.same (same_upd hp)
theorem RowAt.ne {H : Hp} {r a p : Addr} {ns : List Int} (h : RowAt K H r a ns) (hp : H p = none) : p ≠ r :=
  let ⟨_, _, _, h1, _⟩ := h
  (ne_of_none h1 hp).symm
theorem But.new {H H1 : Hp} {r p : Addr} {o : HO} (b : But r H H1) (hp : H1 p = none) : But r H (upd H1 p o) := b.trans (Same.but (same_upd hp))
theorem But.free {H H1 : Hp} {r p : Addr} (b : But r H H1) (n : p ≠ r) (hp : H1 p = none) : H p = none := by
  cases q : H p with
  | none => rfl
  | some o =>
    rw [b p o q n] at hp
    cases hp
/-- an item of the list laid at p, at a place that is drawn -/
theorem menu {H1 : Hp} {r a p : Addr} {ns items : List Int} {m : Int} (Pr : Int → Prop) (hP : ∀ z ∈ items, Pr z) (hl : (items.length : Int) = m) (R1 : RowAt K H1 r a ns) (hp : H1 p = none) {Q : VK}
    (k : ∀ (z : Int) (H2 : Hp), Pr z → RowAt K H2 r a ns → But r H1 H2 → H2 p = some (.lst (items.map V.int)) → Q (.int z) H2) (h0 : 0 < m) (h1 : m ≤ 10 ^ 41) :
    spTaken K ([.ref r, .int m] ++ []) (upd H1 p (.lst (items.map V.int))) (fun y H2 => rIxL K (.ref p) y H2 Q) E0 := by
  refine ⟨r, a, ns, m, rfl, h0, h1, R1.new hp, fun w H2 w0 w1 R2 B2 => ?_⟩
  obtain ⟨z, hz, he⟩ := at_some Pr hP w0 (by omega)
  have npr := R1.ne hp
  exact ⟨p, _, _, _, rfl, rfl, SqL.of (B2 _ _ upd_same npr), he, k z H2 hz R2 ((Same.but (same_upd hp)).trans B2) (B2 _ _ upd_same npr)⟩
theorem at_someV (Pr : V → Prop) {xs : List V} (h : ∀ z ∈ xs, Pr z) {i : Int} (h0 : 0 ≤ i) (h1 : i < xs.length) : ∃ z, Pr z ∧ atI xs i = some z := by
  obtain ⟨z, hz⟩ : ∃ z, xs[i.toNat]? = some z := ⟨xs[i.toNat]'(by omega), List.getElem?_eq_getElem (by omega)⟩
  exact ⟨z, h z (List.mem_of_getElem? hz), at_of (j := i.toNat) (by omega) hz⟩
theorem menuV {H1 : Hp} {r a p : Addr} {ns : List Int} {items : List V} {m : Int} (Pr : V → Prop) (hP : ∀ z ∈ items, Pr z) (hl : (items.length : Int) = m) (R1 : RowAt K H1 r a ns) (hp : H1 p = none) {Q : VK}
    (k : ∀ (z : V) (H2 : Hp), Pr z → RowAt K H2 r a ns → But r H1 H2 → H2 p = some (.lst items) → Q z H2) (h0 : 0 < m) (h1 : m ≤ 10 ^ 41) :
    spTaken K ([.ref r, .int m] ++ []) (upd H1 p (.lst items)) (fun y H2 => rIxL K (.ref p) y H2 Q) E0 := by
  refine ⟨r, a, ns, m, rfl, h0, h1, R1.new hp, fun w H2 w0 w1 R2 B2 => ?_⟩
  obtain ⟨z, hz, he⟩ := at_someV Pr hP w0 (by omega)
  have npr := R1.ne hp
  exact ⟨p, _, _, _, rfl, rfl, SqL.of (B2 _ _ upd_same npr), he, k z H2 hz R2 ((Same.but (same_upd hp)).trans B2) (B2 _ _ upd_same npr)⟩
/-- a plain value: None, a bool, an int, a text -/
def flatA : V → Bool
  | .non => true | .bl _ => true | .int _ => true | .str _ => true | _ => false
theorem any_flat {T : Addr → Prop} {H : Hp} {v : V} (h : flatA v = true) : AnyV T H v := by
  cases v with
  | non => exact .non
  | bl b => exact .bl b
  | int i => exact .int i
  | str x => exact .str x
  | _ => cases h

/-! ### the row is a list -/
theorem RowAt.lst {H : Hp} {r a : Addr} {ns : List Int} (h : RowAt K H r a ns) : ∃ ys, H r = some (.lst ys) := let ⟨_, _, _, h1, _⟩ := h; ⟨_, h1⟩

/-! ### a power -/
def spPower : Sp := fun vs H Q _ => ∃ b k : Int, vs = [.int b, .int k] ∧ 0 ≤ b ∧ b ≤ 1000 ∧ 0 ≤ k ∧ k ≤ 1000000 ∧ Q (.int (b ^ k.toNat)) H
theorem ok__law_power (T : Tx P K mg) : FnOk P w K mg base CX0 lv__law_power T.a__law_power T.d__law_power ["_law_base", "_law_many"] spPower := by
  refine T.F__law_power.ok sc__law_power (fun vs H Q E h => ?_) (fun cdv A outer s H vs Q E hr h => ?_)
  · obtain ⟨b, k, rfl, _⟩ := h
    rfl
  · obtain ⟨b, k, rfl, b0, b1, k0, k1, q⟩ := h
    refine ⟨_, (pss_cons (ps_set (i := 2) sc__law_power.nd rfl (Or.inl rfl) pe_int)
      (pss_cons (ps_for PassesOwn.never rfl (pi_range1 (by rfl) T.n_range (pa_cons (pv 1) pa_nil)) (pg_name (i := 3) sc__law_power.nd rfl (Or.inl rfl)) (pss_one (ps_set (i := 2) sc__law_power.nd rfl (Or.inl rfl) (pe_op op_mul (pv 2) (pv 0)))))
      (pss_one (ps_ret (pv 2))))), ?_⟩
    refine ⟨_, rfl, k, rfl, by omega, by omega, ?_⟩
    refine for_range (lo := 0) (fun i σ H2 => ∃ v : Option V, σ = [some (.int b), some (.int k), some (.int (b ^ i)), v] ∧ H2 = H) ⟨none, by rw [Int.pow_zero]; rfl, rfl⟩ ?_ ?_
    · rintro i σ H2 hi ⟨v, rfl, rfl⟩
      refine ⟨_, rfl, _, rfl, _, _, rfl, rfl, .inr ⟨by omega, by omega⟩, ?_⟩
      exact ⟨_, by rw [Int.pow_succ]; rfl, rfl⟩
    · rintro σ H2 ⟨v, rfl, rfl⟩
      exact ⟨_, rfl, q⟩

/-! ### a drawn trick's parts -/
def spLawTrick (K : PySem.W.Frag) : Sp := fun vs H Q _ => ∃ (r a : Addr) (ns : List Int) (small : Bool), vs = [.ref r, .bl small] ∧ RowAt K H r a ns ∧
  ∀ (b t m : Int) (q : Addr) (H' : Hp), 2 ≤ b → b ≤ 16 → 1 ≤ t → t ≤ 2 → (small = true → b ≤ 5 ∨ t = 1) → -100 ≤ m → m ≤ 100 → RowAt K H' r a ns → But r H H' → H q = none → H' q = some (.lst [.int b, .int t, .int m]) → q ≠ r → Q (.ref q) H'
theorem ok__law_trick (T : Tx P K mg) : FnOk P w K mg base CX0 lv__law_trick T.a__law_trick T.d__law_trick ["_law_row", "_law_small"] (spLawTrick K) := by
  refine T.F__law_trick.ok sc__law_trick (fun vs H Q E h => ?_) (fun cdv A outer s H vs Q E hr h => ?_)
  · obtain ⟨r, a, ns, sm, rfl, _⟩ := h
    rfl
  · obtain ⟨r, a, ns, sm, rfl, R0, k⟩ := h
    refine ⟨_, (Evl.pss_cut (ps_set (i := 2) sc__law_trick.nd rfl (Or.inr rfl) (pe_ix ix_list (pe_lst (pa_cons pe_int (pa_cons pe_int (pa_cons pe_int (pa_cons pe_int (pa_cons pe_int (pa_cons pe_int (pa_cons (pe_op op_add pe_int (pe_call (ok__law_taken T) (hr.mono (by decide)) rfl T.g__law_taken T.F__law_taken.kp T.b__law_taken .nil pass0 (pa_cons (pv 0) (pa_cons pe_int pa_nil)))) pa_nil)))))))) (pe_call (ok__law_taken T) (hr.mono (by decide)) rfl T.g__law_taken T.F__law_taken.kp T.b__law_taken .nil pass0 (pa_cons (pv 0) (pa_cons pe_int pa_nil))) (fun _ _ => rfl)))
      (Evl.pss_cut (ps_set (i := 3) sc__law_trick.nd rfl (Or.inr rfl) (pe_ifExp (PW.pt (pw_and (pt_val (pv 1)) (pw_and1 (pt_cmpR op_gt (pv 2) pe_int (nomark _))))) pe_int (pe_op op_add pe_int (pe_call (ok__law_taken T) (hr.mono (by decide)) rfl T.g__law_taken T.F__law_taken.kp T.b__law_taken .nil pass0 (pa_cons (pv 0) (pa_cons pe_int pa_nil))))))
      (Evl.pss_cut (ps_set (i := 4) sc__law_trick.nd rfl (Or.inl rfl) (pe_ix ix_list (pe_lst (pa_cons pe_int (pa_cons (pe_un un_neg pe_int) (pa_cons (pe_un un_neg pe_int) (pa_cons pe_int (pa_cons (pe_op op_sub (pe_call (ok__law_taken T) (hr.mono (by decide)) rfl T.g__law_taken T.F__law_taken.kp T.b__law_taken .nil pass0 (pa_cons (pv 0) (pa_cons pe_int pa_nil))) pe_int) (pa_cons (pe_op op_sub (pe_call (ok__law_taken T) (hr.mono (by decide)) rfl T.g__law_taken T.F__law_taken.kp T.b__law_taken .nil pass0 (pa_cons (pv 0) (pa_cons pe_int pa_nil))) pe_int) pa_nil))))))) (pe_call (ok__law_taken T) (hr.mono (by decide)) rfl T.g__law_taken T.F__law_taken.kp T.b__law_taken .nil pass0 (pa_cons (pv 0) (pa_cons pe_int pa_nil))) (fun _ _ => rfl)))
      (Evl.pss_cut (ps_if (pt_cmpR op_eq (pe_call (ok__law_taken T) (hr.mono (by decide)) rfl T.g__law_taken T.F__law_taken.kp T.b__law_taken .nil pass0 (pa_cons (pv 0) (pa_cons pe_int pa_nil))) pe_int (nomark _)) (pss_cons (ps_set (i := 5) sc__law_trick.nd rfl (Or.inr rfl) (pe_op op_add pe_int (pe_call (ok__law_taken T) (hr.mono (by decide)) rfl T.g__law_taken T.F__law_taken.kp T.b__law_taken .nil pass0 (pa_cons (pv 0) (pa_cons pe_int pa_nil)))))
      (pss_cons (ps_setLc (i := 6) (own := [("_law_one", 7)]) (g := gName 7) rfl sc__law_trick.nd rfl rfl (sw_true rfl rfl rfl (by decide +kernel)) (pi_range1 (by rfl) T.n_range (pa_cons (pv 5) pa_nil)) (blkOk_by (own := [("_law_one", 7)]) (N := ["_law_row", "_law_small", "_law_base", "_law_take", "_law_times", "_law_d", "_law_some", "_law_one"]) (sc := defScope s__law_trick) (by decide +kernel)) (fun _ _ _ _ _ => pg_name (i := 7) sc__law_trick.nd rfl (Or.inl rfl)) (fun _ _ _ _ _ => pts_one (pt_cmpR op_eq (pe_op op_modN (pe_op op_mul (pv 7) (pe_call (ok__law_power T) (hr.mono (by decide)) rfl T.g__law_power T.F__law_power.kp T.b__law_power .nil pass0 (pa_cons (pv 2) (pa_cons (pv 3) pa_nil)))) (pv 5)) pe_int (nomark _))) (fun _ _ _ _ _ => (pv 7)))
      (pss_one (ps_set (i := 4) sc__law_trick.nd rfl (Or.inl rfl) (pe_ifExp (pt_cmpR (op_neD hr.units) (pv 6) (pe_lst pa_nil) (nomark _)) (pe_op op_sub (pe_ix ix_list (pv 6) pe_int (fun _ _ => rfl)) (pe_op op_mul (pv 5) (pe_call (ok__law_taken T) (hr.mono (by decide)) rfl T.g__law_taken T.F__law_taken.kp T.b__law_taken .nil pass0 (pa_cons (pv 0) (pa_cons pe_int pa_nil))))) (pv 4)))))) pss_nil)
      (pss_one (ps_ret (pe_lst (pa_cons (pv 2) (pa_cons (pv 3) (pa_cons (pv 4) pa_nil)))))))))), ?_⟩
    -- the base
    refine ⟨fun σ H1 => ∃ b : Int, 2 ≤ b ∧ b ≤ 16 ∧ RowAt K H1 r a ns ∧ But r H H1 ∧ σ = [some (.ref r), some (.bl sm), some (.int b), none, none, none, none, none], ?_, ?_⟩
    · refine ⟨_, rfl, r, a, ns, _, rfl, by decide, by decide, R0, fun v H1 v0 v1 R1 B1 => ?_⟩
      refine ⟨_, _, rfl, rfl, by show 7 ≤ sizeLine; decide, fun p hp => ?_⟩
      refine ⟨_, rfl, menu (items := [10, 2, 3, 7, 8, 16, 2 + v]) (fun z => 2 ≤ z ∧ z ≤ 16) (by simp; omega) rfl R1 hp (fun z H2 hz R2 B2 _ => ?_) (by show (0 : Int) < 7; decide) (by show (7 : Int) ≤ 10 ^ 41; decide)⟩
      exact ⟨z, hz.1, hz.2, R2, B1.trans B2, rfl⟩
    rintro σ H1 ⟨b, b1, b2, R1, B1, rfl⟩
    -- the figures
    refine ⟨fun σ H2 => ∃ t : Int, 1 ≤ t ∧ t ≤ 2 ∧ (sm = true → b ≤ 5 ∨ t = 1) ∧ RowAt K H2 r a ns ∧ But r H H2 ∧ σ = [some (.ref r), some (.bl sm), some (.int b), some (.int t), none, none, none, none], ?_, ?_⟩
    · refine ⟨_, rfl, _, rfl, ?_⟩
      refine ite2 (fun g => ?_) (fun g => ?_)
      · refine ⟨_, rfl, _, _, rfl, rfl, _, rfl, ?_⟩
        refine ite2 (fun g2 => ?_) (fun g2 => ?_)
        · exact ⟨1, by decide, by decide, fun _ => .inr rfl, R1, B1, rfl⟩
        · refine ⟨_, rfl, r, a, ns, _, rfl, by decide, by decide, R1, fun v H2 v0 v1 R2 B2 => ?_⟩
          refine ⟨_, _, rfl, rfl, 1 + v, by omega, by omega, fun _ => .inl ?_, R2, B1.trans B2, rfl⟩
          simpa using g2
      · refine iteF ?_
        refine ⟨_, rfl, r, a, ns, _, rfl, by decide, by decide, R1, fun v H2 v0 v1 R2 B2 => ?_⟩
        exact ⟨_, _, rfl, rfl, 1 + v, by omega, by omega, fun z => absurd z g, R2, B1.trans B2, rfl⟩
    clear R1 B1
    rintro σ H1 ⟨t, t1, t2, hst, R1, B1, rfl⟩
    -- the multiplier
    refine ⟨fun σ H2 => ∃ m : Int, -100 ≤ m ∧ m ≤ 100 ∧ RowAt K H2 r a ns ∧ But r H H2 ∧ σ = [some (.ref r), some (.bl sm), some (.int b), some (.int t), some (.int m), none, none, none], ?_, ?_⟩
    · refine ⟨_, rfl, _, rfl, _, rfl, r, a, ns, _, rfl, by decide, by decide, R1, fun v H2 v0 v1 R2 B2 => ?_⟩
      refine ⟨_, _, rfl, rfl, _, rfl, r, a, ns, _, rfl, by decide, by decide, R2, fun v' H3 v0' v1' R3 B3 => ?_⟩
      refine ⟨_, _, rfl, rfl, by show 6 ≤ sizeLine; decide, fun p hp => ?_⟩
      refine ⟨_, rfl, menu (items := [1, -1, -2, 0, v - 10, v' - 100]) (fun z => -100 ≤ z ∧ z ≤ 100) (by simp; omega) rfl R3 hp (fun z H4 hz R4 B4 _ => ?_) (by show (0 : Int) < 6; decide) (by show (6 : Int) ≤ 10 ^ 41; decide)⟩
      exact ⟨z, hz.1, hz.2, R4, B1.trans (B2.trans (B3.trans B4)), rfl⟩
    clear R1 B1
    rintro σ H1 ⟨m, m1, m2, R1, B1, rfl⟩
    -- a multiplier that tells multiples
    refine ⟨fun σ H2 => ∃ (m : Int) (x y z : Option V), -100 ≤ m ∧ m ≤ 100 ∧ RowAt K H2 r a ns ∧ But r H H2 ∧ σ = [some (.ref r), some (.bl sm), some (.int b), some (.int t), some (.int m), x, y, z], ?_, ?_⟩
    · refine ⟨_, rfl, r, a, ns, _, rfl, by decide, by decide, R1, fun v H2 v0 v1 R2 B2 => ?_⟩
      refine ⟨rfl, _, rfl, ?_⟩
      refine ite2 (fun g => ?_) (fun g => ?_)
      · refine ⟨_, rfl, r, a, ns, _, rfl, by decide, by decide, R2, fun d' H3 d0 d1 R3 B3 => ?_⟩
        refine ⟨_, _, rfl, rfl, ?_⟩
        dsimp only
        generalize hd : 2 + d' = d
        refine ⟨_, rfl, d, rfl, by omega, by omega, fun D hD => ?_⟩
        have hDr := R3.ne hD
        refine lc_range (lo := 0) (n := d.toNat) (fun i H4 => ∃ acc : List Int, (∀ z ∈ acc, 0 ≤ z ∧ z < d) ∧ acc.length ≤ i ∧ H4 = upd H3 D (.lst (acc.map V.int))) ⟨[], by simp, Nat.le_refl _, rfl⟩ ?_ ?_
        · rintro i H4 hi ⟨acc, hacc, hlen, rfl⟩
          refine ⟨rfl, ?_⟩
          refine ⟨_, rfl, _, rfl, _, rfl, b, t, rfl, by omega, by omega, by omega, by omega, ?_⟩
          refine ⟨_, _, rfl, rfl, .inl ⟨by omega, by omega⟩, _, rfl, _, _, rfl, rfl, (show d ≠ 0 by omega), rfl, _, rfl, ?_⟩
          refine ite2 (fun g2 => ?_) (fun g2 => ?_)
          · refine ⟨_, rfl, _, upd_same, by rw [List.length_map]; exact small1000 (by omega), acc ++ [(0 : Int) + (i : Int)], ?_, by simp; omega, by rw [upd_upd, List.map_append]; rfl⟩
            intro z hz
            rcases List.mem_append.mp hz with hz | hz
            · exact hacc z hz
            · have ez : z = 0 + (i : Int) := by simpa using hz
              omega
          · exact ⟨acc, hacc, by omega, rfl⟩
        · rintro H4 ⟨acc, hacc, hlen, rfl⟩
          have R4 := R3.new (o := .lst (acc.map V.int)) hD
          have B4 := (B2.trans B3).new (o := .lst (acc.map V.int)) hD
          have eD : upd H3 D (.lst (acc.map V.int)) D = some (.lst (acc.map V.int)) := upd_same
          generalize upd H3 D (.lst (acc.map V.int)) = H4 at R4 B4 eD ⊢
          refine ⟨_, rfl, by show 0 ≤ sizeLine; decide, fun p hp => ?_⟩
          have npD : D ≠ p := ne_of_none eD hp
          refine ⟨_, _, dp_ints (SqL.of (by rw [upd_ne npD]; exact eD)), dp_ints (ns := []) (SqL.of upd_same), shaped_lints _, shaped_lints _, ?_⟩
          rw [eqv_ints]
          refine ⟨_, rfl, ?_⟩
          refine ite2 (fun g2 => ?_) (fun g2 => ?_)
          · have hne : acc ≠ [] := by simpa using g2
            obtain ⟨z, acc', rfl⟩ : ∃ z acc', acc = z :: acc' := by
              cases acc with
              | nil => exact absurd rfl hne
              | cons z acc' => exact ⟨z, acc', rfl⟩
            obtain ⟨z0, z1⟩ := hacc z List.mem_cons_self
            refine ⟨_, rfl, D, _, _, _, rfl, rfl, SqL.of (by rw [upd_ne npD]; exact eD), at_of (j := 0) rfl rfl, _, rfl, _, rfl, r, a, ns, _, rfl, by decide, by decide, R4.new hp, fun v3 H5 v30 v31 R5 B5 => ?_⟩
            refine ⟨_, _, rfl, rfl, .inl ⟨by omega, by omega⟩, _, _, rfl, rfl, ?_⟩
            refine ⟨z - d * v3, _, _, _, ?_, ?_, R5, (B1.trans (B4.new hp)).trans B5, rfl⟩
            · have q : d * v3 ≤ d * 1 := Int.mul_le_mul_of_nonneg_left (by omega) (by omega)
              omega
            · have q : 0 ≤ d * v3 := Int.mul_nonneg (by omega) v30
              omega
          · exact ⟨_, rfl, m, _, _, _, m1, m2, R4.new hp, B1.trans (B4.new hp), rfl⟩
      · exact ⟨m, none, none, none, m1, m2, R2, B1.trans B2, rfl⟩
    clear R1 B1 m1 m2
    rintro σ H1 ⟨m, x, y, z, m1, m2, R1, B1, rfl⟩
    refine ⟨_, rfl, _, rfl, _, rfl, by show 3 ≤ sizeLine; decide, fun q hq => ?_⟩
    exact k b t m q _ b1 b2 t1 t2 hst m1 m2 (R1.new hq) (B1.new hq) (B1.free (R1.ne hq) hq) upd_same (R1.ne hq)

/-! ### the number behind a trick -/
def behind (b t m n : Int) : Int := (n - n.fmod (blockOf b t)) / blockOf b t + m * n.fmod (blockOf b t)
def spBehind (K : PySem.W.Frag) : Sp := fun vs H Q _ => ∃ (q : Addr) (b t m n : Int), vs = [.ref q, .int n] ∧ SqL K H q [.int b, .int t, .int m] ∧ 2 ≤ b ∧ b ≤ 16 ∧ -100 ≤ m ∧ m ≤ 100 ∧ Q (.int (behind b t m n)) H
theorem ok__law_behind (T : Tx P K mg) : FnOk P w K mg base CX0 lv__law_behind T.a__law_behind T.d__law_behind ["_law_told", "_law_n"] (spBehind K) := by
  refine T.F__law_behind.ok sc__law_behind (fun vs H Q E h => ?_) (fun cdv A outer s H vs Q E hr h => ?_)
  · obtain ⟨q, b, t, m, n, rfl, _⟩ := h
    rfl
  · obtain ⟨q, b, t, m, n, rfl, hq, b1, b2, m1, m2, k⟩ := h
    obtain ⟨B1, B2⟩ := block_bd (t := t) b1 b2
    refine ⟨_, (pss_cons (ps_asg (pv 0) (pg_unl rfl (pgs_cons (pg_name (i := 2) sc__law_behind.nd rfl (Or.inl rfl)) (pgs_cons (pg_name (i := 3) sc__law_behind.nd rfl (Or.inl rfl)) (pgs_cons (pg_name (i := 4) sc__law_behind.nd rfl (Or.inl rfl)) pgs_nil)))))
      (Evl.pss_cut (ps_set (i := 5) sc__law_behind.nd rfl (Or.inl rfl) (pe_ifExp (pt_cmpR op_eq (pv 3) pe_int (nomark _)) (pv 2) (pe_op op_mul (pv 2) (pv 2))))
      (pss_cons (ps_set (i := 6) sc__law_behind.nd rfl (Or.inl rfl) (pe_op op_modN (pv 1) (pv 5)))
      (pss_one (ps_ret (pe_op op_add (pe_op op_fdivW (pe_op op_sub (pv 1) (pv 6)) (pv 5)) (pe_op op_mul (pv 4) (pv 6)))))))), ?_⟩
    refine ⟨_, rfl, q, _, rfl, hq, rfl, _, _, rfl, _, _, rfl, _, _, rfl, rfl, ?_⟩
    -- the block
    refine ⟨fun σ H1 => ∃ x : Option V, H1 = H ∧ σ = [some (.ref q), some (.int n), some (.int b), some (.int t), some (.int m), some (.int (blockOf b t)), x], ?_, ?_⟩
    · refine ⟨_, rfl, rfl, _, rfl, ?_⟩
      refine ite2 (fun c => ?_) (fun c => ?_)
      · have c1 : t = 1 := by simpa using c
        exact ⟨_, rfl, none, rfl, by unfold blockOf; rw [if_pos c1]; rfl⟩
      · have c1 : ¬ t = 1 := by simpa using c
        exact ⟨_, rfl, _, rfl, _, _, rfl, rfl, .inl ⟨by omega, by omega⟩, none, rfl, by unfold blockOf; rw [if_neg c1]; rfl⟩
    rintro σ H1 ⟨x, rfl, rfl⟩
    refine ⟨_, rfl, _, rfl, _, _, rfl, rfl, (show blockOf b t ≠ 0 by omega), ?_⟩
    exact ⟨_, rfl, _, rfl, _, _, rfl, rfl, _, rfl, _, _, rfl, rfl, wide_div (by omega) (b := 9) (by omega) (by decide) (by decide), _, rfl, _, rfl, _, _, rfl, rfl, .inl ⟨by omega, by omega⟩, _, _, rfl, rfl, k⟩

/-! ### what a trick makes -/
def made (b t m n : Int) : Int := n / blockOf b t + m * n.fmod (blockOf b t)

/-! ### the two ways to say what is behind a trick -/
theorem behind_made {b t m n : Int} (h : 2 ≤ blockOf b t) : behind b t m n = made b t m n := by
  unfold behind made
  congr 1
  rw [Int.fmod_eq_emod_of_nonneg n (by omega)]
  have e := Int.mul_ediv_add_emod n (blockOf b t)
  have e2 : n - n % blockOf b t = blockOf b t * (n / blockOf b t) := by omega
  rw [e2, Int.mul_ediv_cancel_left _ (by omega)]

/-! ### a drawn number -/
def spNumber (K : PySem.W.Frag) : Sp := fun vs H Q _ => ∃ (r a : Addr) (ns : List Int), vs = [.ref r] ∧ RowAt K H r a ns ∧ ∀ (v : Int) (H' : Hp), -(10 ^ 40) ≤ v → v ≤ 10 ^ 40 → RowAt K H' r a ns → But r H H' → Q (.int v) H'
theorem ok__law_number (T : Tx P K mg) : FnOk P w K mg base CX0 lv__law_number T.a__law_number T.d__law_number ["_law_row"] (spNumber K) := by
  refine T.F__law_number.ok sc__law_number (fun vs H Q E h => ?_) (fun cdv A outer s H vs Q E hr h => ?_)
  · obtain ⟨r, a, ns, rfl, _⟩ := h
    rfl
  · obtain ⟨r, a, ns, rfl, R0, k⟩ := h
    refine ⟨_, (Evl.pss_cut (ps_set (i := 1) sc__law_number.nd rfl (Or.inl rfl) (pe_ix ix_list (pe_lst (pa_cons pe_int (pa_cons pe_int (pa_cons (pe_op op_pow pe_int pe_int) (pa_cons (pe_op op_pow pe_int pe_int) pa_nil))))) (pe_call (ok__law_taken T) (hr.mono (by decide)) rfl T.g__law_taken T.F__law_taken.kp T.b__law_taken .nil pass0 (pa_cons (pv 0) (pa_cons pe_int pa_nil))) (fun _ _ => rfl)))
      (Evl.pss_cut (ps_set (i := 2) sc__law_number.nd rfl (Or.inl rfl) (pe_ifExp (pt_cmpR op_gt (pe_call (ok__law_taken T) (hr.mono (by decide)) rfl T.g__law_taken T.F__law_taken.kp T.b__law_taken .nil pass0 (pa_cons (pv 0) (pa_cons pe_int pa_nil))) pe_int (nomark _)) (pe_call (ok__law_taken T) (hr.mono (by decide)) rfl T.g__law_taken T.F__law_taken.kp T.b__law_taken .nil pass0 (pa_cons (pv 0) (pa_cons (pe_op op_add (pv 1) pe_int) pa_nil))) (pv 1)))
      (pss_one (ps_ret (pe_ifExp (pt_cmpR op_gt (pe_call (ok__law_taken T) (hr.mono (by decide)) rfl T.g__law_taken T.F__law_taken.kp T.b__law_taken .nil pass0 (pa_cons (pv 0) (pa_cons pe_int pa_nil))) pe_int (nomark _)) (pv 2) (pe_un un_neg (pv 2))))))), ?_⟩
    refine ⟨fun σ H1 => ∃ z : Int, 1 ≤ z ∧ z ≤ 10 ^ 40 ∧ RowAt K H1 r a ns ∧ But r H H1 ∧ σ = [some (.ref r), some (.int z), none], ?_, ?_⟩
    · refine ⟨_, _, rfl, rfl, ⟨by decide, by decide, by decide⟩, _, _, rfl, rfl, ⟨by decide, by decide, by decide⟩, by show 4 ≤ sizeLine; decide, fun p hp => ?_⟩
      refine ⟨_, rfl, menu (items := [9, 200, 10 ^ (6 : Int).toNat, 10 ^ (40 : Int).toNat]) (fun z => 1 ≤ z ∧ z ≤ 10 ^ 40) ?_ rfl R0 hp (fun z H2 hz R2 B2 _ => ?_) (by show (0 : Int) < 4; decide) (by show (4 : Int) ≤ 10 ^ 41; decide)⟩
      · intro z hz
        rcases List.mem_cons.mp hz with rfl | hz
        · decide
        rcases List.mem_cons.mp hz with rfl | hz
        · decide
        rcases List.mem_cons.mp hz with rfl | hz
        · decide
        rcases List.mem_cons.mp hz with rfl | hz
        · decide
        · cases hz
      · exact ⟨z, hz.1, hz.2, R2, B2, rfl⟩
    rintro σ H1 ⟨z, z1, z2, R1, B1, rfl⟩
    refine ⟨fun σ H2 => ∃ n : Int, 0 ≤ n ∧ n ≤ 10 ^ 40 ∧ RowAt K H2 r a ns ∧ But r H H2 ∧ σ = [some (.ref r), some (.int z), some (.int n)], ?_, ?_⟩
    · refine ⟨_, rfl, r, a, ns, _, rfl, by decide, by decide, R1, fun v H2 v0 v1 R2 B2 => ?_⟩
      refine ⟨_, _, rfl, rfl, _, rfl, ?_⟩
      refine ite2 (fun g => ?_) (fun g => ?_)
      · refine ⟨_, rfl, _, rfl, _, _, rfl, rfl, r, a, ns, _, rfl, by omega, by omega, R2, fun n H3 n0 n1 R3 B3 => ?_⟩
        exact ⟨n, n0, by omega, R3, B1.trans (B2.trans B3), rfl⟩
      · exact ⟨_, rfl, z, by omega, z2, R2, B1.trans B2, rfl⟩
    clear R1 B1
    rintro σ H1 ⟨n, n0, n1, R1, B1, rfl⟩
    refine ⟨_, rfl, r, a, ns, _, rfl, by decide, by decide, R1, fun v H2 v0 v1 R2 B2 => ?_⟩
    refine ⟨_, _, rfl, rfl, _, rfl, ?_⟩
    refine ite2 (fun g => ?_) (fun g => ?_)
    · exact ⟨_, rfl, k n H2 (by omega) n1 R2 (B1.trans B2)⟩
    · exact ⟨_, rfl, _, rfl, k (-n) H2 (by omega) (by omega) R2 (B1.trans B2)⟩

/-! ### what fits some pairs: which, and in which order -/
theorem fit0_mem {zs : List (Int × Int)} {b t m : Int} : (b, t, m) ∈ fit0 zs 15 ↔ (2 ≤ b ∧ b ≤ 16) ∧ (1 ≤ t ∧ t ≤ 2) ∧ (-100 ≤ m ∧ m ≤ 100) ∧ ∀ z ∈ zs, mkW (blockOf b t) m z.1 = z.2 := by
  have inM : ∀ {B : Int}, m ∈ fitM B zs ↔ (-100 ≤ m ∧ m ≤ 100) ∧ ∀ z ∈ zs, mkW B m z.1 = z.2 := fun {B} => by
    unfold fitM
    rw [List.mem_filter, List.all_eq_true]
    refine ⟨fun ⟨h1, h2⟩ => ⟨?_, fun z hz => of_decide_eq_true (h2 z hz)⟩, fun ⟨h1, h2⟩ => ⟨?_, fun z hz => decide_eq_true (h2 z hz)⟩⟩
    · obtain ⟨i, hi, rfl⟩ := List.mem_map.mp h1
      have := List.mem_range.mp hi
      omega
    · exact List.mem_map.mpr ⟨(m + 100).toNat, List.mem_range.mpr (by omega), by omega⟩
  unfold fit0
  constructor
  · intro h
    obtain ⟨x, hx, h⟩ := List.mem_flatMap.mp h
    obtain ⟨y, hy, h⟩ := List.mem_flatMap.mp h
    obtain ⟨m', hm, e⟩ := List.mem_map.mp h
    cases e
    have := List.mem_range.mp hx
    have := List.mem_range.mp hy
    have := inM.mp hm
    exact ⟨by omega, by omega, this⟩
  · rintro ⟨h1, h2, h3⟩
    refine List.mem_flatMap.mpr ⟨(b - 2).toNat, List.mem_range.mpr (by omega), List.mem_flatMap.mpr ⟨(t - 1).toNat, List.mem_range.mpr (by omega), ?_⟩⟩
    rw [show (2 : Int) + ((b - 2).toNat : Nat) = b by omega, show (1 : Int) + ((t - 1).toNat : Nat) = t by omega]
    exact List.mem_map.mpr ⟨m, inM.mpr h3, rfl⟩
def tl3 (z : Tri) : List Int := [z.1, z.2.1, z.2.2]
theorem lexI_b {b b2 : Int} (h : b < b2) (r s : List Int) : lexI (b :: r) (b2 :: s) = true := by
  simp only [lexI, decide_eq_true h, Bool.true_or]
theorem lexI_same {b : Int} (r s : List Int) : lexI (b :: r) (b :: s) = lexI r s := by
  simp [lexI]
theorem fit0_asc (zs : List (Int × Int)) : (fit0 zs 15).Pairwise fun x y => lexI (tl3 x) (tl3 y) = true := by
  have a2 : ∀ b t : Int, (fit2 zs b t).Pairwise fun x y => lexI (tl3 x) (tl3 y) = true := fun b t => by
    refine List.pairwise_map.mpr (List.Pairwise.filter _ (List.pairwise_map.mpr (List.Pairwise.imp (fun {x y} h => ?_) List.pairwise_lt_range)))
    show lexI [b, t, -100 + (x : Int)] [b, t, -100 + (y : Int)] = true
    rw [lexI_same, lexI_same]
    exact lexI_b (by omega) _ _
  unfold fit0
  rw [List.pairwise_flatMap]
  refine ⟨fun x _ => ?_, List.Pairwise.imp (fun {x x2} h z hz z2 hz2 => ?_) List.pairwise_lt_range⟩
  · unfold fit1
    rw [List.pairwise_flatMap]
    refine ⟨fun y _ => a2 _ _, List.Pairwise.imp (fun {y y2} h z hz z2 hz2 => ?_) List.pairwise_lt_range⟩
    obtain ⟨m, _, rfl⟩ := List.mem_map.mp hz
    obtain ⟨m2, _, rfl⟩ := List.mem_map.mp hz2
    show lexI [2 + (x : Int), 1 + (y : Int), m] [2 + (x : Int), 1 + (y2 : Int), m2] = true
    rw [lexI_same]
    exact lexI_b (by omega) _ _
  · obtain ⟨y, _, hz⟩ := List.mem_flatMap.mp hz
    obtain ⟨y2, _, hz2⟩ := List.mem_flatMap.mp hz2
    obtain ⟨m, _, rfl⟩ := List.mem_map.mp hz
    obtain ⟨m2, _, rfl⟩ := List.mem_map.mp hz2
    exact lexI_b (by omega) _ _
/-- what is sorted is what stood in order -/
theorem sorted_as {c : Addr → List Int} : ∀ {ps qs : List Addr}, qs.Perm ps → qs.Pairwise (fun x y => lexI (c y) (c x) = false) → ps.Pairwise (fun x y => lexI (c x) (c y) = true) → qs = ps
  | [], qs, pm, _, _ => pm.eq_nil
  | p :: ps, [], pm, _, _ => absurd pm.symm.eq_nil (List.cons_ne_nil _ _)
  | p :: ps, q :: qs, pm, h1, h2 => by
    obtain ⟨h3, h4⟩ := List.pairwise_cons.mp h1
    obtain ⟨h5, h6⟩ := List.pairwise_cons.mp h2
    have e : q = p := by
      rcases List.mem_cons.mp (pm.mem_iff.mp (List.mem_cons_self (a := q))) with z | z
      · exact z
      · rcases List.mem_cons.mp (pm.mem_iff.mpr (List.mem_cons_self (a := p))) with y | y
        · exact y.symm
        · have := h5 _ z
          rw [h3 _ y] at this
          cases this
    subst e
    rw [sorted_as (List.Perm.cons_inv pm) h4 h6]
def intOf3 : V → Int
  | .int i => i
  | _ => 0
def cont3 (H : Hp) (p : Addr) : List Int := match H p with
  | some (.tup xs) => xs.map intOf3
  | _ => []
theorem cont3_at {H : Hp} {p : Addr} {r : List Int} (h : H p = some (.tup (r.map V.int))) : cont3 H p = r := by
  unfold cont3
  rw [h]
  show (r.map V.int).map intOf3 = r
  rw [List.map_map]
  exact List.map_id _
/-- tuples in a heap, by their addresses -/
theorem TrisAt.refs {H : Hp} : ∀ {vs : List V} {l : List Tri}, TrisAt H vs l → ∃ ps : List Addr, vs = ps.map V.ref ∧ (∀ p ∈ ps, H p = some (.tup ((cont3 H p).map V.int)) ∧ cont3 H p ≠ []) ∧ ps.map (cont3 H) = l.map tl3
  | [], [], _ => ⟨[], rfl, fun _ h => (nomatch h), rfl⟩
  | _ :: _, z :: _, ⟨⟨q, e, h⟩, r⟩ => by
    obtain ⟨ps, e2, h2, h3⟩ := TrisAt.refs r
    have e4 : cont3 H q = tl3 z := cont3_at (r := tl3 z) h
    refine ⟨q :: ps, by rw [e, e2]; rfl, fun p hp => ?_, by rw [List.map_cons, List.map_cons, e4, h3]⟩
    rcases List.mem_cons.mp hp with rfl | hp
    · rw [e4]
      exact ⟨h, List.cons_ne_nil _ _⟩
    · exact h2 p hp
  | [], _ :: _, h => h.elim
  | _ :: _, [], h => h.elim
def triD (z : Tri) : PyData := .tuple ((tl3 z).map PyData.int)
theorem TrisAt.dpA {H : Hp} : ∀ {vs : List V} {l : List Tri}, TrisAt H vs l → DpAll K H vs (l.map triD)
  | [], [], _ => .nil
  | _ :: _, z :: _, ⟨⟨_, e, h⟩, r⟩ => e ▸ .cons (dp_tints (ns := tl3 z) (SqT.of h)) r.dpA
  | [], _ :: _, h => h.elim
  | _ :: _, [], h => h.elim
theorem shaped_tris (l : List Tri) : SeqAt.shaped (.list (l.map triD)) = true :=
  (shaped_of (lays_map triD 2 (fun z => by
    have h := lays_map PyData.int 1 lay_int (tl3 z)
    exact ⟨by unfold triD; simp only [PyData.canLay0]; exact h.1, by unfold triD; simp only [PyData.depth]; omega⟩) l) (by decide)).1

/-! ### the law -/
theorem PairsAt2.of {H H2 : Hp} (S : ∀ c xs, H c = some (.tup xs) → H2 c = some (.tup xs)) : ∀ {vs : List V} {l : List (Int × Int)}, PairsAt2 H vs l → PairsAt2 H2 vs l
  | [], [], _ => trivial
  | _ :: _, _ :: _, ⟨⟨p, e, h⟩, r⟩ => ⟨⟨p, e, S _ _ h⟩, r.of S⟩
  | [], _ :: _, h => h.elim
  | _ :: _, [], h => h.elim
theorem PairsAt2.snoc {H : Hp} {q : Addr} {z : Int × Int} (hq : H q = some (.tup [.int z.1, .int z.2])) : ∀ {vs : List V} {l : List (Int × Int)}, PairsAt2 H vs l → PairsAt2 H (vs ++ [.ref q]) (l ++ [z])
  | [], [], _ => ⟨⟨q, rfl, hq⟩, trivial⟩
  | _ :: _, _ :: _, ⟨h1, h3⟩ => ⟨h1, h3.snoc hq⟩
  | [], _ :: _, h => h.elim
  | _ :: _, [], h => h.elim
def sp_law (K : PySem.W.Frag) : Sp := fun vs H Q _ => ∃ (a : Addr) (ns : List Int), vs = [.ref a] ∧ Scr K H a (ns.map V.int) ∧ ns.length ≤ 63 ∧ ∀ H', Q (.bl true) H'
theorem ok_law (T : Tx P K mg) : FnOk P w K mg base CX0 lv_law T.a_law T.d_law ["_law_script"] (sp_law K) := by
  refine T.F_law.ok sc_law (fun vs H Q E h => ?_) (fun cdv A outer s H vs Q E hr h => ?_)
  · obtain ⟨a, ns, rfl, _⟩ := h
    rfl
  · obtain ⟨a, sc, rfl, hS, hlen, k⟩ := h
    refine ⟨_, (Evl.pss_cut (ps_set (i := 1) sc_law.nd rfl (Or.inl rfl) (pe_lst (pa_cons (pv 0) (pa_cons pe_int (pa_cons pe_int (pa_cons pe_int pa_nil))))))
      (pss_cons (ps_for PassesOwn.never rfl (pi_range1 (by rfl) T.n_range (pa_cons pe_int pa_nil)) (pg_name (i := 2) sc_law.nd rfl (Or.inl rfl)) (Evl.pss_cut (ps_par (i := 3) (j := 4) rfl sc_law.nd rfl rfl (by decide) rfl rfl (pa_cons (pe_call (ok__law_trick T) (hr.mono (by decide)) rfl T.g__law_trick T.F__law_trick.kp T.b__law_trick .nil pass0 (pa_cons (pv 1) (pa_cons pe_bl pa_nil))) (pa_cons (pe_lst pa_nil) pa_nil)) (by rfl))
      (Evl.pss_cut (ps_for PassesOwn.never rfl (pi_range1 (by rfl) T.n_range (pa_cons (pe_op op_add pe_int (pe_call (ok__law_taken T) (hr.mono (by decide)) rfl T.g__law_taken T.F__law_taken.kp T.b__law_taken .nil pass0 (pa_cons (pv 1) (pa_cons pe_int pa_nil)))) pa_nil)) (pg_name (i := 5) sc_law.nd rfl (Or.inl rfl)) (Evl.pss_cut (ps_set (i := 6) sc_law.nd rfl (Or.inl rfl) (pe_call (ok__law_number T) (hr.mono (by decide)) rfl T.g__law_number T.F__law_number.kp T.b__law_number .nil pass0 (pa_cons (pv 1) pa_nil)))
      (pss_one (ps_if (pt_cmpR op_le (pe_callB call_abs (by rfl) T.n_abs (by decide +kernel) (pa_cons (pe_call (ok__law_behind T) (hr.mono (by decide)) rfl T.g__law_behind T.F__law_behind.kp T.b__law_behind .nil pass0 (pa_cons (pv 3) (pa_cons (pv 6) pa_nil))) pa_nil)) (pe_op op_pow pe_int pe_int) (nomark _)) (pss_one (ps_expr (pe_bm PySem.F.plainAttrs_list PySem.F.slot_list_append PySem.F.type_list_append mt_append (pv 4) (pa_cons (pe_tup (pa_cons (pv 6) (pa_cons (pe_call (ok__law_behind T) (hr.mono (by decide)) rfl T.g__law_behind T.F__law_behind.kp T.b__law_behind .nil pass0 (pa_cons (pv 3) (pa_cons (pv 6) pa_nil))) pa_nil))) pa_nil)))) pss_nil))))
      (pss_one (ps_if (pt_cmpR (op_neNil hr.units) (pv 4) (pe_lst pa_nil) (nomark _)) (Evl.pss_cut (ps_set (i := 7) sc_law.nd rfl (Or.inl rfl) (pe_call (ok_fitting T) (hr.mono (by decide)) rfl T.g_fitting T.F_fitting.kp T.b_fitting .nil passL (pa_cons (pv 4) pa_nil)))
      (Evl.pss_cut (ps_if (PW.pt (pw_or (pt_cmpR (op_notInD (room65 hr)) (pe_callTy call_tuple_of (by rfl) T.n_tuple (by decide +kernel) (pa_cons (pv 3) pa_nil)) (pv 7) (by with_unfolding_all rfl)) (pw_or1 (pt_cmpR (op_neS hr.units) (pv 7) (pe_callB (cr_sortG rfl) (by rfl) T.n_sorted (by decide +kernel) (pa_cons (pe_callTy (cr_setG rfl hr.units) (by rfl) T.n_set (by decide +kernel) (pa_cons (pv 7) pa_nil)) pa_nil)) (nomark _))))) (pss_one (ps_ret pe_bl)) pss_nil)
      (pss_one (ps_for PassesOwn.never rfl (pi_list (pv 7)) (pg_name (i := 8) sc_law.nd rfl (Or.inr rfl)) (pss_one (ps_if (pt_not (pt_val (pe_callB (cr_all rfl) (by rfl) T.n_all (by decide +kernel) (pa_cons (pe_lc (own := [("_law_n", 6), ("_law_later", 9)]) (tt := tYes) (g := gTup K 2 (gCons (gName 6) (gCons (gName 9) gNil))) rfl sc_law.nd (pi_list (pv 4)) (blkOk_by (own := [("_law_n", 6), ("_law_later", 9)]) (N := ["_law_script", "_law_line", "_law_turn", "_law_told", "_law_pairs", "_law_k", "_law_n", "_law_found", "_law_some", "_law_later"]) (sc := defScope s_law) (by decide +kernel)) (fun _ _ _ _ _ => pg_tup rfl (pgs_cons (pg_name (i := 6) sc_law.nd rfl (Or.inl rfl)) (pgs_cons (pg_name (i := 9) sc_law.nd rfl (Or.inl rfl)) pgs_nil))) (fun _ _ _ _ _ => pts_nil) (fun _ _ _ _ _ => (pe_cmpR op_eq (pe_call (ok__law_behind T) (hr.mono (by decide)) rfl T.g__law_behind T.F__law_behind.kp T.b__law_behind .nil pass0 (pa_cons (pe_callTy (call_list_ofK (K := K) rfl) (by rfl) T.n_list (by decide +kernel) (pa_cons (pv 8) pa_nil)) (pa_cons (pv 6) pa_nil))) (pv 9) (nomark _)))) pa_nil)))) (pss_one (ps_ret pe_bl)) pss_nil)))))) pss_nil)))))
      (pss_one (ps_ret pe_bl)))), ?_⟩
    refine ⟨fun σ H1 => ∃ r, RowAt K H1 r a sc ∧ σ = [some (.ref a), some (.ref r), none, none, none, none, none, none, none, none], ?_, ?_⟩
    · exact ⟨_, rfl, by show 4 ≤ sizeLine; decide, fun r hr0 => ⟨r, RowAt.start hr0 hS hlen (by decide) (by decide), rfl⟩⟩
    clear hS
    rintro σ H1 ⟨r, R1, rfl⟩
    refine ⟨3, rfl, by decide, by decide, ?_⟩
    refine for_range (lo := 0) (n := 3) (fun i σ H2 => ∃ x2 x3 x4 x5 x6 x7 x8 x9 : Option V, RowAt K H2 r a sc ∧ σ = [some (.ref a), some (.ref r), x2, x3, x4, x5, x6, x7, x8, x9]) ⟨none, none, none, none, none, none, none, none, R1, rfl⟩ ?_ ?_
    · clear R1
      rintro i σ H2 hi ⟨x2, x3, x4, x5, x6, x7, x8, x9, R2, rfl⟩
      refine ⟨fun σ H3 => ∃ (b t m : Int) (q D : Addr), (2 ≤ b ∧ b ≤ 16) ∧ (1 ≤ t ∧ t ≤ 2) ∧ (-100 ≤ m ∧ m ≤ 100) ∧ q ≠ r ∧ D ≠ r ∧ D ≠ q ∧ H3 q = some (.lst [.int b, .int t, .int m]) ∧ H3 D = some (.lst []) ∧ RowAt K H3 r a sc ∧ σ = [some (.ref a), some (.ref r), some (.int (0 + (i : Int))), some (.ref q), some (.ref D), x5, x6, x7, x8, x9], ?_, ?_⟩
      · refine ⟨_, rfl, r, a, sc, false, rfl, R2, fun b t m q H3 b1 b2 t1 t2 _ m1 m2 R3 B3 hq0 hq nqr => ?_⟩
        refine ⟨by show 0 ≤ sizeLine; decide, fun D hD => ⟨_, _, rfl, b, t, m, q, D, ⟨b1, b2⟩, ⟨t1, t2⟩, ⟨m1, m2⟩, nqr, R3.ne hD, (ne_of_none hq hD).symm, same_upd hD _ _ hq, upd_same, R3.new hD, rfl⟩⟩
      clear R2
      rintro σ H3 ⟨b, t, m, q, D, ⟨b1, b2⟩, ⟨t1, t2⟩, ⟨m1, m2⟩, nqr, nDr, nDq, hq, hD, R3, rfl⟩
      obtain ⟨C1, C2⟩ := block_bd (t := t) b1 b2
      have eb : ∀ n, behind b t m n = made b t m n := fun n => behind_made C1
      refine ⟨fun σ H4 => ∃ (us : List V) (zs : List (Int × Int)) (x5 x6 : Option V), H4 D = some (.lst us) ∧ PairsAt2 H4 us zs ∧ us.length ≤ 10 ∧ (∀ z ∈ zs, -(10 ^ 40) ≤ z.1 ∧ z.1 ≤ 10 ^ 40 ∧ -(10 ^ 40) ≤ z.2 ∧ z.2 ≤ 10 ^ 40) ∧ (∀ z ∈ zs, mkW (blockOf b t) m z.1 = z.2) ∧ H4 q = some (.lst [.int b, .int t, .int m]) ∧ RowAt K H4 r a sc ∧ σ = [some (.ref a), some (.ref r), some (.int (0 + (i : Int))), some (.ref q), some (.ref D), x5, x6, x7, x8, x9], ?_, ?_⟩
      · refine ⟨_, rfl, r, a, sc, _, rfl, by decide, by decide, R3, fun v H4 v0 v1 R4 B4 => ⟨_, _, rfl, rfl, _, rfl, by omega, by omega, ?_⟩⟩
        refine for_range (lo := 0) (n := (1 + v).toNat) (fun j σ H5 => ∃ (us : List V) (zs : List (Int × Int)) (x5 x6 : Option V), H5 D = some (.lst us) ∧ PairsAt2 H5 us zs ∧ us.length ≤ j ∧ (∀ z ∈ zs, -(10 ^ 40) ≤ z.1 ∧ z.1 ≤ 10 ^ 40 ∧ -(10 ^ 40) ≤ z.2 ∧ z.2 ≤ 10 ^ 40) ∧ (∀ z ∈ zs, mkW (blockOf b t) m z.1 = z.2) ∧ H5 q = some (.lst [.int b, .int t, .int m]) ∧ RowAt K H5 r a sc ∧ σ = [some (.ref a), some (.ref r), some (.int (0 + (i : Int))), some (.ref q), some (.ref D), x5, x6, x7, x8, x9]) ⟨[], [], _, _, B4 _ _ hD nDr, trivial, Nat.le_refl _, (fun _ z => nomatch z), (fun _ z => nomatch z), B4 _ _ hq nqr, R4, rfl⟩ ?_ ?_
        · clear hD hq R3 R4 B4
          rintro j σ H5 hj ⟨us, zs, x5', x6', hD, P, lu, bd, fit, hq, R5, rfl⟩
          refine ⟨fun σ H6 => ∃ n : Int, -(10 ^ 40) ≤ n ∧ n ≤ 10 ^ 40 ∧ H6 D = some (.lst us) ∧ PairsAt2 H6 us zs ∧ H6 q = some (.lst [.int b, .int t, .int m]) ∧ RowAt K H6 r a sc ∧ σ = [some (.ref a), some (.ref r), some (.int (0 + (i : Int))), some (.ref q), some (.ref D), some (.int (0 + (j : Int))), some (.int n), x7, x8, x9], ?_, ?_⟩
          · obtain ⟨yr, er⟩ := R5.lst
            exact ⟨_, rfl, r, a, sc, rfl, R5, fun n H6 n1 n2 R6 B6 => ⟨n, n1, n2, B6 _ _ hD nDr, P.of fun c xs e => B6 _ _ e (ne_of e er (by intro z; cases z)), B6 _ _ hq nqr, R6, rfl⟩⟩
          clear hD P hq R5
          rintro σ H6 ⟨n, n1, n2, hD, P, hq, R6, rfl⟩
          refine ⟨_, rfl, _, rfl, q, b, t, m, n, rfl, SqL.of hq, b1, b2, m1, m2, _, rfl, _, _, rfl, rfl, ⟨by decide, by decide, by decide⟩, _, _, rfl, rfl, _, rfl, ?_⟩
          rw [eb]
          refine ite2 (fun g => ?_) (fun g => ⟨us, zs, _, _, hD, P, Nat.le_succ_of_le lu, bd, fit, hq, R6, rfl⟩)
          have g0 : (if made b t m n < 0 then -made b t m n else made b t m n) ≤ 10 ^ 40 := of_decide_eq_true g
          have g1 : -(10 ^ 40) ≤ made b t m n ∧ made b t m n ≤ 10 ^ 40 := by
            split at g0 <;> constructor <;> omega
          refine ⟨_, rfl, .inl ⟨rfl, _, SqL.of hD⟩, _, rfl, _, rfl, _, rfl, q, b, t, m, n, rfl, SqL.of hq, b1, b2, m1, m2, by show 2 ≤ sizeLine; decide, fun p hp => ?_⟩
          rw [eb] at *
          have S := same_upd (o := .tup [.int n, .int (made b t m n)]) hp
          have hD7 := S _ _ hD
          have jl : j < (1 + v).toNat := hj
          refine ⟨D, us, .ref p, rfl, rfl, hD7, small1000 (by omega), us ++ [.ref p], zs ++ [(n, made b t m n)], _, _, upd_same, ?_, ?_, ?_, ?_, ?_, (R6.same S).put hD7 nDr, rfl⟩
          · have kt : ∀ c xs, upd H6 p (.tup [.int n, .int (made b t m n)]) c = some (.tup xs) → upd (upd H6 p (.tup [.int n, .int (made b t m n)])) D (.lst (us ++ [.ref p])) c = some (.tup xs) := fun c xs e => by
              rw [upd_ne (fun z => by rw [z, hD7] at e; cases e)]
              exact e
            exact ((P.same S).of kt).snoc (z := (n, made b t m n)) (kt _ _ upd_same)
          · rw [List.length_append, List.length_singleton]
            omega
          · intro z hz
            rcases List.mem_append.mp hz with hz | hz
            · exact bd z hz
            · rw [List.mem_singleton.mp hz]
              exact ⟨n1, n2, g1.1, g1.2⟩
          · intro z hz
            rcases List.mem_append.mp hz with hz | hz
            · exact fit z hz
            · rw [List.mem_singleton.mp hz]
              rfl
          · rw [upd_ne nDq.symm]
            exact S _ _ hq
        · rintro σ H5 ⟨us, zs, x5', x6', hD, P, lu, bd, fit, hq, R5, rfl⟩
          exact ⟨us, zs, x5', x6', hD, P, by omega, bd, fit, hq, R5, rfl⟩
      clear hq hD R3
      rintro σ H4 ⟨us, zs, x5', x6', hD, P, l10, bd, fit, hq, R4, rfl⟩
      refine ⟨_, rfl, by show 0 ≤ sizeLine; decide, fun e he => ⟨D, e, us, rfl, rfl, SqL.of (same_upd he _ _ hD), SqL.of upd_same, _, rfl, ?_⟩⟩
      replace hD := same_upd (o := .lst []) he _ _ hD
      replace hq := same_upd (o := .lst []) he _ _ hq
      replace P := P.same (same_upd (o := .lst []) he)
      replace R4 := R4.new (o := .lst []) he
      generalize upd H4 e (.lst []) = H5 at *
      refine ite2 (fun g => ?_) (fun g => ⟨_, _, _, _, _, _, _, _, R4, rfl⟩)
      have l1 : 1 ≤ us.length := by
        cases us with
        | nil => exact absurd g (by decide)
        | cons => exact Nat.succ_le_succ (Nat.zero_le _)
      refine ⟨fun σ H6 => ∃ (F : Addr) (us2 : List V), Same H5 H6 ∧ H6 F = some (.lst us2) ∧ TrisAt H6 us2 (fit0 zs 15) ∧ σ = [some (.ref a), some (.ref r), some (.int (0 + (i : Int))), some (.ref q), some (.ref D), x5', x6', some (.ref F), x8, x9], ?_, ?_⟩
      · exact ⟨_, rfl, D, us, zs, rfl, .inl hD, P, l1, l10, bd, fun F us2 H6 S6 hF tF => ⟨F, us2, S6, hF, tF, rfl⟩⟩
      rintro σ H6 ⟨F, us2, S6, hF, tF, rfl⟩
      replace hD := S6 _ _ hD
      replace hq := S6 _ _ hq
      replace P := P.same S6
      replace R4 := R4.same S6
      clear S6
      refine ⟨fun σ H7 => Same H6 H7 ∧ σ = [some (.ref a), some (.ref r), some (.int (0 + (i : Int))), some (.ref q), some (.ref D), x5', x6', some (.ref F), x8, x9], ?_, ?_⟩
      · refine ⟨_, rfl, q, _, rfl, .inl ⟨SqL.of hq, fun u hu => ?_⟩⟩
        have Su := same_upd (o := .tup [.int b, .int t, .int m]) hu
        have tFu := tF.of fun _ _ e => Su _ _ e
        refine ⟨_, rfl, _, _, dp_tints (ns := [b, t, m]) (SqT.of upd_same), .lst (SqL.of (Su _ _ hF)) tFu.dpA, shaped_tints _, shaped_tris _, _, rfl, ?_⟩
        have told : (b, t, m) ∈ fit0 zs 15 := fit0_mem.mpr ⟨⟨b1, b2⟩, ⟨t1, t2⟩, ⟨m1, m2⟩, fit⟩
        have any : ((fit0 zs 15).map triD).any (fun z => PyData.eqv z (.tuple (([b, t, m] : List Int).map PyData.int))) = true := by
          refine List.any_eq_true.mpr ⟨triD (b, t, m), List.mem_map_of_mem told, ?_⟩
          show PyData.eqv (.tuple (([b, t, m] : List Int).map PyData.int)) (.tuple (([b, t, m] : List Int).map PyData.int)) = true
          rw [eqv_tints, decide_eq_true rfl]
        rw [any, Bool.not_true]
        have ln := tFu.len
        have f0 := fit0_len zs 15
        obtain ⟨ps, rfl, ht, ec⟩ := tFu.refs
        generalize cont3 (upd H6 u (.tup [.int b, .int t, .int m])) = c at ht ec
        have asc0 : (ps.map c).Pairwise (fun x y => lexI x y = true) := by
          rw [ec]
          exact List.pairwise_map.mpr (fit0_asc zs)
        have asc : ps.Pairwise (fun x y => lexI (c x) (c y) = true) := List.pairwise_map.mp asc0
        have nd : (ps.map c).Nodup := List.Pairwise.imp (fun {x y} h e => by rw [e, lexI_irrefl] at h; cases h) asc0
        rw [List.length_map] at ln
        refine iteF ⟨_, rfl, _, rfl, F, ps, c, rfl, SqL.of (Su _ _ hF), fun p hp => (ht p hp).1, nd, by omega, fun S hS => ?_⟩
        refine ⟨S, ps, c, rfl, upd_same, fun p hp => ⟨same_upd hS _ _ (ht p hp).1, (ht p hp).2⟩, fun qs E' pm pw hE => ?_⟩
        obtain rfl := sorted_as pm pw asc
        have SE := same_upd (o := .lst (qs.map V.ref)) hE
        refine .inl ⟨F, E', qs.map V.ref, rfl, rfl, SqL.of (SE _ _ (same_upd hS _ _ (Su _ _ hF))), SqL.of upd_same, fun x hx => ?_, _, rfl, iteF ⟨Su.trans ((same_upd hS).trans SE), rfl⟩⟩
        obtain ⟨p, _, e⟩ := List.mem_map.mp hx
        exact ⟨p, e.symm⟩
      rintro σ H7 ⟨S7, rfl⟩
      replace hD := S7 _ _ hD
      replace P := P.same S7
      replace R4 := R4.same S7
      replace hF := S7 _ _ hF
      replace tF := tF.of fun _ _ e => S7 _ _ e
      clear S7 hq
      refine ⟨_, rfl, F, rfl, ⟨_, SqL.of hF⟩, ?_⟩
      refine for_it walk_list (fun j σ H8 => Same H7 H8 ∧ ∃ x6 x8 x9 : Option V, σ = [some (.ref a), some (.ref r), some (.int (0 + (i : Int))), some (.ref q), some (.ref D), x5', x6, some (.ref F), x8, x9]) ⟨Same.refl _, _, _, _, rfl⟩ (fun j σ H8 _ ⟨S8, _⟩ => SqL.of (S8 _ _ hF)) ?_ ?_
      · rintro j x σ H8 H9 hj ⟨S8, x6, x8, x9, rfl⟩ ⟨rfl, hx⟩
        obtain ⟨p, ⟨b', t', m'⟩, rfl, hz, hp⟩ := tF.at hx
        obtain ⟨zb, zt, zm, zf⟩ := fit0_mem.mp (List.mem_of_getElem? hz)
        obtain ⟨C1', C2'⟩ := block_bd (t := t') zb.1 zb.2
        have hp8 := S8 _ _ hp
        have hD8 := S8 _ _ hD
        refine ⟨_, rfl, D, rfl, ⟨_, SqL.of hD8⟩, fun M hM => ?_⟩
        refine lc_it walk_list (fun k H10 => Same H9 H10 ∧ H10 M = some (.lst (((zs.take k).map fun z => decide (mkW (blockOf b' t') m' z.1 = z.2)).map V.bl))) ⟨same_upd hM, by rw [upd_same]; rfl⟩ (fun k H10 _ ⟨S10, _⟩ => SqL.of (S10 _ _ hD8)) ?_ ?_
        · rintro k' y H10 H11 hk ⟨S10, hM10⟩ ⟨rfl, hy⟩
          obtain ⟨p2, z, rfl, hz2, hp2⟩ := ((P.same S8).same S10).at hy
          refine ⟨p2, _, rfl, SqT.of hp2, rfl, _, _, rfl, _, _, rfl, rfl, rfl, _, rfl, p, _, rfl, .inr (SqT.of (S10 _ _ hp8)), fun u hu => ?_⟩
          have Su := same_upd (o := .lst [.int b', .int t', .int m']) hu
          refine ⟨_, rfl, u, b', t', m', z.1, rfl, SqL.of upd_same, zb.1, zb.2, zm.1, zm.2, _, rfl, rfl, _, Su _ _ hM10, ?_, fun e o he => ?_, ?_⟩
          · rw [List.length_map, List.length_map, List.length_take]
            exact small1000 (by omega)
          · rw [upd_ne (ne_of_none he hM)]
            exact Su _ _ (S10 _ _ he)
          · rw [upd_same, behind_made C1', dec_i, take_snocP hz2, List.map_append, List.map_append]
            rfl
        · rintro H10 ⟨S10, hM10⟩
          rw [P.len, List.take_length] at hM10
          refine ⟨M, _, rfl, SqL.of hM10, _, rfl, ?_⟩
          have all : (zs.map fun z => decide (mkW (blockOf b' t') m' z.1 = z.2)).all id = true := by
            rw [List.all_map]
            exact List.all_eq_true.mpr fun z hz => decide_eq_true (zf z hz)
          rw [all]
          exact iteF ⟨S8.trans S10, _, _, _, rfl⟩
      · rintro σ H8 ⟨S8, x6, x8, x9, rfl⟩
        exact ⟨_, _, _, _, _, _, _, _, R4.same S8, rfl⟩
    · rintro σ H2 ⟨x2, x3, x4, x5, x6, x7, x8, x9, R2, rfl⟩
      exact k _

end
/-! ### the end -/
theorem all_mk {l : PySem.W.OpenLaw} {w : World} {K : PySem.W.Frag} {h : Heap} {mg : Str → Option Value} {fa : Addr} (X : K.In h) (G : h.Ns mainGlobals mg) (hfa : mg "law" = some (.ref fa))
    {C_TrickError : Addr}
    {C_BadPairs : Addr}
    {tk_GREATEST_NUMBER : Tok}
    {tk_LEAST_BASE : Tok}
    {tk_GREATEST_BASE : Tok}
    {tk_GREATEST_TAKE : Tok}
    {tk_GREATEST_TIMES : Tok}
    {tk_MOST_PAIRS : Tok}
    {a_is_integer : Addr} {od_is_integer an_is_integer : Option Addr} {sl_is_integer : Array (Option Value)} {oc_is_integer kV_is_integer dc_is_integer pm_is_integer cd_is_integer ct_is_integer : Value}
    {a_is_list_or_tuple : Addr} {od_is_list_or_tuple an_is_list_or_tuple : Option Addr} {sl_is_list_or_tuple : Array (Option Value)} {oc_is_list_or_tuple kV_is_list_or_tuple dc_is_list_or_tuple pm_is_list_or_tuple cd_is_list_or_tuple ct_is_list_or_tuple : Value}
    {a_is_number : Addr} {od_is_number an_is_number : Option Addr} {sl_is_number : Array (Option Value)} {oc_is_number kV_is_number dc_is_number pm_is_number cd_is_number ct_is_number : Value}
    {a_block_of : Addr} {od_block_of an_block_of : Option Addr} {sl_block_of : Array (Option Value)} {oc_block_of kV_block_of dc_block_of pm_block_of cd_block_of ct_block_of : Value}
    {a_made_with : Addr} {od_made_with an_made_with : Option Addr} {sl_made_with : Array (Option Value)} {oc_made_with kV_made_with dc_made_with pm_made_with cd_made_with ct_made_with : Value}
    {a_fitting : Addr} {od_fitting an_fitting : Option Addr} {sl_fitting : Array (Option Value)} {oc_fitting kV_fitting dc_fitting pm_fitting cd_fitting ct_fitting : Value}
    {a_check_pairs : Addr} {od_check_pairs an_check_pairs : Option Addr} {sl_check_pairs : Array (Option Value)} {oc_check_pairs kV_check_pairs dc_check_pairs pm_check_pairs cd_check_pairs ct_check_pairs : Value}
    {a_is_pair : Addr} {od_is_pair an_is_pair : Option Addr} {sl_is_pair : Array (Option Value)} {oc_is_pair kV_is_pair dc_is_pair pm_is_pair cd_is_pair ct_is_pair : Value}
    {a_fitting_times : Addr} {od_fitting_times an_fitting_times : Option Addr} {sl_fitting_times : Array (Option Value)} {oc_fitting_times kV_fitting_times dc_fitting_times pm_fitting_times cd_fitting_times ct_fitting_times : Value}
    {a__law_taken : Addr} {od__law_taken an__law_taken : Option Addr} {sl__law_taken : Array (Option Value)} {oc__law_taken kV__law_taken dc__law_taken pm__law_taken cd__law_taken ct__law_taken : Value}
    {a__law_power : Addr} {od__law_power an__law_power : Option Addr} {sl__law_power : Array (Option Value)} {oc__law_power kV__law_power dc__law_power pm__law_power cd__law_power ct__law_power : Value}
    {a__law_trick : Addr} {od__law_trick an__law_trick : Option Addr} {sl__law_trick : Array (Option Value)} {oc__law_trick kV__law_trick dc__law_trick pm__law_trick cd__law_trick ct__law_trick : Value}
    {a__law_behind : Addr} {od__law_behind an__law_behind : Option Addr} {sl__law_behind : Array (Option Value)} {oc__law_behind kV__law_behind dc__law_behind pm__law_behind cd__law_behind ct__law_behind : Value}
    {a__law_number : Addr} {od__law_number an__law_number : Option Addr} {sl__law_number : Array (Option Value)} {oc__law_number kV__law_number dc__law_number pm__law_number cd__law_number ct__law_number : Value}
    {a_law : Addr} {od_law an_law : Option Addr} {sl_law : Array (Option Value)} {oc_law kV_law dc_law pm_law cd_law ct_law : Value}
    {a_BadPairs___init__ cda_BadPairs___init__ cc_BadPairs___init__ N_BadPairs___init__ : Addr} {od_BadPairs___init__ an_BadPairs___init__ cdd_BadPairs___init__ cld_BadPairs___init__ dd_BadPairs___init__ : Option Addr} {sl_BadPairs___init__ ccs_BadPairs___init__ csl_BadPairs___init__ : Array (Option Value)} {oc_BadPairs___init__ dc_BadPairs___init__ pm_BadPairs___init__ ct_BadPairs___init__ ccl_BadPairs___init__ cl_BadPairs___init__ : Value} {vs_BadPairs___init__ : Array Value} {file_BadPairs___init__ nm_BadPairs___init__ qn_BadPairs___init__ : Str} {tf_BadPairs___init__ : Tok} {bs_BadPairs___init__ bm_BadPairs___init__ sub_BadPairs___init__ : List Value} {sn_BadPairs___init__ : List Str} {ab_BadPairs___init__ : Bool} {col_BadPairs___init__ : Option Bool} {k0_BadPairs___init__ k1_BadPairs___init__ k2_BadPairs___init__ k3_BadPairs___init__ k5_BadPairs___init__ : Option Value}
    (gx_TrickError : PySem.W.nsIn K mainGlobals "TrickError" = some (some (.ref C_TrickError)))
    (x_TrickError : PySem.W.excIn K C_TrickError [.type "ValueError", .type "Exception", .type "BaseException", .type "object"] "ValueError.__new__" = true)
    (k_TrickError : PySem.W.keepIn K (.ref C_TrickError) = true)
    (s_TrickError : PySem.W.subIn K (.ref C_TrickError) (.type "BaseException") = some true)
    (t_TrickError : PySem.W.typeIn K (.ref C_TrickError) = some (.type "type"))
    (gx_BadPairs : PySem.W.nsIn K mainGlobals "BadPairs" = some (some (.ref C_BadPairs)))
    (k_BadPairs : PySem.W.keepIn K (.ref C_BadPairs) = true)
    (s_BadPairs : PySem.W.subIn K (.ref C_BadPairs) (.type "BaseException") = some true)
    (t_BadPairs : PySem.W.typeIn K (.ref C_BadPairs) = some (.type "type"))
    (cx_GREATEST_NUMBER : PySem.W.nsIn K mainGlobals "GREATEST_NUMBER" = some (some (.int 10000000000000000000000000000000000000000 tk_GREATEST_NUMBER)))
    (cx_LEAST_BASE : PySem.W.nsIn K mainGlobals "LEAST_BASE" = some (some (.int 2 tk_LEAST_BASE)))
    (cx_GREATEST_BASE : PySem.W.nsIn K mainGlobals "GREATEST_BASE" = some (some (.int 16 tk_GREATEST_BASE)))
    (cx_GREATEST_TAKE : PySem.W.nsIn K mainGlobals "GREATEST_TAKE" = some (some (.int 2 tk_GREATEST_TAKE)))
    (cx_GREATEST_TIMES : PySem.W.nsIn K mainGlobals "GREATEST_TIMES" = some (some (.int 100 tk_GREATEST_TIMES)))
    (cx_MOST_PAIRS : PySem.W.nsIn K mainGlobals "MOST_PAIRS" = some (some (.int 10 tk_MOST_PAIRS)))
    (gf_is_integer : PySem.W.nsIn K mainGlobals "is_integer" = some (some (.ref a_is_integer)))
    (l_is_integer : K.lookup a_is_integer = some ⟨oc_is_integer, od_is_integer, .func (PySem.W.fnOf "is_integer" "is_integer" (defArgs s_is_integer) (defBody s_is_integer) (defScope s_is_integer) .none kV_is_integer dc_is_integer pm_is_integer an_is_integer cd_is_integer ct_is_integer), sl_is_integer⟩)
    (c_is_integer : PySem.W.codeIn K cd_is_integer "is_integer" = true)
    (kp_is_integer : PySem.W.keepIn K (.ref a_is_integer) = true)
    (gf_is_list_or_tuple : PySem.W.nsIn K mainGlobals "is_list_or_tuple" = some (some (.ref a_is_list_or_tuple)))
    (l_is_list_or_tuple : K.lookup a_is_list_or_tuple = some ⟨oc_is_list_or_tuple, od_is_list_or_tuple, .func (PySem.W.fnOf "is_list_or_tuple" "is_list_or_tuple" (defArgs s_is_list_or_tuple) (defBody s_is_list_or_tuple) (defScope s_is_list_or_tuple) .none kV_is_list_or_tuple dc_is_list_or_tuple pm_is_list_or_tuple an_is_list_or_tuple cd_is_list_or_tuple ct_is_list_or_tuple), sl_is_list_or_tuple⟩)
    (c_is_list_or_tuple : PySem.W.codeIn K cd_is_list_or_tuple "is_list_or_tuple" = true)
    (kp_is_list_or_tuple : PySem.W.keepIn K (.ref a_is_list_or_tuple) = true)
    (gf_is_number : PySem.W.nsIn K mainGlobals "is_number" = some (some (.ref a_is_number)))
    (l_is_number : K.lookup a_is_number = some ⟨oc_is_number, od_is_number, .func (PySem.W.fnOf "is_number" "is_number" (defArgs s_is_number) (defBody s_is_number) (defScope s_is_number) .none kV_is_number dc_is_number pm_is_number an_is_number cd_is_number ct_is_number), sl_is_number⟩)
    (c_is_number : PySem.W.codeIn K cd_is_number "is_number" = true)
    (kp_is_number : PySem.W.keepIn K (.ref a_is_number) = true)
    (gf_block_of : PySem.W.nsIn K mainGlobals "block_of" = some (some (.ref a_block_of)))
    (l_block_of : K.lookup a_block_of = some ⟨oc_block_of, od_block_of, .func (PySem.W.fnOf "block_of" "block_of" (defArgs s_block_of) (defBody s_block_of) (defScope s_block_of) .none kV_block_of dc_block_of pm_block_of an_block_of cd_block_of ct_block_of), sl_block_of⟩)
    (c_block_of : PySem.W.codeIn K cd_block_of "block_of" = true)
    (kp_block_of : PySem.W.keepIn K (.ref a_block_of) = true)
    (gf_made_with : PySem.W.nsIn K mainGlobals "made_with" = some (some (.ref a_made_with)))
    (l_made_with : K.lookup a_made_with = some ⟨oc_made_with, od_made_with, .func (PySem.W.fnOf "made_with" "made_with" (defArgs s_made_with) (defBody s_made_with) (defScope s_made_with) .none kV_made_with dc_made_with pm_made_with an_made_with cd_made_with ct_made_with), sl_made_with⟩)
    (c_made_with : PySem.W.codeIn K cd_made_with "made_with" = true)
    (kp_made_with : PySem.W.keepIn K (.ref a_made_with) = true)
    (gf_fitting : PySem.W.nsIn K mainGlobals "fitting" = some (some (.ref a_fitting)))
    (l_fitting : K.lookup a_fitting = some ⟨oc_fitting, od_fitting, .func (PySem.W.fnOf "fitting" "fitting" (defArgs s_fitting) (defBody s_fitting) (defScope s_fitting) .none kV_fitting dc_fitting pm_fitting an_fitting cd_fitting ct_fitting), sl_fitting⟩)
    (c_fitting : PySem.W.codeIn K cd_fitting "fitting" = true)
    (kp_fitting : PySem.W.keepIn K (.ref a_fitting) = true)
    (gf_check_pairs : PySem.W.nsIn K mainGlobals "check_pairs" = some (some (.ref a_check_pairs)))
    (l_check_pairs : K.lookup a_check_pairs = some ⟨oc_check_pairs, od_check_pairs, .func (PySem.W.fnOf "check_pairs" "check_pairs" (defArgs s_check_pairs) (defBody s_check_pairs) (defScope s_check_pairs) .none kV_check_pairs dc_check_pairs pm_check_pairs an_check_pairs cd_check_pairs ct_check_pairs), sl_check_pairs⟩)
    (c_check_pairs : PySem.W.codeIn K cd_check_pairs "check_pairs" = true)
    (kp_check_pairs : PySem.W.keepIn K (.ref a_check_pairs) = true)
    (gf_is_pair : PySem.W.nsIn K mainGlobals "is_pair" = some (some (.ref a_is_pair)))
    (l_is_pair : K.lookup a_is_pair = some ⟨oc_is_pair, od_is_pair, .func (PySem.W.fnOf "is_pair" "is_pair" (defArgs s_is_pair) (defBody s_is_pair) (defScope s_is_pair) .none kV_is_pair dc_is_pair pm_is_pair an_is_pair cd_is_pair ct_is_pair), sl_is_pair⟩)
    (c_is_pair : PySem.W.codeIn K cd_is_pair "is_pair" = true)
    (kp_is_pair : PySem.W.keepIn K (.ref a_is_pair) = true)
    (gf_fitting_times : PySem.W.nsIn K mainGlobals "fitting_times" = some (some (.ref a_fitting_times)))
    (l_fitting_times : K.lookup a_fitting_times = some ⟨oc_fitting_times, od_fitting_times, .func (PySem.W.fnOf "fitting_times" "fitting_times" (defArgs s_fitting_times) (defBody s_fitting_times) (defScope s_fitting_times) .none kV_fitting_times dc_fitting_times pm_fitting_times an_fitting_times cd_fitting_times ct_fitting_times), sl_fitting_times⟩)
    (c_fitting_times : PySem.W.codeIn K cd_fitting_times "fitting_times" = true)
    (kp_fitting_times : PySem.W.keepIn K (.ref a_fitting_times) = true)
    (gf__law_taken : PySem.W.nsIn K mainGlobals "_law_taken" = some (some (.ref a__law_taken)))
    (l__law_taken : K.lookup a__law_taken = some ⟨oc__law_taken, od__law_taken, .func (PySem.W.fnOf "_law_taken" "_law_taken" (defArgs s__law_taken) (defBody s__law_taken) (defScope s__law_taken) .none kV__law_taken dc__law_taken pm__law_taken an__law_taken cd__law_taken ct__law_taken), sl__law_taken⟩)
    (c__law_taken : PySem.W.codeIn K cd__law_taken "_law_taken" = true)
    (kp__law_taken : PySem.W.keepIn K (.ref a__law_taken) = true)
    (gf__law_power : PySem.W.nsIn K mainGlobals "_law_power" = some (some (.ref a__law_power)))
    (l__law_power : K.lookup a__law_power = some ⟨oc__law_power, od__law_power, .func (PySem.W.fnOf "_law_power" "_law_power" (defArgs s__law_power) (defBody s__law_power) (defScope s__law_power) .none kV__law_power dc__law_power pm__law_power an__law_power cd__law_power ct__law_power), sl__law_power⟩)
    (c__law_power : PySem.W.codeIn K cd__law_power "_law_power" = true)
    (kp__law_power : PySem.W.keepIn K (.ref a__law_power) = true)
    (gf__law_trick : PySem.W.nsIn K mainGlobals "_law_trick" = some (some (.ref a__law_trick)))
    (l__law_trick : K.lookup a__law_trick = some ⟨oc__law_trick, od__law_trick, .func (PySem.W.fnOf "_law_trick" "_law_trick" (defArgs s__law_trick) (defBody s__law_trick) (defScope s__law_trick) .none kV__law_trick dc__law_trick pm__law_trick an__law_trick cd__law_trick ct__law_trick), sl__law_trick⟩)
    (c__law_trick : PySem.W.codeIn K cd__law_trick "_law_trick" = true)
    (kp__law_trick : PySem.W.keepIn K (.ref a__law_trick) = true)
    (gf__law_behind : PySem.W.nsIn K mainGlobals "_law_behind" = some (some (.ref a__law_behind)))
    (l__law_behind : K.lookup a__law_behind = some ⟨oc__law_behind, od__law_behind, .func (PySem.W.fnOf "_law_behind" "_law_behind" (defArgs s__law_behind) (defBody s__law_behind) (defScope s__law_behind) .none kV__law_behind dc__law_behind pm__law_behind an__law_behind cd__law_behind ct__law_behind), sl__law_behind⟩)
    (c__law_behind : PySem.W.codeIn K cd__law_behind "_law_behind" = true)
    (kp__law_behind : PySem.W.keepIn K (.ref a__law_behind) = true)
    (gf__law_number : PySem.W.nsIn K mainGlobals "_law_number" = some (some (.ref a__law_number)))
    (l__law_number : K.lookup a__law_number = some ⟨oc__law_number, od__law_number, .func (PySem.W.fnOf "_law_number" "_law_number" (defArgs s__law_number) (defBody s__law_number) (defScope s__law_number) .none kV__law_number dc__law_number pm__law_number an__law_number cd__law_number ct__law_number), sl__law_number⟩)
    (c__law_number : PySem.W.codeIn K cd__law_number "_law_number" = true)
    (kp__law_number : PySem.W.keepIn K (.ref a__law_number) = true)
    (gf_law : PySem.W.nsIn K mainGlobals "law" = some (some (.ref a_law)))
    (l_law : K.lookup a_law = some ⟨oc_law, od_law, .func (PySem.W.fnOf "law" "law" (defArgs s_law) (defBody s_law) (defScope s_law) .none kV_law dc_law pm_law an_law cd_law ct_law), sl_law⟩)
    (c_law : PySem.W.codeIn K cd_law "law" = true)
    (kp_law : PySem.W.keepIn K (.ref a_law) = true)
    (z_int : PySem.W.nsIn K mainGlobals "int" = some none)
    (z_bool : PySem.W.nsIn K mainGlobals "bool" = some none)
    (z_len : PySem.W.nsIn K mainGlobals "len" = some none)
    (z_range : PySem.W.nsIn K mainGlobals "range" = some none)
    (z_isinstance : PySem.W.nsIn K mainGlobals "isinstance" = some none)
    (z_tuple : PySem.W.nsIn K mainGlobals "tuple" = some none)
    (z_list : PySem.W.nsIn K mainGlobals "list" = some none)
    (z_sorted : PySem.W.nsIn K mainGlobals "sorted" = some none)
    (z_enumerate : PySem.W.nsIn K mainGlobals "enumerate" = some none)
    (z_abs : PySem.W.nsIn K mainGlobals "abs" = some none)
    (z_set : PySem.W.nsIn K mainGlobals "set" = some none)
    (z_all : PySem.W.nsIn K mainGlobals "all" = some none)
    (z_super : PySem.W.nsIn K mainGlobals "super" = some none)
    (z_ValueError : PySem.W.nsIn K mainGlobals "ValueError" = some none)
    (xl_BadPairs___init__ : K.lookup C_BadPairs = some (PySem.excClassObj nm_BadPairs___init__ qn_BadPairs___init__ C_BadPairs N_BadPairs___init__ bs_BadPairs___init__ bm_BadPairs___init__ true sn_BadPairs___init__ sub_BadPairs___init__ ab_BadPairs___init__ col_BadPairs___init__ dd_BadPairs___init__ k0_BadPairs___init__ k1_BadPairs___init__ k2_BadPairs___init__ k3_BadPairs___init__ k5_BadPairs___init__ "ValueError.__new__"))
    (xrb_BadPairs___init__ : PySem.HandSPX.refsVE bm_BadPairs___init__ = true)
    (xsa_BadPairs___init__ : PySem.W.findIn K (.ref C_BadPairs) "__setattr__" = some (some (.builtin "object.__setattr__")))
    (xga_BadPairs___init__ : PySem.W.findIn K (.ref C_BadPairs) "__getattribute__" = some (some (.builtin "BaseException.__getattribute__")))
    (xgg_BadPairs___init__ : PySem.W.findIn K (.ref C_BadPairs) "__getattr__" = some none)
    (xnf_BadPairs___init__ : PySem.W.findIn K (.ref C_BadPairs) "index" = some none)
    (xic_BadPairs___init__ : PySem.W.findIn K (.ref C_BadPairs) "__init__" = some (some (.ref a_BadPairs___init__)))
    (xtc_BadPairs___init__ : PySem.W.typeIn K (.ref a_BadPairs___init__) = some (.type "function"))
    (xhd_BadPairs___init__ : PySem.W.hasDictIn K C_BadPairs = true)
    (xup_BadPairs___init__ : PySem.W.ks_superIn K C_BadPairs C_BadPairs "__init__" = some (some (.builtin "ValueError.__init__")))
    (xan_BadPairs___init__ : PySem.W.nsIn K PySem.cStatics "thirdparty.any" = some none)
    (xve_BadPairs___init__ : PySem.W.subIn K (.ref C_BadPairs) (.type "ValueError") = some true)
    (xow_BadPairs___init__ : PySem.W.mroIn K C_BadPairs (.ref C_BadPairs) = some true)
    (rmn_BadPairs___init__ : (l.prog.main.scope.names.lookup ("super" : Str)).isSome = false)
    (xfn_BadPairs___init__ : K.lookup a_BadPairs___init__ = some ⟨oc_BadPairs___init__, od_BadPairs___init__, .func (PySem.W.ksFn "__init__" "BadPairs.__init__" (defArgs s_BadPairs___init__) (defBody s_BadPairs___init__) (defScope s_BadPairs___init__) .none .none dc_BadPairs___init__ pm_BadPairs___init__ an_BadPairs___init__ (.ref cda_BadPairs___init__) ct_BadPairs___init__ cc_BadPairs___init__), sl_BadPairs___init__⟩)
    (xco_BadPairs___init__ : PySem.W.codeIn K (.ref cda_BadPairs___init__) "BadPairs.__init__" = true)
    (xcd_BadPairs___init__ : K.lookup cda_BadPairs___init__ = some ⟨ccl_BadPairs___init__, cdd_BadPairs___init__, .fields vs_BadPairs___init__, ccs_BadPairs___init__⟩)
    (rvs_BadPairs___init__ : vs_BadPairs___init__[2]? = some (.str file_BadPairs___init__ tf_BadPairs___init__))
    (rfi_BadPairs___init__ : ((l.prog.main.file : Str) == file_BadPairs___init__) = true)
    (xcc_BadPairs___init__ : K.lookup cc_BadPairs___init__ = some ⟨cl_BadPairs___init__, cld_BadPairs___init__, .cell (some (.ref C_BadPairs)), csl_BadPairs___init__⟩)
    : ∃ fd : FuncData, (∀ (s : Shared) (v : Value), BindsTo s fd ⟨[v], []⟩ [("_law_script", v)]) ∧ ∀ base : Heap, K.In base → base.Ns mainGlobals mg → FnOk l.prog w K mg base CX0 lv_law fa fd ["_law_script"] (sp_law K) := by
  have e := hfa.symm.trans (PySem.W.mg_of X G gf_law)
  have e2 : a_law = fa := by cases e; rfl
  subst e2
  refine ⟨PySem.W.fnOf "law" "law" (defArgs s_law) (defBody s_law) (defScope s_law) .none kV_law dc_law pm_law an_law cd_law ct_law, fun s v => .of_eq rfl, fun base _ _ => ?_⟩
  exact ok_law (T :=
    { C_TrickError := C_TrickError,
      g_TrickError := PySem.W.mg_of X G gx_TrickError,
      x_TrickError := x_TrickError,
      k_TrickError := k_TrickError,
      s_TrickError := s_TrickError,
      t_TrickError := t_TrickError,
      C_BadPairs := C_BadPairs,
      g_BadPairs := PySem.W.mg_of X G gx_BadPairs,
      k_BadPairs := k_BadPairs,
      s_BadPairs := s_BadPairs,
      t_BadPairs := t_BadPairs,
      t_c_GREATEST_NUMBER := tk_GREATEST_NUMBER,
      c_GREATEST_NUMBER := PySem.W.mg_of X G cx_GREATEST_NUMBER,
      t_c_LEAST_BASE := tk_LEAST_BASE,
      c_LEAST_BASE := PySem.W.mg_of X G cx_LEAST_BASE,
      t_c_GREATEST_BASE := tk_GREATEST_BASE,
      c_GREATEST_BASE := PySem.W.mg_of X G cx_GREATEST_BASE,
      t_c_GREATEST_TAKE := tk_GREATEST_TAKE,
      c_GREATEST_TAKE := PySem.W.mg_of X G cx_GREATEST_TAKE,
      t_c_GREATEST_TIMES := tk_GREATEST_TIMES,
      c_GREATEST_TIMES := PySem.W.mg_of X G cx_GREATEST_TIMES,
      t_c_MOST_PAIRS := tk_MOST_PAIRS,
      c_MOST_PAIRS := PySem.W.mg_of X G cx_MOST_PAIRS,
      a_is_integer := a_is_integer,
      d_is_integer := _,
      F_is_integer := fun_mk (st := s_is_integer) l_is_integer c_is_integer kp_is_integer,
      b_is_integer := (fun_mk (st := s_is_integer) l_is_integer c_is_integer kp_is_integer).binds (ps := ["told", "low", "high"]) fun _ _ _ _ _ _ us hl => match us, hl with | [_, _, _], _ => rfl,
      g_is_integer := PySem.W.mg_of X G gf_is_integer,
      a_is_list_or_tuple := a_is_list_or_tuple,
      d_is_list_or_tuple := _,
      F_is_list_or_tuple := fun_mk (st := s_is_list_or_tuple) l_is_list_or_tuple c_is_list_or_tuple kp_is_list_or_tuple,
      b_is_list_or_tuple := (fun_mk (st := s_is_list_or_tuple) l_is_list_or_tuple c_is_list_or_tuple kp_is_list_or_tuple).binds (ps := ["told", "fewest", "most"]) fun _ _ _ _ _ _ us hl => match us, hl with | [_, _, _], _ => rfl,
      g_is_list_or_tuple := PySem.W.mg_of X G gf_is_list_or_tuple,
      a_is_number := a_is_number,
      d_is_number := _,
      F_is_number := fun_mk (st := s_is_number) l_is_number c_is_number kp_is_number,
      b_is_number := (fun_mk (st := s_is_number) l_is_number c_is_number kp_is_number).binds (ps := ["told"]) fun _ _ _ _ _ _ us hl => match us, hl with | [_], _ => rfl,
      g_is_number := PySem.W.mg_of X G gf_is_number,
      a_block_of := a_block_of,
      d_block_of := _,
      F_block_of := fun_mk (st := s_block_of) l_block_of c_block_of kp_block_of,
      b_block_of := (fun_mk (st := s_block_of) l_block_of c_block_of kp_block_of).binds (ps := ["base", "take"]) fun _ _ _ _ _ _ us hl => match us, hl with | [_, _], _ => rfl,
      g_block_of := PySem.W.mg_of X G gf_block_of,
      a_made_with := a_made_with,
      d_made_with := _,
      F_made_with := fun_mk (st := s_made_with) l_made_with c_made_with kp_made_with,
      b_made_with := (fun_mk (st := s_made_with) l_made_with c_made_with kp_made_with).binds (ps := ["block", "times", "n"]) fun _ _ _ _ _ _ us hl => match us, hl with | [_, _, _], _ => rfl,
      g_made_with := PySem.W.mg_of X G gf_made_with,
      a_fitting := a_fitting,
      d_fitting := _,
      F_fitting := fun_mk (st := s_fitting) l_fitting c_fitting kp_fitting,
      b_fitting := (fun_mk (st := s_fitting) l_fitting c_fitting kp_fitting).binds (ps := ["pairs"]) fun _ _ _ _ _ _ us hl => match us, hl with | [_], _ => rfl,
      g_fitting := PySem.W.mg_of X G gf_fitting,
      a_check_pairs := a_check_pairs,
      d_check_pairs := _,
      F_check_pairs := fun_mk (st := s_check_pairs) l_check_pairs c_check_pairs kp_check_pairs,
      b_check_pairs := (fun_mk (st := s_check_pairs) l_check_pairs c_check_pairs kp_check_pairs).binds (ps := ["pairs"]) fun _ _ _ _ _ _ us hl => match us, hl with | [_], _ => rfl,
      g_check_pairs := PySem.W.mg_of X G gf_check_pairs,
      a_is_pair := a_is_pair,
      d_is_pair := _,
      F_is_pair := fun_mk (st := s_is_pair) l_is_pair c_is_pair kp_is_pair,
      b_is_pair := (fun_mk (st := s_is_pair) l_is_pair c_is_pair kp_is_pair).binds (ps := ["told"]) fun _ _ _ _ _ _ us hl => match us, hl with | [_], _ => rfl,
      g_is_pair := PySem.W.mg_of X G gf_is_pair,
      a_fitting_times := a_fitting_times,
      d_fitting_times := _,
      F_fitting_times := fun_mk (st := s_fitting_times) l_fitting_times c_fitting_times kp_fitting_times,
      b_fitting_times := (fun_mk (st := s_fitting_times) l_fitting_times c_fitting_times kp_fitting_times).binds (ps := ["block", "pairs"]) fun _ _ _ _ _ _ us hl => match us, hl with | [_, _], _ => rfl,
      g_fitting_times := PySem.W.mg_of X G gf_fitting_times,
      a__law_taken := a__law_taken,
      d__law_taken := _,
      F__law_taken := fun_mk (st := s__law_taken) l__law_taken c__law_taken kp__law_taken,
      b__law_taken := (fun_mk (st := s__law_taken) l__law_taken c__law_taken kp__law_taken).binds (ps := ["_law_row", "_law_many"]) fun _ _ _ _ _ _ us hl => match us, hl with | [_, _], _ => rfl,
      g__law_taken := PySem.W.mg_of X G gf__law_taken,
      a__law_power := a__law_power,
      d__law_power := _,
      F__law_power := fun_mk (st := s__law_power) l__law_power c__law_power kp__law_power,
      b__law_power := (fun_mk (st := s__law_power) l__law_power c__law_power kp__law_power).binds (ps := ["_law_base", "_law_many"]) fun _ _ _ _ _ _ us hl => match us, hl with | [_, _], _ => rfl,
      g__law_power := PySem.W.mg_of X G gf__law_power,
      a__law_trick := a__law_trick,
      d__law_trick := _,
      F__law_trick := fun_mk (st := s__law_trick) l__law_trick c__law_trick kp__law_trick,
      b__law_trick := (fun_mk (st := s__law_trick) l__law_trick c__law_trick kp__law_trick).binds (ps := ["_law_row", "_law_small"]) fun _ _ _ _ _ _ us hl => match us, hl with | [_, _], _ => rfl,
      g__law_trick := PySem.W.mg_of X G gf__law_trick,
      a__law_behind := a__law_behind,
      d__law_behind := _,
      F__law_behind := fun_mk (st := s__law_behind) l__law_behind c__law_behind kp__law_behind,
      b__law_behind := (fun_mk (st := s__law_behind) l__law_behind c__law_behind kp__law_behind).binds (ps := ["_law_told", "_law_n"]) fun _ _ _ _ _ _ us hl => match us, hl with | [_, _], _ => rfl,
      g__law_behind := PySem.W.mg_of X G gf__law_behind,
      a__law_number := a__law_number,
      d__law_number := _,
      F__law_number := fun_mk (st := s__law_number) l__law_number c__law_number kp__law_number,
      b__law_number := (fun_mk (st := s__law_number) l__law_number c__law_number kp__law_number).binds (ps := ["_law_row"]) fun _ _ _ _ _ _ us hl => match us, hl with | [_], _ => rfl,
      g__law_number := PySem.W.mg_of X G gf__law_number,
      a_law := a_law,
      d_law := _,
      F_law := fun_mk (st := s_law) l_law c_law kp_law,
      b_law := (fun_mk (st := s_law) l_law c_law kp_law).binds (ps := ["_law_script"]) fun _ _ _ _ _ _ us hl => match us, hl with | [_], _ => rfl,
      g_law := PySem.W.mg_of X G gf_law,
      n_int := PySem.W.mg_none_of X G z_int,
      n_bool := PySem.W.mg_none_of X G z_bool,
      n_len := PySem.W.mg_none_of X G z_len,
      n_range := PySem.W.mg_none_of X G z_range,
      n_isinstance := PySem.W.mg_none_of X G z_isinstance,
      n_tuple := PySem.W.mg_none_of X G z_tuple,
      n_list := PySem.W.mg_none_of X G z_list,
      n_sorted := PySem.W.mg_none_of X G z_sorted,
      n_enumerate := PySem.W.mg_none_of X G z_enumerate,
      n_abs := PySem.W.mg_none_of X G z_abs,
      n_set := PySem.W.mg_none_of X G z_set,
      n_all := PySem.W.mg_none_of X G z_all,
      n_super := PySem.W.mg_none_of X G z_super,
      n_ValueError := PySem.W.mg_none_of X G z_ValueError,
      a_BadPairs___init__ := a_BadPairs___init__,
      x_BadPairs := { gC := PySem.W.mg_of X G gx_BadPairs, cls := ⟨_, _, _, _, _, _, _, _, _, _, _, _, _, _, _, xl_BadPairs___init__, xrb_BadPairs___init__⟩, sa := xsa_BadPairs___init__, ga := xga_BadPairs___init__, gg := xgg_BadPairs___init__, noF := xnf_BadPairs___init__, iC := xic_BadPairs___init__, tC := xtc_BadPairs___init__, kC := k_BadPairs, exC := s_BadPairs, tyC := t_BadPairs, hdC := xhd_BadPairs___init__, up := xup_BadPairs___init__, any := xan_BadPairs___init__, ve := xve_BadPairs___init__, own := xow_BadPairs___init__, sup := PySem.W.mg_none_of X G z_super, main := rmn_BadPairs___init__, fn := ⟨_, _, _, _, _, _, _, _, _, _, _, _, _, _, _, _, _, _, _, xfn_BadPairs___init__, xco_BadPairs___init__, xcd_BadPairs___init__, rvs_BadPairs___init__, rfi_BadPairs___init__, xcc_BadPairs___init__⟩, text := ⟨_, _, _, _, _, _, _, _, _, _, _, rfl, rfl, fun _ => rfl⟩, kS := rfl, kK := rfl, k0 := rfl, kF := rfl, nF := by decide, nD := by decide, noCell := by decide +kernel, bind := fun _ _ _ _ _ _ _ _ _ => rfl, plain := fun _ => rfl, knd := rfl, co := rfl, gen := rfl } })
theorem walk {l : PySem.W.OpenLaw} {q : Program} {loose : List Str} {XP : (Str → Option Value) → Heap → Prop} {YP : World → Heap → Prop} {d : DefRec} {K : Params → PySem.W.Frag} (hn : l.most = some 63) (hdf : d.params.defaults = [])
    (hY : ∀ (w : World) (h : Heap), YP w h → (K w.params).In h)
    (F : ∀ (w : World) (mg : Str → Option Value) (fa : Addr) (h : Heap), (K w.params).In h → h.Ns mainGlobals mg → mg d.name = some (.ref fa) →
      ∃ fd : FuncData, (∀ (s : Shared) (u : Value), BindsTo s fd ⟨[u], []⟩ [("_law_script", u)]) ∧ ∀ base : Heap, (K w.params).In base → base.Ns mainGlobals mg → FnOk l.prog w (K w.params) mg base CX0 lv_law fa fd ["_law_script"] (sp_law (K w.params))) :
    PySem.W.WalkO q loose XP YP l.row.toRowW d [] (fun f vs => PySem.call f vs) :=
  L2.walk_of (n := 63) (k := lv_law) (x := "_law_script") (CX := fun _ => CX0) (sp := fun w => sp_law (K w.params)) hn (by decide) hdf ⟨rfl, by decide, by decide⟩ hY F (fun _ _ a ns hl hO hS => ⟨a, ns, rfl, scr_of hO hS, hl, fun _ => rfl⟩) fun _ _ _ _ _ z => z
end Rt
open PySem PySem.W PyProof.Rows
set_option maxRecDepth 100000 in
set_option maxHeartbeats 0 in
theorem PySem.Challenge.cw_resttricks_k35_fitting_great_holds : PySem.Challenge.rw_resttricks_k35_fitting_great.Holds := by
  w_on; o_law; k_head; (case hw => w_witness2)
  k_fill
  refine Rt.walk (l := PySem.Challenge.rw_resttricks_k35_fitting_great) rfl rfl (fun w h Y => PySem.W.kIn_of Y) ?F
  case F =>
    intro w mg fa h KX G hmg
    refine' Rt.all_mk KX G hmg ?gx_TrickError ?x_TrickError ?k_TrickError ?s_TrickError ?t_TrickError ?gx_BadPairs ?k_BadPairs ?s_BadPairs ?t_BadPairs ?cx_GREATEST_NUMBER ?cx_LEAST_BASE ?cx_GREATEST_BASE ?cx_GREATEST_TAKE ?cx_GREATEST_TIMES ?cx_MOST_PAIRS ?gf_is_integer ?l_is_integer ?c_is_integer ?kp_is_integer ?gf_is_list_or_tuple ?l_is_list_or_tuple ?c_is_list_or_tuple ?kp_is_list_or_tuple ?gf_is_number ?l_is_number ?c_is_number ?kp_is_number ?gf_block_of ?l_block_of ?c_block_of ?kp_block_of ?gf_made_with ?l_made_with ?c_made_with ?kp_made_with ?gf_fitting ?l_fitting ?c_fitting ?kp_fitting ?gf_check_pairs ?l_check_pairs ?c_check_pairs ?kp_check_pairs ?gf_is_pair ?l_is_pair ?c_is_pair ?kp_is_pair ?gf_fitting_times ?l_fitting_times ?c_fitting_times ?kp_fitting_times ?gf__law_taken ?l__law_taken ?c__law_taken ?kp__law_taken ?gf__law_power ?l__law_power ?c__law_power ?kp__law_power ?gf__law_trick ?l__law_trick ?c__law_trick ?kp__law_trick ?gf__law_behind ?l__law_behind ?c__law_behind ?kp__law_behind ?gf__law_number ?l__law_number ?c__law_number ?kp__law_number ?gf_law ?l_law ?c_law ?kp_law ?z_int ?z_bool ?z_len ?z_range ?z_isinstance ?z_tuple ?z_list ?z_sorted ?z_enumerate ?z_abs ?z_set ?z_all ?z_super ?z_ValueError ?xl_BadPairs___init__ ?xrb_BadPairs___init__ ?xsa_BadPairs___init__ ?xga_BadPairs___init__ ?xgg_BadPairs___init__ ?xnf_BadPairs___init__ ?xic_BadPairs___init__ ?xtc_BadPairs___init__ ?xhd_BadPairs___init__ ?xup_BadPairs___init__ ?xan_BadPairs___init__ ?xve_BadPairs___init__ ?xow_BadPairs___init__ ?rmn_BadPairs___init__ ?xfn_BadPairs___init__ ?xco_BadPairs___init__ ?xcd_BadPairs___init__ ?rvs_BadPairs___init__ ?rfi_BadPairs___init__ ?xcc_BadPairs___init__
    (case gx_TrickError => k_is)
    (case x_TrickError => k_exc)
    (case k_TrickError => k_is)
    (case s_TrickError => k_is)
    (case t_TrickError => k_is)
    (case gx_BadPairs => k_is)
    (case k_BadPairs => k_is)
    (case s_BadPairs => k_is)
    (case t_BadPairs => k_is)
    (case cx_GREATEST_NUMBER => k_is)
    (case cx_LEAST_BASE => k_is)
    (case cx_GREATEST_BASE => k_is)
    (case cx_GREATEST_TAKE => k_is)
    (case cx_GREATEST_TIMES => k_is)
    (case cx_MOST_PAIRS => k_is)
    (case gf_is_integer => k_is)
    (case l_is_integer => k_is)
    (case c_is_integer => k_is)
    (case kp_is_integer => k_is)
    (case gf_is_list_or_tuple => k_is)
    (case l_is_list_or_tuple => k_is)
    (case c_is_list_or_tuple => k_is)
    (case kp_is_list_or_tuple => k_is)
    (case gf_is_number => k_is)
    (case l_is_number => k_is)
    (case c_is_number => k_is)
    (case kp_is_number => k_is)
    (case gf_block_of => k_is)
    (case l_block_of => k_is)
    (case c_block_of => k_is)
    (case kp_block_of => k_is)
    (case gf_made_with => k_is)
    (case l_made_with => k_is)
    (case c_made_with => k_is)
    (case kp_made_with => k_is)
    (case gf_fitting => k_is)
    (case l_fitting => k_is)
    (case c_fitting => k_is)
    (case kp_fitting => k_is)
    (case gf_check_pairs => k_is)
    (case l_check_pairs => k_is)
    (case c_check_pairs => k_is)
    (case kp_check_pairs => k_is)
    (case gf_is_pair => k_is)
    (case l_is_pair => k_is)
    (case c_is_pair => k_is)
    (case kp_is_pair => k_is)
    (case gf_fitting_times => k_is)
    (case l_fitting_times => k_is)
    (case c_fitting_times => k_is)
    (case kp_fitting_times => k_is)
    (case gf__law_taken => k_is)
    (case l__law_taken => k_is)
    (case c__law_taken => k_is)
    (case kp__law_taken => k_is)
    (case gf__law_power => k_is)
    (case l__law_power => k_is)
    (case c__law_power => k_is)
    (case kp__law_power => k_is)
    (case gf__law_trick => k_is)
    (case l__law_trick => k_is)
    (case c__law_trick => k_is)
    (case kp__law_trick => k_is)
    (case gf__law_behind => k_is)
    (case l__law_behind => k_is)
    (case c__law_behind => k_is)
    (case kp__law_behind => k_is)
    (case gf__law_number => k_is)
    (case l__law_number => k_is)
    (case c__law_number => k_is)
    (case kp__law_number => k_is)
    (case gf_law => k_is)
    (case l_law => k_is)
    (case c_law => k_is)
    (case kp_law => k_is)
    (case z_int => k_is)
    (case z_bool => k_is)
    (case z_len => k_is)
    (case z_range => k_is)
    (case z_isinstance => k_is)
    (case z_tuple => k_is)
    (case z_list => k_is)
    (case z_sorted => k_is)
    (case z_enumerate => k_is)
    (case z_abs => k_is)
    (case z_set => k_is)
    (case z_all => k_is)
    (case z_super => k_is)
    (case z_ValueError => k_is)
    (case xl_BadPairs___init__ => k_is)
    (case xrb_BadPairs___init__ => first | rfl | decide +kernel)
    (case xsa_BadPairs___init__ => k_is)
    (case xga_BadPairs___init__ => k_is)
    (case xgg_BadPairs___init__ => k_is)
    (case xnf_BadPairs___init__ => k_is)
    (case xic_BadPairs___init__ => k_is)
    (case xtc_BadPairs___init__ => k_is)
    (case xhd_BadPairs___init__ => k_is)
    (case xup_BadPairs___init__ => ks_is)
    (case xan_BadPairs___init__ => k_is)
    (case xve_BadPairs___init__ => k_is)
    (case xow_BadPairs___init__ => k_is)
    (case rmn_BadPairs___init__ => first | rfl | decide +kernel)
    (case xfn_BadPairs___init__ => k_is)
    (case xco_BadPairs___init__ => k_is)
    (case xcd_BadPairs___init__ => k_is)
    (case rvs_BadPairs___init__ => first | rfl | decide +kernel)
    (case rfi_BadPairs___init__ => first | rfl | decide +kernel)
    (case xcc_BadPairs___init__ => k_is)
#print axioms PySem.Challenge.cw_resttricks_k35_fitting_great_holds
