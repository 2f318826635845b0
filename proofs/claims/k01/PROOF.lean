import PyProof.Rows.All
import Wide.All
import OpenK.AllK
import Wide.FinOn
import HandS.ForMost
import HandS.Exc
import HandS.TryOnly
import HandS.ExcOwn
import HandS.WordsExc
import HandS.TryMany
import HandS.IsInst
import HandS.Property
import HandS.Wide
import HandS.SortInts
import HandS.Conv
import HandS.Evl
import HandS.NoneIn
import HandS.ExcIs
import HandS.ExcSuper
import KE.KExcSuper
import KE.KExcInit
import KE.GoesMore
import HandS.Rev
import HandS.FStr
import HandS.Walk
import HandS.WideMore
import HandS.TupAny
import HandS.TupMul
import HandS.Style
import HandS.SetFor
import HandS.Strs
import HandS.Defaults
import HandS.RaiseMore
import HandS.Zip
import PySem.Challenge.RW_resttricks_k01_whole_figures
set_option Elab.async false
set_option linter.all false
set_option maxRecDepth 100000
set_option maxHeartbeats 2000000
namespace Rt
open PySem L2 PySem.Spec PyProof.Rows
/-! ### the text by places -/
def topS (i : Nat) : Stmt := PySem.Challenge.pw_resttricks_k01_whole_figures.main.body.getD i (.Pass ⟨0, 0, 0, 0⟩)
abbrev s_is_integer : Stmt := topS 9
abbrev s_is_tuple : Stmt := topS 10
abbrev s_first_wrong : Stmt := topS 11
abbrev s_check_base : Stmt := topS 12
abbrev s_check_stretch : Stmt := topS 13
abbrev s_figures : Stmt := topS 16
abbrev s_number : Stmt := topS 17
abbrev s_check_figures : Stmt := topS 18
abbrev s__law_taken : Stmt := topS 20
abbrev s__law_number : Stmt := topS 21
abbrev s__law_figures : Stmt := topS 22
abbrev s_law : Stmt := topS 23
abbrev s_BadNumber___init__ : Stmt := inClass (topS 3) 0
abbrev s_BadFigures___init__ : Stmt := inClass (topS 4) 0
theorem sc_is_integer : FnScope ["told", "low", "high"] ["told", "low", "high"] (defScope s_is_integer) := ⟨rfl, rfl, rfl, by decide +kernel, rfl, by decide +kernel, by decide +kernel⟩
abbrev lv_is_integer : Nat := 1
theorem sc_is_tuple : FnScope ["told", "fewest", "most"] ["told", "fewest", "most"] (defScope s_is_tuple) := ⟨rfl, rfl, rfl, by decide +kernel, rfl, by decide +kernel, by decide +kernel⟩
abbrev lv_is_tuple : Nat := 1
theorem sc_first_wrong : FnScope ["told", "low", "high", "index", "thing"] ["told", "low", "high"] (defScope s_first_wrong) := ⟨rfl, rfl, rfl, by decide +kernel, rfl, by decide +kernel, by decide +kernel⟩
abbrev lv_first_wrong : Nat := 2
theorem sc_check_base : FnScope ["base"] ["base"] (defScope s_check_base) := ⟨rfl, rfl, rfl, by decide +kernel, rfl, by decide +kernel, by decide +kernel⟩
abbrev lv_check_base : Nat := 2
theorem sc_check_stretch : FnScope ["n", "low", "high"] ["n", "low", "high"] (defScope s_check_stretch) := ⟨rfl, rfl, rfl, by decide +kernel, rfl, by decide +kernel, by decide +kernel⟩
abbrev lv_check_stretch : Nat := 3
theorem sc_figures : FnScope ["n", "base", "found", "left"] ["n", "base"] (defScope s_figures) := ⟨rfl, rfl, rfl, by decide +kernel, rfl, by decide +kernel, by decide +kernel⟩
abbrev lv_figures : Nat := 4
theorem sc_number : FnScope ["told", "base", "n", "figure"] ["told", "base"] (defScope s_number) := ⟨rfl, rfl, rfl, by decide +kernel, rfl, by decide +kernel, by decide +kernel⟩
abbrev lv_number : Nat := 4
theorem sc_check_figures : FnScope ["told", "base", "fewest", "index"] ["told", "base", "fewest"] (defScope s_check_figures) := ⟨rfl, rfl, rfl, by decide +kernel, rfl, by decide +kernel, by decide +kernel⟩
abbrev lv_check_figures : Nat := 3
theorem sc__law_taken : FnScope ["_law_row", "_law_many", "_law_found", "_law_cell"] ["_law_row", "_law_many"] (defScope s__law_taken) := ⟨rfl, rfl, rfl, by decide +kernel, rfl, by decide +kernel, by decide +kernel⟩
abbrev lv__law_taken : Nat := 1
theorem sc__law_number : FnScope ["_law_row", "_law_size", "_law_n"] ["_law_row"] (defScope s__law_number) := ⟨rfl, rfl, rfl, by decide +kernel, rfl, by decide +kernel, by decide +kernel⟩
abbrev lv__law_number : Nat := 2
theorem sc__law_figures : FnScope ["_law_n", "_law_base", "_law_found"] ["_law_n", "_law_base"] (defScope s__law_figures) := ⟨rfl, rfl, rfl, by decide +kernel, rfl, by decide +kernel, by decide +kernel⟩
abbrev lv__law_figures : Nat := 1
theorem sc_law : FnScope ["_law_script", "_law_row", "_law_turn", "_law_base", "_law_n", "_law_told", "_law_more", "_law_due", "_law_figure", "_law_k"] ["_law_script"] (defScope s_law) := ⟨rfl, rfl, rfl, by decide +kernel, rfl, by decide +kernel, by decide +kernel⟩
abbrev lv_law : Nat := 6
/-! ### what is known of the top behind its run -/
/-! ### an own error whose __init__ says super().__init__(text); self.F = F -/
end Rt
namespace ErrX
open PySem PySem.W PySem.Calls PyProof.Rows PySem.HandSPX
/-- what the written part says of such a class at C, its field F, its __init__ at fI -/
structure ErrTxt (P : Program) (K : Frag) (mg : Str → Option Value) (x fld : Str) (C fI : Addr) (ae : PySem.Expr) (st : Stmt) : Prop where
  gC : mg x = some (.ref C)
  cls : ∃ nm q N bs bm sn sub ab col dd k0 k1 k2 k3 k5, K.lookup C = some (excClassObj nm q C N bs bm true sn sub ab col dd k0 k1 k2 k3 k5 "ValueError.__new__") ∧ refsVE bm = true
  sa : findIn K (.ref C) "__setattr__" = some (some (.builtin "object.__setattr__"))
  ga : findIn K (.ref C) "__getattribute__" = some (some (.builtin "BaseException.__getattribute__"))
  gg : findIn K (.ref C) "__getattr__" = some none
  noF : findIn K (.ref C) fld = some none
  iC : findIn K (.ref C) "__init__" = some (some (.ref fI))
  tC : typeIn K (.ref fI) = some (.type "function")
  kC : keepIn K (.ref C) = true
  exC : subIn K (.ref C) (.type "BaseException") = some true
  tyC : typeIn K (.ref C) = some (.type "type")
  hdC : hasDictIn K C = true
  up : ks_superIn K C C "__init__" = some (some (.builtin "ValueError.__init__"))
  any : nsIn K cStatics "thirdparty.any" = some none
  ve : subIn K (.ref C) (.type "ValueError") = some true
  own : mroIn K C (.ref C) = some true
  sup : mg "super" = none
  main : (P.main.scope.names.lookup ("super" : Str)).isSome = false
  fn : ∃ (oc : Value) (od : Option Addr) (doc pm : Value) (an : Option Addr) (cda : Addr) (ct : Value) (osl : Array (Option Value)) (cc : Addr) (vs : Array Value) (file : Str) (tf : Tok) (ccl cl : Value) (cdd cld : Option Addr) (ccs csl : Array (Option Value)) (qual : Str),
    K.lookup fI = some ⟨oc, od, .func (ksFn "__init__" qual (L2.defArgs st) (L2.defBody st) (L2.defScope st) .none .none doc pm an (.ref cda) ct cc), osl⟩ ∧ codeIn K (.ref cda) qual = true ∧
    K.lookup cda = some ⟨ccl, cdd, .fields vs, ccs⟩ ∧ vs[2]? = some (.str file tf) ∧ ((P.main.file : Str) == file) = true ∧ K.lookup cc = some ⟨cl, cld, .cell (some (.ref C)), csl⟩
  text : ∃ (p0 p1 p2 p3 p4 q1 q2 q3 q4 a1 a2 : Pos), L2.defBody st = [.Expr (.Call (.Attribute (.Call (.Name "super" p0) [] [] p1) "__init__" p2) [ae] [] p3) p4, .Assign [.Attribute (.Name "self" q1) fld q2] (.Name fld q3) q4] ∧
    L2.defArgs st = { posonlyargs := [], args := [{ arg := "self", annotation := none, pos := a1 }, { arg := fld, annotation := none, pos := a2 }], vararg := none, kwonlyargs := [], kw_defaults := [], kwarg := none, defaults := [] } ∧
    ∀ env : Env, eval (.Call (.Attribute (.Call (.Name "super" p0) [] [] p1) "__init__" p2) [ae] [] p3) env = (do
      let ov ← attributeBase (.Call (.Name "super" p0) [] [] p1) "__init__" env (eval (.Call (.Name "super" p0) [] [] p1) env)
      standAt p2.atName
      let (f, first) ← holding [ov] (getMethod ov "__init__" (do return (← importBound (.Call (.Name "super" p0) [] [] p1) env).getD true))
      callWith p3 f first (backTo p3 (starEach [ae] env)) [])
  kS : (L2.defScope st).names.lookup ("super" : Str) = some .globalImplicit
  kK : (L2.defScope st).names.lookup ("__class__" : Str) = some .free
  k0 : (L2.defScope st).names.lookup ("self" : Str) = some .local
  kF : (L2.defScope st).names.lookup fld = some .local
  nF : (("self" : Str) == fld) = false
  nD : (fld == ("__debug__" : Str)) = false
  noCell : ∀ y ∈ (L2.defScope st).names, y.2 ≠ .cell
  bind : ∀ (qual : Str) (doc pm : Value) (an : Option Addr) (cda : Addr) (ct : Value) (cc : Addr) (u v : Value), bindArgs (ksFn "__init__" qual (L2.defArgs st) (L2.defBody st) (L2.defScope st) .none .none doc pm an (.ref cda) ct cc) ⟨[u, v], []⟩ = pure [(("self" : Str), u), (fld, v)]
  plain : ∀ env : Env, starEach (ae :: []) env = (false, eval ae env) :: starEach [] env
  knd : (L2.defScope st).kind = .function
  co : (L2.defScope st).isCoroutine = false
  gen : (L2.defScope st).isGenerator = false
/-- what __init__ leaves of a fresh error at x -/
structure EndOf (h h' : Heap) (x C dx t1 : Addr) (fld : Str) (v : Value) : Prop where
  keep : ∀ b o, b ≠ x → h.get? b = some o → h'.get? b = some o
  obj : h'.get? x = some { cls := .ref C, dict := some dx, data := .fields #[.ref t1, .none, .none, .none, .bool false, .none] }
  dbig : h.objs.size ≤ dx
  dne : dx ≠ x
  ns : h'.Ns1 dx (fun y => if y = fld then some v else none)
/-- the argument of super().__init__ is a text, whatever the field is -/
def ArgOk (prog : Program) (w : World) (ae : PySem.Expr) (fld : Str) (v : Value) : Prop := ∀ (env : Env) (m : Str → Option Value) (A : Around) (Q : Value → Shared → Prop) (E : Value → Shared → Prop) (s : Shared), s.heap.Ns env.locals m → m fld = some v → env.scope.kind = .function → env.kindOf fld = some .local →
  (∀ z t tk, Q (.str z t) { s with toks := tk }) → wpAny (model prog w) A (eval ae env) Q E s
theorem argOk_const {prog : Program} {w : World} {ae : PySem.Expr} {fld : Str} {v : Value} {z : Str} {k : Nat} {pos : Pos} (h : ae = .Constant (.str z) k pos) : ArgOk prog w ae fld v := by
  intro env m A Q E s _ _ _ _ hq
  rw [h]
  exact wpAny_Constant_str (hq _ _ _)
/-- None, or an int whose text is short -/
def NoneInt (v : L2.V) : Prop := v = .non ∨ ∃ i : Int, v = .int i ∧ i.natAbs.log2 < 1920
theorem argOk_f {prog : Program} {w : World} {ae : PySem.Expr} {fld : Str} {v : L2.V} {u : Value} {z : Str} {k : Nat} {p1 p2 p3 p4 : Pos} (n : NoneInt v) (r : L2.RelV v u)
    (h : ae = .JoinedStr [.Constant (.str z) k p1, .FormattedValue (.Name fld p2) (-1) none p3] p4 := by rfl) (hz : z.length ≤ 1000 := by decide) (hd : (fld == ("__debug__" : Str)) = false := by decide) : ArgOk prog w ae fld u := by
  intro env m A Q E s hn hv hk hl hq
  rw [h]
  have e0 : evalEach [.Constant (.str z) k p1, .FormattedValue (.Name fld p2) (-1) none p3] env = [eval (.Constant (.str z) k p1) env, eval (.FormattedValue (.Name fld p2) (-1) none p3) env] := by first | rfl | simp [evalEach]
  refine wpAny_JoinedStr ?_
  rw [e0]
  refine wpAny_Constant_str ?_
  have l0 : (Str.empty ++ z).length ≤ 1000 := by
    rw [Str.length_append]
    exact Nat.le_trans (Nat.le_of_eq (Nat.zero_add _)) hz
  refine ⟨z, _, rfl, Nat.le_trans l0 (by rw [sizeLine_eq]; decide), ?_⟩
  refine wpAny_FormattedValue_plain (wpAny_Name (wpAny_loadName_local hk hl hn hv ?_) hd)
  rcases n with rfl | ⟨i, rfl, hi⟩
  · cases r
    refine wpAny_formatField_none ⟨"None", _, rfl, ?_, ?_⟩
    · rw [Str.length_append, sizeLine_eq]
      have e : ("None" : Str).length = 4 := by decide
      omega
    · refine ⟨?_, hq _ _ _⟩
      rw [Str.length_append, sizeLine_eq]
      have e : ("None" : Str).length = 4 := by decide
      omega
  · obtain ⟨t, rfl⟩ := r
    refine wpAny_formatField_int hi ⟨_, _, rfl, ?_, ?_⟩
    · rw [Str.length_append, sizeLine_eq]
      have e := int_text_length_le (k := 1920) (by decide) hi
      have e2 : (Str.ofString (toString i)).length = (toString i).length := PySem.ofString_length _
      omega
    · refine ⟨?_, hq _ _ _⟩
      rw [Str.length_append, sizeLine_eq]
      have e := int_text_length_le (k := 1920) (by decide) hi
      have e2 : (Str.ofString (toString i)).length = (toString i).length := PySem.ofString_length _
      omega
/-- the argument of super().__init__ in the text of an __init__ -/
def aeOf (st : Stmt) : PySem.Expr := match L2.defBody st with
  | .Expr (.Call _ (a :: _) _ _) _ :: _ => a
  | _ => .Name "self" ⟨0, 0, 0, 0⟩
section
variable {prog : Program} {w : World} {A : Around} {E : Value → Shared → Prop} {hp : Heap} {g : Array GenState} {d : Drawn} {tk : Nat} {os : OsState}
/-- the bound __init__ of the base, called: the args are laid anew -/
theorem base_init {nm q : Str} {C N u e t0 : Addr} {bs bm : List Value} {sn : List Str} {sub : List Value} {ab : Bool} {col : Option Bool} {dd : Option Addr} {k0 k1 k2 k3 k5 : Option Value} {rest : List Value} {Q : Value → Shared → Prop}
    (hC : hp.get? C = some (excClassObj nm q C N bs bm true sn sub ab col dd k0 k1 k2 k3 k5 "ValueError.__new__")) (he : hp.get? e = some (excO C t0)) (hu : hp.get? u = some (kxs_mw "ValueError.__init__" e)) (hz : rest.length ≤ sizeLine)
    (k : ∀ h' t1, (∀ b o, b ≠ e → hp.get? b = some o → h'.get? b = some o) → h'.get? e = some (excO C t1) → Q .none ⟨h', g, d, tk, os⟩) : wpAny (model prog w) A (call (.ref u) rest) Q E ⟨hp, g, d, tk, os⟩ := by
  refine wpAny_call (codeAny_of_tree ?_)
  show wpAny _ A.in1 (callAny (.ref u) { pos := rest }) _ _ _
  unfold callAny
  refine wpAny_bind (wpAny_load hu ?_)
  have c1 : (Value.type "method-wrapper" == Value.type "method" || Value.type "method-wrapper" == Value.type "builtin_function_or_method" ||
    Value.type "method-wrapper" == Value.type "method-wrapper") = true := by decide
  simp only [kxs_mw, c1, if_true]
  refine KFB.if_so (by decide) (wpAny_bind (ESX.check_bound F.excBase_ValueError hC he rfl (wpAny_bind (wpAny_pure (wpAny_pure ?_)))))
  have FB := F.excBase_ValueError
  refine ⟨plainId_quiet FB.init.plain _, codeAny_builtin FB.initEntry ?_⟩
  rw [Around.under_plainId FB.init.plain _]
  wp_walk
  refine k _ hp.objs.size (fun b o n z => ?_) ?_
  · rw [Heap.get?_update_other _ _ (Ne.symm n)]
    exact Heap.get?_push_of_some _ z
  · rw [Heap.get?_update_self _ (Heap.get?_push_of_some _ he) rfl]
    rfl
theorem call_bound1 {M : Model} {s : Shared} {pos : Pos} {u b : Addr} {env : Env} {ae : PySem.Expr} {i : String} {Q : Value → Shared → Prop} (hpl : starEach (ae :: []) env = (false, eval ae env) :: starEach [] env)
    (h : wpAny M A (eval ae env) (fun v s₁ => KxsAt i u b s₁.heap ∧ wpAny M A (call (.ref u) [v]) Q E s₁) E s) : wpAny M A (callWith pos (.ref u) [] (backTo pos (starEach [ae] env)) []) Q E s := by
  have q : wpAny M A (spliced (backTo pos (starEach (ae :: []) env))) (fun vs s₁ => KxsAt i u b s₁.heap ∧ wpAny M A (call (.ref u) vs) Q E s₁) E s := args_cons (he := hpl) (wpAny_mono h (fun v s₁ z => wpAny_of_eq rfl z) fun _ _ z => z)
  rw [hpl] at q ⊢
  exact kxs_callWith (x := b) rfl (evalArgs_plain q)
theorem err_init {R : Result → Shared → Prop} {K : Frag} {mg mb : Str → Option Value} {x fld : Str} {C fI e t0 : Addr} {ae : PySem.Expr} {st : Stmt} {v : Value} (T : ErrTxt prog K mg x fld C fI ae st) (hA : ArgOk prog w ae fld v)
    (X : K.In hp) (hlim : hp.NoLimit) (hg : hp.Ns mainGlobals mg) (hb : hp.Ns builtinsNs mb) (hbb : ∀ y : Str, y ≠ "__name__" → mb y = bootBuiltins y) (he : hp.get? e = some (excO C t0)) (hne : K.lookup e = none) (hroom : A.depth < recursionLimit)
    (hq : ∀ h' tk dx t1, EndOf hp h' e C dx t1 fld v → R (.ok (.ret .none)) ⟨h', g, d, tk, os⟩) : codeAny (model prog w) A (.call (.ref fI) ⟨[.ref e, v], []⟩) R ⟨hp, g, d, tk, os⟩ := by
  obtain ⟨oc, od, doc, pm, an, cda, ct, osl, cc, vs, file, tf, ccl, cl, cdd, cld, ccs, csl, qual, lf, lc, lda, lvs, lfile, lcc⟩ := T.fn
  obtain ⟨p0, p1, p2, p3, p4, q1, q2, q3, q4, a1, a2, hB, hArgs, hcallE⟩ := T.text
  obtain ⟨nm, qn, N, bs, bm, sn, sub, ab, col, dd, k0, k1, k2, k3, k5, lC, hbm⟩ := T.cls
  have hcl : clsIn K C = some { name := nm, bases := bs, mro := .ref C :: bm, ns := N, qualname := qn, hasDict := true, slotNames := sn, subclasses := sub, abstract := ab, collection := col, hasDel := false } := by
    unfold clsIn
    rw [lC]
    all_goals rfl
  have hbind := T.bind qual doc pm an cda ct cc (.ref e) v
  rw [hB, hArgs] at lf hbind
  have neC : e ≠ C := fun z => by
    rw [z, lC] at hne
    cases hne
  refine ks_codeAny_call_defAt (binds := [("self", .ref e), (fld, v)]) hroom (X _ _ lf) rfl hlim (codeRec_of X lc) rfl (BindsTo.of_eq hbind) T.noCell ?_ (fun h1 hns keep => ?_) T.co T.gen T.knd
  · intro y hy
    rcases List.mem_cons.mp hy with z | hy
    · rw [z]; exact T.k0
    · rcases List.mem_cons.mp hy with z | hy
      · rw [z]; exact T.kF
      · cases hy
  have hint : ∀ env : Env, env.scope = L2.defScope st → interactive env = false := fun env z => by
    unfold interactive
    rw [z, T.knd]
    rfl
  have X1 : K.In h1 := X.keeps keep
  have he1 := keep _ _ he
  have m0 : ([("self", Value.ref e), (fld, v)] : List (Str × Value)).reverse.lookup ("self" : Str) = some (.ref e) := by
    show List.lookup ("self" : Str) [(fld, v), (("self" : Str), Value.ref e)] = some (.ref e)
    rw [List.lookup_cons, T.nF]
    rfl
  have mF : ([("self", Value.ref e), (fld, v)] : List (Str × Value)).reverse.lookup fld = some v := by
    show List.lookup fld [(fld, v), (("self" : Str), Value.ref e)] = some v
    rw [List.lookup_cons, beq_self_eq_true]
  obtain ⟨oD, hD1, hD2⟩ : ∃ oD : Obj, h1.get? C = some oD ∧ oD.data = .cls { name := nm, bases := bs, mro := .ref C :: bm, ns := N, qualname := qn, hasDict := true, slotNames := sn, subclasses := sub, abstract := ab, collection := col, hasDel := false } := ⟨_, X1 _ _ lC, rfl⟩
  refine ks_wpAt_execs_cons (ks_wpAt_Expr_any (hi := hint _ rfl) (ks_wpAt_MethodCall (he := hcallE _) (ks_wpAt_super_base T.kS T.kK (by decide) rfl (X1 _ _ lf) rfl rfl rfl (X1 _ _ lda) rfl lvs lfile T.main ?_)))
  refine ks_loadName_global T.knd T.kS (Calls.loadGlobal_builtin (hg.keeps keep) T.sup (hb.keeps keep) ((hbb _ (by decide +kernel)).trans (show bootBuiltins "super" = some (.type "super") by kernel_rfl)) ⟨rfl, ?_⟩)
  refine wpAny_loadName_free T.knd T.kK rfl ⟨_, X1 _ _ lcc, rfl⟩ ?_
  refine wpAny_loadName_local T.knd T.k0 hns m0 ?_
  refine ks_wpAny_isType_cls hD1 hD2 ⟨rfl, ?_⟩
  refine ks_wpAny_call_super hD1 hD2 he1 rfl (fun c z => by cases z) (looks_mroIn X1 T.own) (fun h2 hso k2 => ?_)
  have X2 : K.In h2 := X1.keeps k2
  have he2 := k2 _ _ he1
  have hup : alongIn K "__init__" (List.drop 1 (List.dropWhile (fun (z : Value) => z != Value.ref C) (.ref C :: bm))) = some (some (.builtin "ValueError.__init__")) := by
    have z := T.up
    unfold ks_superIn at z
    rw [hcl] at z
    exact z
  have I2 : InstAt h2 e (excO C t0) C none := ⟨he2, rfl, rfl, trivial⟩
  refine kxs_getMethod kxs_ValueError hso (looks_opaque X2 T.any) (l₀ := .ref C :: bm) (fun A Q E s k q => wpAny_bind ((looks_clsIn X2 hcl) A _ E s k (wpAny_pure q))) rfl X2 hup (I2.type.andThen (looks_subIn X2 T.ve)) neC (by decide) ?_
  have k3 : ∀ b o, h2.get? b = some o → (h2.push (kxs_mw "ValueError.__init__" e)).get? b = some o := fun b o z => Heap.get?_push_of_some _ z
  have k13 : ∀ b o, h1.get? b = some o → (h2.push (kxs_mw "ValueError.__init__" e)).get? b = some o := fun b o z => k3 _ _ (k2 _ _ z)
  have hn3 := hns.keeps k13
  refine call_bound1 (i := "ValueError.__init__") (b := e) (T.plain _) ?_
  refine hA _ _ _ _ _ _ hn3 mF T.knd T.kF fun z t tk => ⟨Heap.get?_push_at rfl rfl, ?_⟩
  refine base_init (X2.keeps k3 _ _ lC) (k3 _ _ he2) (Heap.get?_push_at rfl rfl) (by rw [sizeLine_eq]; exact Nat.le_of_ble_eq_true rfl) fun h4 t1 k4 he4 => ?_
  have X4 : K.In h4 := fun b o z => k4 _ _ (fun y => by rw [y, hne] at z; cases z) (X2.keeps k3 b o z)
  have hLe : hp.objs.size ≠ e := Nat.ne_of_gt (Heap.lt_size he)
  have hn4 : h4.Ns hp.objs.size (fun y => List.lookup y ([(("self" : Str), Value.ref e), (fld, v)] : List (Str × Value)).reverse) := by
    obtain ⟨oL, es, ep, hL, r⟩ := hn3
    exact ⟨oL, es, ep, k4 _ _ hLe hL, r⟩
  -- self.F = F
  refine wpAt_of_wpAny (wpAny_execs_cons (plainObj_wpAny_Assign_Attribute ?_))
  refine ESX.ldL hn4 mF (ESX.ldL hn4 m0 ?_ T.knd T.k0) T.knd T.kF T.nD
  refine set_plain X4 (ox := excO C t1) (od := none) ⟨he4, rfl, rfl, trivial⟩ T.sa ?_
  refine exc_osa X4 he4 hcl (show refsVE (.ref C :: bm) = true from hbm) rfl T.noF (fun h5 tk5 dx k5' dn dne he5 hn5 => ?_)
  have z : hp.objs.size ≤ dx := Nat.le_trans (Nat.le_of_lt (Nat.lt_of_lt_of_le hn4.lt (Nat.le_refl _))) dn
  exact wpAny_execs_nil (hq h5 tk5 dx t1 ⟨fun b o hbe y => k5' b o hbe (k4 b o hbe (k3 b o (k2 b o (keep b o y)))), he5, z, dne, hn5⟩)
/-- a made error -/
structure Made (h h' : Heap) (e C d : Addr) (fld : Str) (v : Value) : Prop where
  keep : ∀ b o, h.get? b = some o → h'.get? b = some o
  new : h.objs.size ≤ e
  obj : ∃ oe vs, h'.get? e = some oe ∧ oe.cls = .ref C ∧ oe.dict = some d ∧ oe.data = .fields vs ∧ vs[1]? = some .none
  dbig : h.objs.size ≤ d
  dne : d ≠ e
  ns : h'.Ns1 d (fun y => if y = fld then some v else none)
theorem err_made {R : Result → Shared → Prop} {K : Frag} {mg mb : Str → Option Value} {x fld : Str} {C fI : Addr} {ae : PySem.Expr} {st : Stmt} {v : Value} (T : ErrTxt prog K mg x fld C fI ae st) (hA : ArgOk prog w ae fld v)
    (X : K.In hp) (hlim : hp.NoLimit) (hg : hp.Ns mainGlobals mg) (hb : hp.Ns builtinsNs mb) (hbb : ∀ y : Str, y ≠ "__name__" → mb y = bootBuiltins y) (hroom : A.depth + 1 < recursionLimit)
    (hq : ∀ h' tk e dx, Made hp h' e C dx fld v → R (.ok (.ret (.ref e))) ⟨h', g, d, tk, os⟩) : codeAny (model prog w) A (.call (.ref C) ⟨[v], []⟩) R ⟨hp, g, d, tk, os⟩ := by
  obtain ⟨nm, qn, N, bs, bm, sn, sub, ab, col, dd, k0, k1, k2, k3, k5, lC, hbm⟩ := T.cls
  have k : ∀ b o, hp.get? b = some o → ((hp.push (kdv_tup [v])).push (excO C hp.objs.size)).get? b = some o := fun b o z => Heap.get?_push_of_some _ (Heap.get?_push_of_some _ z)
  have hget : ((hp.push (kdv_tup [v])).push (excO C hp.objs.size)).get? (hp.objs.size + 1) = some (excO C hp.objs.size) := by heap_get
  have hnx : K.lookup (hp.objs.size + 1) = none := by
    cases z : K.lookup (hp.objs.size + 1) with
    | none => rfl
    | some o => exact absurd (Nat.lt_of_succ_lt (Heap.lt_size (X _ _ z))) (Nat.lt_irrefl _)
  refine call_own F.excBase_ValueError (fun X => refsVE_contains X bm hbm) (X _ _ lC) (looks_findIn X T.iC) (fun self => bind_fn X self T.tC) (by rw [sizeLine_eq]; exact Nat.le_of_ble_eq_true rfl) ?_
  refine err_init T hA (X.keeps k) (hlim.keeps k) (hg.keeps k) (hb.keeps k) hbb hget hnx ?_ fun h' tk' dx t1 M => ?_
  · show A.depth + 1 < recursionLimit
    exact hroom
  · have old : ∀ b o, hp.get? b = some o → h'.get? b = some o := fun b o z => M.keep b o (Nat.ne_of_lt (Nat.lt_succ_of_lt (Heap.lt_size z))) (k b o z)
    have z : hp.objs.size + 1 + 1 ≤ dx := by
      have q := M.dbig
      rw [Heap.size_push, Heap.size_push] at q
      exact q
    exact ⟨rfl, hq h' tk' (hp.objs.size + 1) dx ⟨old, Nat.le_succ _, ⟨_, _, M.obj, rfl, rfl, rfl, rfl⟩, Nat.le_trans (Nat.le_trans (Nat.le_succ _) (Nat.le_succ _)) z, M.dne, M.ns⟩⟩
end
end ErrX
namespace L2
open PySem PySem.Spec PyProof.Rows ErrX
theorem relO_fld {v : V} {v' : Value} (fld : Str) (r : RelV v v') (f : Str) : RelO (List.lookup f [(fld, v)]) (if f = fld then some v' else none) := by
  by_cases hw : f = fld
  · subst hw
    rw [if_pos rfl]
    have q : List.lookup f [(f, v)] = some v := by simp [List.lookup]
    rw [q]
    exact r
  · rw [if_neg hw]
    have qw : (f == fld) = false := by simpa using hw
    have q2 : List.lookup f [(fld, v)] = none := by simp [List.lookup, qw]
    rw [q2]
    trivial
section
variable {X : Cx} {C fI : Addr} {x fld : Str} {ae : PySem.Expr} {st : Stmt}
/-- Bad(e) -/
def tMkErr (C : Addr) (fld : Str) (ok : V → Prop) (ta : TA) : L2.St → Hp → XK → Prop := fun σ H Q => ta σ H fun vs H1 => ∃ v, vs = [v] ∧ ok v ∧ ∀ d, H1 d = none → Q (.ref C) (some d) (upd H1 d (.xd [(fld, v)]))
theorem pmk_err {ok : V → Prop} {a : PySem.Expr} {ta : TA} {p pos : Pos} {k : Nat} (T : ErrTxt X.prog X.K X.mg x fld C fI ae st) (hA : ∀ v u, ok v → RelV v u → ArgOk X.prog X.w ae fld u) (hr : Room k X.A) (ha : PA X [a] ta) (hg : Gl X x) (hdb : (x == ("__debug__" : Str)) = false)
    (he : starEach (a :: []) X.env = (false, eval a X.env) :: starEach [] X.env) (hpl : (backTo pos (starEach [] X.env)).any (·.1) = false) :
    PMk X (.Call (.Name x p) [a] [] pos) (tMkErr C fld ok ta) := by
  intro pins s σ H Q I h
  refine wpAny_Call_Name_kw (ld_glob I hg T.gC ?_ hdb)
  refine PySem.W.callWith_K (h₀ := X.base) I.ok.mod.kin T.kC (thn (ha.run pos pins s σ H _ I h) fun us s1 hh => ?_) he hpl
  obtain ⟨vs, H1, I1, r1, v, ev, okv, q1⟩ := hh
  subst ev
  refine ⟨I1.kIn, ?_⟩
  cases r1 with
  | cons rv rn =>
    rename_i v' us'
    cases rn
    show wpAny _ _ (call (.ref C) [v']) _ _ _
    have hlim := I1.nolimit
    obtain ⟨mb, hb1, hb2⟩ := I1.mod.blt
    have hgN := I1.mod.glob.keeps I1.bk
    have hbN := hb1.keeps I1.bk
    obtain ⟨hp, g, dr, tk, os⟩ := s1
    refine wpAny_call (err_made T (hA v v' okv rv) I1.kIn hlim hgN hbN hb2 (by have := hr.dp; omega) fun h' tk' e d M => ?_)
    show MkP X pins σ Q (.ref e) ⟨h', g, dr, tk', os⟩
    obtain ⟨oe, fv, hoe, hc, hd, hdat, h1⟩ := M.obj
    have hns := M.ns
    obtain ⟨G', g1, g2⟩ := restrict h' fun b => decide (b ≠ e)
    have gk : ∀ b, b ≠ e → G'.get? b = h'.get? b := fun b hb => g1 b (decide_eq_true hb)
    have ge : G'.get? e = none := g2 e (by simp)
    have old : ∀ b o, hp.get? b = some o → G'.get? b = some o := fun b o q => (gk b (Nat.ne_of_lt (Nat.lt_of_lt_of_le (Heap.lt_size q) M.new))).trans (M.keep b o q)
    have ob : ObjOk X.prog X.w (upd H1 d (.xd [(fld, v)])) G' d (.xd [(fld, v)]) := ⟨_, hns.at (fun o q => (gk d M.dne).trans q), fun f => relO_fld fld rv f⟩
    have J : Inv X pins σ (upd H1 d (.xd [(fld, v)])) ⟨G', g, dr, tk', os⟩ := I1.laid (t' := tk') old M.dbig ob
    refine ⟨e, oe, fv, ⟨G', g, dr, tk', os⟩, _, .ref C, some d, rfl, J, fun b o q => ?_, ge, hoe, ⟨hc, hd⟩, hdat, h1, ?_, rfl, I1.bare, raises_own T.exC T.tyC, q1 d (I1.hok.fresh M.dbig)⟩
    · by_cases hb : b = e
      · have q' : G'.get? b = some o := q
        rw [hb, ge] at q'
        cases q'
      · exact (gk b hb).symm.trans q
    · rw [upd_ne (Ne.symm M.dne)]
      exact I1.hok.fresh M.new
/-- raise Bad(e) -/
def tRaiseF (C : Addr) (fld : Str) (ok : V → Prop) (W : WX) (ta : TA) : TS := fun _ σ H => tMkErr C fld ok ta σ H fun cls d H' => W cls d σ H'
theorem ps_raiseF {ok : V → Prop} {a : PySem.Expr} {ta : TA} {W : WX} {p pos pos2 : Pos} {k : Nat} (T : ErrTxt X.prog X.K X.mg x fld C fI ae st) (hA : ∀ v u, ok v → RelV v u → ArgOk X.prog X.w ae fld u) (hc : X.calm = true) (hr : Room k X.A) (tk : Takes X W) (ha : PA X [a] ta) (hg : Gl X x := by rfl)
    (hdb : (x == ("__debug__" : Str)) = false := by decide) (he : starEach (a :: []) X.env = (false, eval a X.env) :: starEach [] X.env := by rfl) (hpl : (backTo pos (starEach [] X.env)).any (·.1) = false := by rfl) :
    PS X (.Raise (some (.Call (.Name x p) [a] [] pos)) none pos2) (tRaiseF C fld ok W ta) := ps_raise hc tk (pmk_err T hA hr ha hg hdb he hpl)
/-- e.F, e the error that the suite holds (at a; its class cls, its dict d) -/
def tErrF (C : Addr) (fld : Str) (a : Addr) (cls : Value) (d : Option Addr) (te : TE) : TE := fun σ H Q => te σ H fun y H1 => y = .ref a ∧ cls = .ref C ∧ ∃ (dd : Addr) (v : V), d = some dd ∧ H1 dd = some (.xd [(fld, v)]) ∧ Q v H1
theorem pe_errF {P : Program} {a : Addr} {oe : Obj} {cls : Value} {d : Option Addr} {pn : List (Addr × Obj)} {e : PySem.Expr} {te : TE} {pos : Pos} (T : ErrTxt P X.K X.mg x fld C fI ae st) (hz : Zc cls d oe) (hf : ∃ vs, oe.data = .fields vs) (he : PE (X.suite a ((a, oe) :: pn)) e te)
    (hb : attributeBase e fld X.env (eval e X.env) = eval e X.env := by rfl) : PE (X.suite a ((a, oe) :: pn)) (.Attribute e fld pos) (tErrF C fld a cls d te) := by
  refine ⟨fun pins s σ H Q I h => ?_⟩
  refine attr_of hb (thn (he.run pins s σ H _ I h) fun u s1 hh => ?_)
  obtain ⟨y, H1, I1, rx, ex, ec, dd, v, ed, ea, q⟩ := hh
  subst ex
  obtain rfl : u = Value.ref a := rx
  subst ec
  subst ed
  obtain ⟨ha, _⟩ := I1.pin (a, oe) (List.mem_append_left _ List.mem_cons_self)
  obtain ⟨vs, hd⟩ := hf
  have hx : ObjOk X.prog X.w H1 s1.heap dd (.xd [(fld, v)]) := I1.hok dd _ ea
  obtain ⟨mA, hns, hr⟩ := hx
  obtain ⟨od, ho, hl⟩ := lookIn_ns hns
  have l : List.lookup fld [(fld, v)] = some v := by simp [List.lookup]
  obtain ⟨u, hu, ru⟩ := RelO.some_of (v := v) (o := mA fld) (by rw [← l]; exact hr fld)
  have J : PySem.W.InstAt s1.heap a oe C (some od) := ⟨ha, hz.1, by unfold PySem.W.notCls; rw [hd] <;> rfl, by rw [hz.2]; exact ho⟩
  exact HandSPX.exc_get I1.kIn J T.ga T.gg T.exC (PySem.W.findObj_own T.hdC T.noF rfl (by rw [hl, hu])) (handed_of ru) ⟨v, H1, I1.tok _, ru, q⟩
end
end L2
namespace Rt
open PySem L2 PySem.Spec PyProof.Rows

structure Tx (P : Program) (K : PySem.W.Frag) (mg : Str → Option Value) : Type where
  C_TrickError : Addr
  g_TrickError : mg "TrickError" = some (.ref C_TrickError)
  x_TrickError : PySem.W.excIn K C_TrickError [.type "ValueError", .type "Exception", .type "BaseException", .type "object"] "ValueError.__new__" = true
  k_TrickError : PySem.W.keepIn K (.ref C_TrickError) = true
  s_TrickError : PySem.W.subIn K (.ref C_TrickError) (.type "BaseException") = some true
  t_TrickError : PySem.W.typeIn K (.ref C_TrickError) = some (.type "type")
  C_BadBase : Addr
  g_BadBase : mg "BadBase" = some (.ref C_BadBase)
  x_BadBase : PySem.W.excIn K C_BadBase [.type "ValueError", .type "Exception", .type "BaseException", .type "object"] "ValueError.__new__" = true
  k_BadBase : PySem.W.keepIn K (.ref C_BadBase) = true
  s_BadBase : PySem.W.subIn K (.ref C_BadBase) (.type "BaseException") = some true
  t_BadBase : PySem.W.typeIn K (.ref C_BadBase) = some (.type "type")
  C_BadNumber : Addr
  g_BadNumber : mg "BadNumber" = some (.ref C_BadNumber)
  k_BadNumber : PySem.W.keepIn K (.ref C_BadNumber) = true
  s_BadNumber : PySem.W.subIn K (.ref C_BadNumber) (.type "BaseException") = some true
  t_BadNumber : PySem.W.typeIn K (.ref C_BadNumber) = some (.type "type")
  C_BadFigures : Addr
  g_BadFigures : mg "BadFigures" = some (.ref C_BadFigures)
  k_BadFigures : PySem.W.keepIn K (.ref C_BadFigures) = true
  s_BadFigures : PySem.W.subIn K (.ref C_BadFigures) (.type "BaseException") = some true
  t_BadFigures : PySem.W.typeIn K (.ref C_BadFigures) = some (.type "type")
  t_c_GREATEST_NUMBER : Tok
  c_GREATEST_NUMBER : mg "GREATEST_NUMBER" = some (.int 10000000000000000000000000000000000000000 t_c_GREATEST_NUMBER)
  t_c_LEAST_BASE : Tok
  c_LEAST_BASE : mg "LEAST_BASE" = some (.int 2 t_c_LEAST_BASE)
  t_c_GREATEST_BASE : Tok
  c_GREATEST_BASE : mg "GREATEST_BASE" = some (.int 16 t_c_GREATEST_BASE)
  t_c_MOST_FIGURES : Tok
  c_MOST_FIGURES : mg "MOST_FIGURES" = some (.int 150 t_c_MOST_FIGURES)
  a_is_integer : Addr
  d_is_integer : FuncData
  F_is_integer : Fun K "is_integer" "is_integer" s_is_integer a_is_integer d_is_integer
  b_is_integer : Binds K d_is_integer ["told", "low", "high"] []
  g_is_integer : mg "is_integer" = some (.ref a_is_integer)
  a_is_tuple : Addr
  d_is_tuple : FuncData
  F_is_tuple : Fun K "is_tuple" "is_tuple" s_is_tuple a_is_tuple d_is_tuple
  b_is_tuple : Binds K d_is_tuple ["told", "fewest", "most"] []
  g_is_tuple : mg "is_tuple" = some (.ref a_is_tuple)
  a_first_wrong : Addr
  d_first_wrong : FuncData
  F_first_wrong : Fun K "first_wrong" "first_wrong" s_first_wrong a_first_wrong d_first_wrong
  b_first_wrong : Binds K d_first_wrong ["told", "low", "high"] []
  g_first_wrong : mg "first_wrong" = some (.ref a_first_wrong)
  a_check_base : Addr
  d_check_base : FuncData
  F_check_base : Fun K "check_base" "check_base" s_check_base a_check_base d_check_base
  b_check_base : Binds K d_check_base ["base"] []
  g_check_base : mg "check_base" = some (.ref a_check_base)
  a_check_stretch : Addr
  d_check_stretch : FuncData
  F_check_stretch : Fun K "check_stretch" "check_stretch" s_check_stretch a_check_stretch d_check_stretch
  b_check_stretch : Binds K d_check_stretch ["n", "low", "high"] []
  g_check_stretch : mg "check_stretch" = some (.ref a_check_stretch)
  a_figures : Addr
  d_figures : FuncData
  F_figures : Fun K "figures" "figures" s_figures a_figures d_figures
  b_figures : Binds K d_figures ["n", "base"] []
  g_figures : mg "figures" = some (.ref a_figures)
  a_number : Addr
  d_number : FuncData
  F_number : Fun K "number" "number" s_number a_number d_number
  b_number : Binds K d_number ["told", "base"] []
  g_number : mg "number" = some (.ref a_number)
  a_check_figures : Addr
  d_check_figures : FuncData
  F_check_figures : Fun K "check_figures" "check_figures" s_check_figures a_check_figures d_check_figures
  b_check_figures : Binds K d_check_figures ["told", "base", "fewest"] []
  g_check_figures : mg "check_figures" = some (.ref a_check_figures)
  a__law_taken : Addr
  d__law_taken : FuncData
  F__law_taken : Fun K "_law_taken" "_law_taken" s__law_taken a__law_taken d__law_taken
  b__law_taken : Binds K d__law_taken ["_law_row", "_law_many"] []
  g__law_taken : mg "_law_taken" = some (.ref a__law_taken)
  a__law_number : Addr
  d__law_number : FuncData
  F__law_number : Fun K "_law_number" "_law_number" s__law_number a__law_number d__law_number
  b__law_number : Binds K d__law_number ["_law_row"] []
  g__law_number : mg "_law_number" = some (.ref a__law_number)
  a__law_figures : Addr
  d__law_figures : FuncData
  F__law_figures : Fun K "_law_figures" "_law_figures" s__law_figures a__law_figures d__law_figures
  b__law_figures : Binds K d__law_figures ["_law_n", "_law_base"] []
  g__law_figures : mg "_law_figures" = some (.ref a__law_figures)
  a_law : Addr
  d_law : FuncData
  F_law : Fun K "law" "law" s_law a_law d_law
  b_law : Binds K d_law ["_law_script"] []
  g_law : mg "law" = some (.ref a_law)
  n_int : mg "int" = none
  n_bool : mg "bool" = none
  n_len : mg "len" = none
  n_range : mg "range" = none
  n_isinstance : mg "isinstance" = none
  n_tuple : mg "tuple" = none
  n_reversed : mg "reversed" = none
  n_enumerate : mg "enumerate" = none
  n_abs : mg "abs" = none
  n_super : mg "super" = none
  n_ValueError : mg "ValueError" = none
  a_BadNumber___init__ : Addr
  x_BadNumber : ErrX.ErrTxt P K mg "BadNumber" "n" C_BadNumber a_BadNumber___init__ (ErrX.aeOf s_BadNumber___init__) s_BadNumber___init__
  a_BadFigures___init__ : Addr
  x_BadFigures : ErrX.ErrTxt P K mg "BadFigures" "index" C_BadFigures a_BadFigures___init__ (ErrX.aeOf s_BadFigures___init__) s_BadFigures___init__
/-! ### the program's own classes (no errors) -/
def OwnT {P : Program} {K : PySem.W.Frag} {mg : Str → Option Value} (T : Tx P K mg) (C : Addr) : Prop := False
theorem OwnT.ty {P : Program} {K : PySem.W.Frag} {mg : Str → Option Value} {T : Tx P K mg} {C : Addr} (t : OwnT T C) {H : Hp} {a dx : Addr} {fs : List (Str × V)} (e : H a = some (.ins C dx fs)) : TyOf K H (.ref a) (.ref C) := t.elim
theorem OwnT.nint {P : Program} {K : PySem.W.Frag} {mg : Str → Option Value} {T : Tx P K mg} {C : Addr} (t : OwnT T C) : PySem.W.kitOne K (.ref C) (.type "int") = some false := t.elim
theorem OwnT.nbool {P : Program} {K : PySem.W.Frag} {mg : Str → Option Value} {T : Tx P K mg} {C : Addr} (t : OwnT T C) : PySem.W.kitOne K (.ref C) (.type "bool") = some false := t.elim
theorem OwnT.ntuple {P : Program} {K : PySem.W.Frag} {mg : Str → Option Value} {T : Tx P K mg} {C : Addr} (t : OwnT T C) : PySem.W.kitOne K (.ref C) (.type "tuple") = some false := t.elim
theorem ar_BadNumber {P : Program} {w : World} : ∀ (v : V) (u : Value), True → RelV v u → ErrX.ArgOk P w (ErrX.aeOf s_BadNumber___init__) "n" u := fun _ _ _ _ => ErrX.argOk_const rfl
theorem ar_BadFigures {P : Program} {w : World} : ∀ (v : V) (u : Value), ErrX.NoneInt v → RelV v u → ErrX.ArgOk P w (ErrX.aeOf s_BadFigures___init__) "index" u := fun _ _ n r => ErrX.argOk_f n r
section
variable {P : Program} {w : World} {K : PySem.W.Frag} {mg : Str → Option Value} {base : Heap}
/-! ### heaps -/
/-- all but what stands at r is as it was -/
def But (r : Addr) (H H' : Hp) : Prop := ∀ b o, H b = some o → b ≠ r → H' b = some o
theorem But.refl (r : Addr) (H : Hp) : But r H H := fun _ _ e _ => e
theorem But.trans {r : Addr} {H H1 H2 : Hp} (a : But r H H1) (b : But r H1 H2) : But r H H2 := fun c o e n => b c o (a c o e n) n
theorem Same.but {r : Addr} {H H' : Hp} (a : Same H H') : But r H H' := fun c o e _ => a c o e
theorem But.put {r : Addr} {H : Hp} {o : HO} : But r H (upd H r o) := fun b _ e n => by rw [upd_ne n]; exact e
theorem But.seq {K : PySem.W.Frag} {r a : Addr} {H H' : Hp} {xs : List V} (e : But r H H') (n : a ≠ r) (h : SqL K H a xs) : SqL K H' a xs := by
  rcases h with (h | ⟨o, h⟩) | h
  · exact .inl (.inl (e _ _ h n))
  · exact .inl (.inr ⟨o, e _ _ h n⟩)
  · exact .inr h
theorem same_upd {H : Hp} {p : Addr} {o : HO} (h : H p = none) : Same H (upd H p o) := fun b x e => by
  rw [upd_ne (ne_of_none e h)]
  exact e
/-- any value of the document's point 1 -/
inductive AnyV (T : Addr → Prop) (H : Hp) : V → Prop where
  | non : AnyV T H .non
  | bl (b : Bool) : AnyV T H (.bl b)
  | int (i : Int) : AnyV T H (.int i)
  | str (x : Str) : AnyV T H (.str x)
  | lst {a : Addr} {xs : List V} (e : H a = some (.lst xs)) : AnyV T H (.ref a)
  | tup {a : Addr} {xs : List V} (e : H a = some (.tup xs)) : AnyV T H (.ref a)
  | dct {a : Addr} {kvs : List (Key × V)} (e : H a = some (.dK kvs)) : AnyV T H (.ref a)
  | ins {a C dx : Addr} {fs : List (Str × V)} (t : T C) (e : H a = some (.ins C dx fs)) : AnyV T H (.ref a)
/-- it is an integer from lo to hi -/
def intIn (x : V) (lo hi : Int) : Bool := match x with | .int i => decide (lo ≤ i) && decide (i ≤ hi) | _ => false
theorem intIn_of {i lo hi : Int} (h1 : lo ≤ i) (h2 : i ≤ hi) : intIn (.int i) lo hi = true := by
  show (decide (lo ≤ i) && decide (i ≤ hi)) = true
  rw [decide_eq_true h1, decide_eq_true h2]
  all_goals rfl
theorem small5 {n : Nat} (h : n ≤ 100000) : n < sizeLine := Nat.lt_of_le_of_lt h (by decide)
theorem dec_i (i j : Int) : decide (V.int i = V.int j) = decide (i = j) := by
  rw [Bool.eq_iff_iff]
  simp
theorem AnyV.mono {T : Addr → Prop} {H H' : Hp} {v : V} (a : AnyV T H v) (s : Same H H') : AnyV T H' v := by
  cases a with
  | non => exact .non
  | bl b => exact .bl b
  | int i => exact .int i
  | str x => exact .str x
  | lst e => exact .lst (s _ _ e)
  | tup e => exact .tup (s _ _ e)
  | dct e => exact .dct (s _ _ e)
  | ins t e => exact .ins t (s _ _ e)
theorem intIn_int' {x : V} {lo hi : Int} (h : intIn x lo hi = true) : ∃ i, x = .int i ∧ lo ≤ i ∧ i ≤ hi := by
  cases x with
  | int i =>
    have h2 : (decide (lo ≤ i) && decide (i ≤ hi)) = true := h
    rw [Bool.and_eq_true, decide_eq_true_iff, decide_eq_true_iff] at h2
    exact ⟨i, rfl, h2⟩
  | _ => cases h

/-! ### lists of ints -/
theorem dpAll_ints {H : Hp} : ∀ ns : List Int, DpAll K H (ns.map V.int) (ns.map PyData.int)
  | [] => .nil
  | n :: ns => .cons (.int n) (dpAll_ints ns)
theorem dp_ints {H : Hp} {a : Addr} {ns : List Int} (h : SqL K H a (ns.map V.int)) : Dp K H (.ref a) (.list (ns.map PyData.int)) := .lst h (dpAll_ints ns)
theorem dp_tints {H : Hp} {a : Addr} {ns : List Int} (h : SqT K H a (ns.map V.int)) : Dp K H (.ref a) (.tuple (ns.map PyData.int)) := .tup h (dpAll_ints ns)
theorem eqvAll_ints : ∀ ns ms : List Int, PyData.eqvAll (ns.map PyData.int) (ms.map PyData.int) = decide (ns = ms)
  | [], [] => rfl
  | [], _ :: _ => rfl
  | _ :: _, [] => rfl
  | n :: ns, m :: ms => by
    show (PyData.eqv (.int n) (.int m) && PyData.eqvAll (ns.map PyData.int) (ms.map PyData.int)) = _
    rw [eqvAll_ints ns ms]
    show ((n == m) && decide (ns = ms)) = _
    by_cases h1 : n = m
    · by_cases h2 : ns = ms
      · simp [h1, h2]
      · simp [h1, h2]
    · simp [h1]
theorem eqv_ints (ns ms : List Int) : PyData.eqv (.list (ns.map PyData.int)) (.list (ms.map PyData.int)) = decide (ns = ms) := eqvAll_ints ns ms
theorem eqv_tints (ns ms : List Int) : PyData.eqv (.tuple (ns.map PyData.int)) (.tuple (ms.map PyData.int)) = decide (ns = ms) := eqvAll_ints ns ms
theorem shaped_lints (ns : List Int) : SeqAt.shaped (.list (ns.map PyData.int)) = true := PySem.W.shaped_ints ns
/-- an item of a written list at a drawn place -/
theorem at_some (Pr : Int → Prop) {ns : List Int} (h : ∀ z ∈ ns, Pr z) {i : Int} (h0 : 0 ≤ i) (h1 : i < ns.length) : ∃ z, Pr z ∧ atI (ns.map V.int) i = some (V.int z) := by
  obtain ⟨z, hz⟩ : ∃ z, ns[i.toNat]? = some z := ⟨ns[i.toNat]'(by omega), List.getElem?_eq_getElem (by omega)⟩
  refine ⟨z, h z (List.mem_of_getElem? hz), at_of (j := i.toNat) (by omega) (by rw [List.getElem?_map, hz]; rfl)⟩
theorem sorted_ext {l m : List Int} (p : l.Perm m) (h1 : l.Pairwise (· ≤ ·)) (h2 : m.Pairwise (· ≤ ·)) : l = m :=
  p.eq_of_pairwise (fun a b _ _ x y => Int.le_antisymm x y) h1 h2
/-- reading an item within a comprehension: the written part said aloud -/
theorem ix_lK {X : Cx} (h : X.K = K) : IxR X (rIxL K) := by
  subst h
  exact ix_list
/-- the same of a tuple -/
theorem ix_tK {X : Cx} (h : X.K = K) : IxR X (rIxT K) := by
  subst h
  exact ix_tup
/-- name op= e, by the operation in place -/
theorem ip_op {X : Cx} {op : Operator} {r : R2} (ho : OpR X (inplaceOp op) r) : PIp X op r := fun pins s σ H x y v u Q I r1 r2 h => ho pins s σ H x y v u Q I r1 r2 h

/-! ### is_integer, and the checks -/
def spIsInt (T : Tx P K mg) : Sp := fun vs H Q _ => ∃ (x : V) (lo hi : Int), vs = [x, .int lo, .int hi] ∧ AnyV (OwnT T) H x ∧ Q (.bl (intIn x lo hi)) H
theorem isi_int (T : Tx P K mg) {H : Hp} {x : V} (a : AnyV (OwnT T) H x) : ∃ t, TyX K H x t ∧ (∃ b, PySem.W.kitOne K t (.type "int") = some b ∧ (b = false → ∀ lo hi, intIn x lo hi = false) ∧ ∃ c, PySem.W.kitOne K t (.type "bool") = some c ∧ (c = true → ∀ lo hi, intIn x lo hi = false) ∧ (b = true → c = false → ∃ i, x = .int i)) := by
  cases a with
  | non => exact ⟨_, .base .non, false, kit_ty (by decide +kernel), fun _ _ _ => rfl, false, kit_ty (by decide +kernel), fun _ _ _ => rfl, fun z => nomatch z⟩
  | bl b => exact ⟨_, .base (.bl b), true, kit_ty (by decide +kernel), fun _ _ _ => rfl, true, kit_ty (by decide +kernel), fun _ _ _ => rfl, fun _ z => nomatch z⟩
  | int i => exact ⟨.type "int", .base (.int i), true, kit_ty (by decide +kernel), fun z => Bool.noConfusion z, false, kit_ty (by decide +kernel), fun z => Bool.noConfusion z, fun _ _ => ⟨i, rfl⟩⟩
  | str x => exact ⟨_, .base (.str x), false, kit_ty (by decide +kernel), fun _ _ _ => rfl, false, kit_ty (by decide +kernel), fun _ _ _ => rfl, fun z => nomatch z⟩
  | lst e => exact ⟨_, .base (.lst e), false, kit_ty (by decide +kernel), fun _ _ _ => rfl, false, kit_ty (by decide +kernel), fun _ _ _ => rfl, fun z => nomatch z⟩
  | tup e => exact ⟨_, .base (.tup e), false, kit_ty (by decide +kernel), fun _ _ _ => rfl, false, kit_ty (by decide +kernel), fun _ _ _ => rfl, fun z => nomatch z⟩
  | dct e => exact ⟨_, .base (.dK e), false, kit_ty (by decide +kernel), fun _ _ _ => rfl, false, kit_ty (by decide +kernel), fun _ _ _ => rfl, fun z => nomatch z⟩
  | ins t e => exact ⟨_, .base (t.ty e), false, t.nint, fun _ _ _ => rfl, false, t.nbool, fun _ _ _ => rfl, fun z => nomatch z⟩
theorem ok_is_integer (T : Tx P K mg) : FnOk P w K mg base CX0 lv_is_integer T.a_is_integer T.d_is_integer ["told", "low", "high"] (spIsInt T) := by
  refine T.F_is_integer.ok sc_is_integer (fun vs H Q E h => ?_) (fun cdv A outer s H vs Q E hr h => ?_)
  · obtain ⟨x, lo, hi, rfl, _⟩ := h
    rfl
  · obtain ⟨x, lo, hi, rfl, a, k⟩ := h
    refine ⟨_, (pss_one (ps_ret (pe_and (pe_callB call_isi (by rfl) T.n_isinstance (by decide +kernel) (pa_cons (pv 0) (pa_cons (pe_bltn (v := .ty "int") rfl T.n_int (by decide +kernel) rfl) pa_nil))) (pe_and (pe_not (pe_callB call_isi (by rfl) T.n_isinstance (by decide +kernel) (pa_cons (pv 0) (pa_cons (pe_bltn (v := .ty "bool") rfl T.n_bool (by decide +kernel) rfl) pa_nil)))) (pe_one (pe_chain op_le op_le (pv 1) (pv 0) (pv 2))))))), ?_⟩
    obtain ⟨t, ty, b, e1, h1, c, e2, h2, h3⟩ := isi_int T a
    refine ⟨_, rfl, _, _, _, _, b, rfl, .ty _, ty, e1, b, rfl, ?_⟩
    cases b with
    | false => exact iteF (by rw [h1 rfl lo hi] at k; exact k)
    | true =>
      refine iteT ?_
      refine ⟨_, rfl, _, _, _, _, c, rfl, .ty _, ty, e2, c, rfl, _, rfl, ?_⟩
      cases c with
      | true => exact iteF (by rw [h2 rfl lo hi] at k; exact k)
      | false =>
        refine iteT ?_
        obtain ⟨i, rfl⟩ := h3 rfl rfl
        refine ⟨_, rfl, _, rfl, _, _, rfl, rfl, _, rfl, ?_⟩
        have ke : Q (V.bl (decide (lo ≤ i) && decide (i ≤ hi))) H := k
        refine ite2 (fun c1 => ?_) (fun c1 => ?_)
        · rw [c1] at ke
          exact ⟨_, rfl, _, _, rfl, rfl, ke⟩
        · rw [show decide (lo ≤ i) = false from by simpa using c1] at ke
          exact ke
/-- base, take and the like: a value in the range, or the error of the class C -/
def spChk (T : Tx P K mg) (C : Addr) (lo hi : Int) : Sp := fun vs H Q E => ∃ x : V, vs = [x] ∧ AnyV (OwnT T) H x ∧ (intIn x lo hi = true → Q .non H) ∧ (intIn x lo hi = false → E (.ref C) none H)

theorem ok_check_base (T : Tx P K mg) : FnOk P w K mg base (L2.CX P w) lv_check_base T.a_check_base T.d_check_base ["base"] (spChk T T.C_BadBase 2 16) := by
  refine T.F_check_base.okX sc_check_base (fun vs H Q E h => ?_) (fun cdv A outer s H vs Q E hr h => ?_)
  · obtain ⟨x, rfl, _⟩ := h
    rfl
  · obtain ⟨x, rfl, a, k1, k2⟩ := h
    refine ⟨_, (pss_one (ps_if (pt_not (pt_val (pe_call (ok_is_integer T) (hr.mono (by decide)) rfl T.g_is_integer T.F_is_integer.kp T.b_is_integer .nil pass0 (pa_cons (pv 0) (pa_cons (pe_glob (v := .int 2) rfl T.c_LEAST_BASE ⟨_, rfl⟩) (pa_cons (pe_glob (v := .int 16) rfl T.c_GREATEST_BASE ⟨_, rfl⟩) pa_nil)))))) (pss_one (ps_raise rfl (takes_of rfl rfl rfl rfl) (pmk_own PySem.F.excBase_ValueError T.x_BadBase T.g_BadBase T.k_BadBase (raises_own T.s_BadBase T.t_BadBase) rfl))) pss_nil)), ?_⟩
    refine ⟨_, rfl, _, _, _, rfl, a, _, rfl, ?_⟩
    cases e : intIn x 2 16 with
    | true => exact iteF (k1 e)
    | false => exact iteT (k2 e)

/-! ### numbers in a stretch, or the error -/
def spStretchX (T : Tx P K mg) : Sp := fun vs H Q E => ∃ (x : V) (lo hi : Int), vs = [x, .int lo, .int hi] ∧ AnyV (OwnT T) H x ∧ (intIn x lo hi = true → Q .non H) ∧ (intIn x lo hi = false → ∀ d, H d = none → E (.ref T.C_BadNumber) (some d) (upd H d (.xd [(("n" : Str), x)])))
theorem ok_check_stretch (T : Tx P K mg) : FnOk P w K mg base (L2.CX P w) lv_check_stretch T.a_check_stretch T.d_check_stretch ["n", "low", "high"] (spStretchX T) := by
  refine T.F_check_stretch.okX sc_check_stretch (fun vs H Q E h => ?_) (fun cdv A outer s H vs Q E hr h => ?_)
  · obtain ⟨x, lo, hi, rfl, _⟩ := h
    rfl
  · obtain ⟨x, lo, hi, rfl, a, k1, k2⟩ := h
    refine ⟨_, (pss_one (ps_if (pt_not (pt_val (pe_call (ok_is_integer T) (hr.mono (by decide)) rfl T.g_is_integer T.F_is_integer.kp T.b_is_integer .nil pass0 (pa_cons (pv 0) (pa_cons (pv 1) (pa_cons (pv 2) pa_nil)))))) (pss_one (ps_raiseF T.x_BadNumber ar_BadNumber rfl hr (takes_of rfl rfl rfl rfl) (pa_cons (pv 0) pa_nil))) pss_nil)), ?_⟩
    refine ⟨_, rfl, _, rfl, _, rfl, _, _, _, rfl, a, _, rfl, ?_⟩
    cases e : intIn x lo hi with
    | true => exact iteF (k1 e)
    | false => exact iteT ⟨_, rfl, _, rfl, trivial, fun d hd => k2 e d hd⟩

/-! ### enumerate(tuple) -/
end
end Rt
namespace EnumX
open PySem PyProof.Rows
theorem new1 {u : Value} {ob : Obj} {Z : Heap → Prop} (B : Begins u ob Z) : Meets (Builtin.«enumerate.__new__» ⟨[.type "enumerate", u], []⟩) (fun _ R s => Z s.heap ∧
      R (.ok (.ret (.ref (s.heap.push ob).objs.size))) { s with heap := (s.heap.push ob).push ⟨.type "enumerate", none, .fields #[.none, .bool false, .ref s.heap.objs.size, rawInt 0, .none, .none], #[]⟩ }) := by
  refine Meets.of_wp fun P w A R s hyp => ?_
  obtain ⟨z, fin⟩ := hyp
  obtain ⟨hp, g, d, tk, os⟩ := s
  have se := sub_enumerate
  have go : ∀ {A2 : Around} {E2 Q2 : Value → Shared → Prop}, Q2 (.ref hp.objs.size) ⟨hp.push ob, g, d, tk, os⟩ → wpAny (model P w) A2 (pyIter u) Q2 E2 ⟨hp, g, d, tk, os⟩ := fun q => B.iter P w _ _ ⟨hp, g, d, tk, os⟩ _ z q
  wp_walk using go
  refine wpAny_stack_any fun stk => (wpAny_pure ?_)
  split
  · rename_i cc _ _ _ _ _
    cases (cc == Value.type "enumerate") <;> (wp_walk using go; exact ⟨_, rfl, fin⟩)
  · wp_walk using go
    exact ⟨_, rfl, fin⟩
theorem made1 {P : Program} {w : World} {A : Around} {E Q : Value → Shared → Prop} {s : Shared} {u : Value} {ob : Obj} {Z : Heap → Prop} (B : Begins u ob Z) (z : Z s.heap)
    (q : ∀ h2, IsEnum h2 (s.heap.objs.size + 1) s.heap.objs.size 0 .none → h2.get? s.heap.objs.size = some ob → (∀ b o, s.heap.get? b = some o → h2.get? b = some o) → Q (.ref (s.heap.objs.size + 1)) { s with heap := h2 }) :
    wpAny (model P w) A (call (.type "enumerate") [u]) Q E s := by
  refine callType_new F.called_enumerate (by decide) (F.typeCall_enumerate_1 u) (F.newCall_enumerate_1 u) (fun ob => F.args_object_init_2 ob u) F.entry_enumerate_new (new1 B) ⟨z, ?_⟩
  have sz : (s.heap.push ob).objs.size = s.heap.objs.size + 1 := Heap.size_push ..
  have at1 : ((s.heap.push ob).push ⟨.type "enumerate", none, .fields #[.none, .bool false, .ref s.heap.objs.size, rawInt 0, .none, .none], #[]⟩).get? (s.heap.objs.size + 1) = some ⟨.type "enumerate", none, .fields #[.none, .bool false, .ref s.heap.objs.size, rawInt 0, .none, .none], #[]⟩ := by
    rw [← sz]
    exact Heap.get?_push_size _ rfl
  show _ ∧ _
  rw [sz]
  exact ⟨⟨_, at1, rfl⟩, q _ at1 (Heap.get?_push_of_some _ (Heap.get?_push_size _ B.free)) fun b o e => Heap.get?_push_of_some _ (Heap.get?_push_of_some _ e)⟩
/-- at the end nothing is drawn -/
theorem drawn_out {P : Program} {w : World} {A : Around} (hh : A.handled = none) (it t : Addr) (ne : t ≠ it) (its : Array Value) (n : Nat) (hn : its.size ≤ n) : Draws P w A it [it, t] n (fun _ _ => True) (fun j h => j = n ∧ h.IsTupleIter it t n ∧ h.IsTuple t its) where
  live := fun _ _ ⟨_, ⟨o, e, _⟩, _⟩ => ⟨o, e⟩
  frame := fun _ _ _ ⟨z, a, b⟩ k => ⟨z, a.at fun o e => k it List.mem_cons_self o e, b.at fun o e => k t (List.mem_cons_of_mem _ List.mem_cons_self) o e⟩
  item := fun j _ _ _ lt ⟨z, _⟩ _ => absurd z (Nat.ne_of_lt lt)
  done := fun s Q E ⟨_, a, b⟩ q => wpAny_nextOf_tuple_end hh a b (Array.getElem?_eq_none hn) q
end EnumX
namespace L2
open PySem PySem.Spec PyProof.Rows
/-- the tuple at a, each item in a new pair with its place -/
def IteT (K : PySem.W.Frag) (a : Addr) : It where
  go := fun i H => ∃ (ys : List V) (y : V), SqT K H a ys ∧ ys[i]? = some y
  yld := fun i H v H2 => ∃ c y, v = .ref c ∧ H c = none ∧ H2 = upd H c (.tup [.int (i : Nat), y]) ∧ ∀ ys, SqT K H a ys → ys[i]? = some y
  stop := fun i H => ∃ ys : List V, SqT K H a ys ∧ ys.length ≤ i
theorem turn_enumT {P : Program} {w : World} {K : PySem.W.Frag} {elts : List PySem.Expr} {kk : Nat} {tpos : Pos} (a e it : Addr) :
    Turn P w K (.Tuple elts kk tpos) (IteT K a) [e, it] e (fun i h => (∃ old, IsEnum h e it ((i : Nat) : Int) old) ∧ h.IsTupleIter it a i ∧ e ≠ it) where
  mem := List.mem_cons_self
  obj := fun i h st b hb => by
    obtain ⟨⟨v0, en⟩, ⟨o, g1, g2, g3⟩, _⟩ := st
    rcases List.mem_cons.mp hb with z | hb2
    · rw [z]
      exact ⟨_, en, fun v q => nomatch q⟩
    · rw [List.mem_singleton.mp hb2]
      exact ⟨o, g1, fun v q => by rw [g3] at q; cases q⟩
  keep := fun i h h2 st k => by
    obtain ⟨⟨v0, en⟩, ti, ne⟩ := st
    exact ⟨⟨v0, k e List.mem_cons_self _ en⟩, ti.at fun o q => k it (List.mem_cons_of_mem _ List.mem_cons_self) o q, ne⟩
  item := by
    intro X hP hw hK hc i pins s σ H E I hf st hg
    subst hP hw hK
    obtain ⟨⟨v0, en⟩, ti, ne⟩ := st
    obtain ⟨ys, y, sq, hy⟩ := hg
    obtain ⟨its, vals, tp, ln⟩ := I.tuple sq
    obtain ⟨u, hu, ru⟩ := vals.get hy
    have tpl : s.heap.IsTuple a its.toArray := tp
    have le : e < s.heap.objs.size := Heap.lt_size en
    have li : it < s.heap.objs.size := by
      obtain ⟨_, q, _⟩ := ti
      exact Heap.lt_size q
    have nea : e ≠ a := fun z => by
      obtain ⟨o, g1, g2, _⟩ := tpl
      rw [← z, (show s.heap.get? e = some _ from en)] at g1
      rw [← Option.some.inj g1] at g2
      exact absurd (show Value.type "enumerate" = Value.type "tuple" from g2) (by decide)
    have nia : it ≠ a := fun z => by
      obtain ⟨o, g1, g2, _⟩ := tpl
      obtain ⟨o2, f1, f2, _⟩ := ti
      rw [← z, f1] at g1
      rw [← Option.some.inj g1, f2] at g2
      exact absurd g2 (by decide)
    refine wpAny_pyNext_enum_itemD (Draws.tuple (show X.A.in1.handled = none from I.ok.hd hc) it a (Ne.symm nia) its.toArray) en ⟨ti, tpl⟩ (by have := (List.getElem?_eq_some_iff.mp hu).1; simpa using this) ne (by simp [ne, nea]) fun x h2 tk px eo st2 nt sz kp => ?_
    have exu : x = u := by
      have px2 : its.toArray[i]? = some x := px
      rw [List.getElem?_toArray, hu] at px2
      exact (Option.some.inj px2).symm
    subst exu
    refine ⟨_, rfl, wpAny_letOwnedTupleGo_enum (s := { s with heap := h2, toks := tk + 1 }) eo fun h3 en3 sb => ?_⟩
    have nt3 : h3.get? s.heap.objs.size = some { cls := .type "tuple", data := .seq #[.int i tk, x] } := (sb.2 _ (Nat.ne_of_gt le)).trans nt
    have nw : ObjOk X.prog X.w (upd H s.heap.objs.size (.tup [.int (i : Nat), y])) h3 s.heap.objs.size (.tup [.int (i : Nat), y]) := ⟨by show 2 ≤ sizeLine; decide, [.int i tk, x], .cons ⟨_, rfl⟩ (.cons ru .nil), ⟨_, nt3, rfl, _, rfl⟩⟩
    have J : Inv X pins σ (upd H s.heap.objs.size (.tup [.int (i : Nat), y])) { s with heap := h3, toks := tk + 1 } :=
      I.turnedNew (ch := [e, it]) (fun b ob hb q => (sb.2 b (fun z => hb (z ▸ List.mem_cons_self))).trans (kp b ob (fun z => hb (z ▸ List.mem_cons_self)) (fun z => hb (z ▸ List.mem_cons_of_mem _ List.mem_cons_self)) q)) hf (Nat.le_refl _) nw
    refine ⟨.ref s.heap.objs.size, _, J, rfl, ⟨_, y, rfl, I.hok.fresh (Nat.le_refl _), rfl, fun zs hz => by rw [I.tuple_inj hz sq]; exact hy⟩, ⟨⟨x, ?_⟩, st2.1.at fun o q => (sb.2 it (Ne.symm ne)).trans q, ne⟩, fun b hb => ?_⟩
    · rw [show ((i + 1 : Nat) : Int) = (i : Int) + 1 from by omega]
      exact en3
    · have lb : b < s.heap.objs.size := by
        rcases List.mem_cons.mp hb with z | hb2
        · rw [z]
          exact le
        · rw [List.mem_singleton.mp hb2]
          exact li
      rw [upd_ne (Nat.ne_of_lt lb)]
      exact (hf b hb).1
  done := by
    intro X hP hw hK hc i pins s σ H E I hf st hg
    subst hP hw hK
    obtain ⟨⟨v0, en⟩, ti, ne⟩ := st
    obtain ⟨ys, sq, ln⟩ := hg
    obtain ⟨its, vals, tp, _⟩ := I.tuple sq
    obtain ⟨f0, f1, f2, f3, f4, f5⟩ := hf it (List.mem_cons_of_mem _ List.mem_cons_self)
    have tpl : s.heap.IsTuple a its.toArray := tp
    have nia : it ≠ a := fun z => by
      obtain ⟨o, g1, g2, _⟩ := tpl
      obtain ⟨o2, q1, q2, _⟩ := ti
      rw [← z, q1] at g1
      rw [← Option.some.inj g1, q2] at g2
      exact absurd g2 (by decide)
    have hl := vals.length
    refine wpAny_pyNext_enum_endD (EnumX.drawn_out (show X.A.in1.handled = none from I.ok.hd hc) it a (Ne.symm nia) its.toArray i (by simp; omega)) en ⟨rfl, ti, tpl⟩ fun h2 eb => ⟨rfl, I.turned (t' := s.toks) (fun b o hb q => eb b o hb q) f0 f1 f3 f4 f5⟩
  self := fun A i s Q E st h => let ⟨⟨_, en⟩, _⟩ := st; wpAny_pyIter_enum en h
def iEnumT (K : PySem.W.Frag) (ta : TA) : TI := fun σ H R => ta σ H fun vs H1 => ∃ a ys, vs = [.ref a] ∧ SqT K H1 a ys ∧ R (IteT K a) H1
theorem pi_enumT {X : Cx} {e : PySem.Expr} {ta : TA} {p pos tpos : Pos} {elts : List PySem.Expr} {kk : Nat} (hg : Gl X "enumerate") (hm : X.mg "enumerate" = none) (ha : PA X [e] ta) (hs : starEach [e] X.env = [(false, eval e X.env)] := by rfl) :
    PI X (.Tuple elts kk tpos) (.Call (.Name "enumerate" p) [e] [] pos) (iEnumT X.K ta) := by
  refine ⟨fun pins s σ H R I wish => ?_⟩
  refine Call_ (ld_blt I hg hm boot_enumerate (PyProof.Rows.callWith_type1 (thn (ha.run pos pins s σ H _ I wish) fun us s1 hh => ?_) hs rfl))
  obtain ⟨vs, H1, I1, r1, a, ys, rfl, sq, q⟩ := hh
  cases r1 with
  | cons r rr =>
    cases rr
    cases r
    obtain ⟨its, vals, tp, ln⟩ := I1.tuple sq
    have tpl : s1.heap.IsTuple a its.toArray := tp
    refine EnumX.made1 (begins_tuple a its.toArray) tpl fun h2 en nw kp => wpAny_pyIter_enum en ?_
    have J : Inv X pins σ H1 { s1 with heap := h2 } := I1.kept (t' := s1.toks) kp
    refine ⟨s1.heap.objs.size + 1, [s1.heap.objs.size + 1, s1.heap.objs.size], _, _, H1, rfl, J, turn_enumT a (s1.heap.objs.size + 1) s1.heap.objs.size, ⟨⟨.none, en⟩, ⟨_, nw, rfl, rfl⟩, Nat.succ_ne_self _⟩, fun b hb => ?_, q⟩
    have le : s1.heap.objs.size ≤ b := by
      rcases List.mem_cons.mp hb with z | hb2
      · rw [z]
        exact Nat.le_succ _
      · rw [List.mem_singleton.mp hb2]
        exact Nat.le_refl _
    exact I1.fpOk le (I1.hok.fresh le)
theorem walk_enumT {K : PySem.W.Frag} {a : Addr} {ys : List V} : Walk (IteT K a) ys.length (fun H => SqT K H a ys) (YPair (fun i => some (.int (i : Nat))) (fun i => ys[i]?)) := by
  refine ⟨fun i _ lt q => ⟨ys, ys[i], q, by simp [lt]⟩, fun _ q => ⟨ys, q, Nat.le_refl _⟩, fun i H v H2 _ q w => ?_⟩
  obtain ⟨c, y, e1, e2, e3, e4⟩ := w
  exact ⟨c, .int (i : Nat), y, e1, e2, e3, rfl, e4 ys q⟩
end L2
namespace Rt
open PySem L2 PySem.Spec PyProof.Rows
section
variable {P : Program} {w : World} {K : PySem.W.Frag} {mg : Str → Option Value} {base : Heap}

/-! ### a program's own == ; errors that leave a call within a try -/
def NoSub (K : PySem.W.Frag) (C : Addr) (H : Hp) (y : V) : Prop := (∃ b dy gs, y = .ref b ∧ H b = some (.ins C dy gs)) ∨ (∃ b xs, y = .ref b ∧ H b = some (.tup xs) ∧ PySem.W.subIn K (.type "tuple") (.ref C) = some false)
def rOwn (K : PySem.W.Frag) (C : Addr) (sp : Sp) (E : XK) : R2 := fun x y H Q => ∃ a dx fs, x = .ref a ∧ H a = some (.ins C dx fs) ∧ NoSub K C H y ∧ sp [x, y] H (fun v H' => (∃ k, v = .bl k) ∧ Q v H') E
section
variable {X : Cx}
theorem op_own {n : Nat} {CX : CXT} {C f : Addr} {fd : FuncData} {ps : List Str} {sp : Sp} {E : XK} (G : FnOk X.prog X.w X.K X.mg X.base CX n f fd ps sp) (hr : Room n X.A)
    (hs : PySem.W.findIn X.K (.ref C) "__eq__" = some (some (.ref f))) (hf : PySem.W.isFn X.K (.ref f) = true) (hb : Binds X.K fd ps []) (hx : Passes CX X E) : OpR X (compareOp .Eq) (rOwn X.K C sp E) := by
  intro pins s σ H x y v u Q I rx ry hq
  obtain ⟨a, dx, fs, rfl, ha, hy, hsp⟩ := hq
  obtain rfl : v = Value.ref a := rx
  obtain ⟨mA, O, _⟩ := ins_get I.hok ha
  obtain ⟨od, J, _⟩ := O.look
  obtain ⟨m, hF⟩ := I.fr
  have hl : ([V.ref a, y] : List V).length = ps.length := G.len _ _ _ _ hsp
  have back : wpAny (model X.prog X.w) X.A (call (.ref f) [.ref a, u]) (PySem.W.CmpBack (EP X pins σ Q)) X.xe s := by
    have rv : Vals [V.ref a, y] [Value.ref a, u] := .cons rfl (.cons ry .nil)
    have bd := hb s [.ref a, u] I.kIn (by rw [List.append_nil]; exact hl)
    rw [List.append_nil] at bd
    refine wpAny_call (codeAny_mono (G.run X.A X.stack s H ⟨[.ref a, u], []⟩ [.ref a, u] _ _ E hr I.env0 bd rv hsp) fun r s' hw => ?_)
    match r, hw with
    | .error e, hw => exact hx pins σ H s e s' I hw
    | .ok (.ret w'), hw =>
      obtain ⟨z, H', I', rz, ⟨k, ek⟩, qz⟩ := I.after hw
      subst ek
      cases rz
      exact ⟨.bl k, H', I', rfl, qz⟩
    | .ok .next, hw => exact hw.elim
    | .ok .brk, hw => exact hw.elim
    | .ok .cont, hw => exact hw.elim
  show wpAny (model X.prog X.w) X.A (richCompare .Eq (.ref a) u) _ _ s
  rcases hy with ⟨b, dy, gs, rfl, hb'⟩ | ⟨b, xs, rfl, hb', hsub⟩
  · obtain rfl : u = Value.ref b := ry
    obtain ⟨mB, O', _⟩ := ins_get I.hok hb'
    obtain ⟨od', J', _⟩ := O'.look
    exact PySem.W.cmp_K (op := .Eq) (tb := .ref C) hr.units0 hF I.ok.mod.kin J J'.type (by simp [PySem.W.notFirst]) hs hf back
  · obtain rfl : u = Value.ref b := ry
    obtain ⟨_, its, _, o, ho, hc, _⟩ := (show ObjOk X.prog X.w H s.heap b (.tup xs) from I.hok b _ hb')
    exact PySem.W.cmp_K (op := .Eq) (tb := .type "tuple") hr.units0 hF I.ok.mod.kin J (fun A' Q' E' s2 k2 q2 => wpAny_typeOf_ref (k2 _ _ ho) (by rw [hc]; exact q2)) (by simp [PySem.W.notFirst, hsub]) hs hf back
/-- what a call lets out is taken, whatever the slots hold -/
theorem passN {W : WX} (tk : Takes X W) : Passes (L2.CX X.prog X.w) X (fun cls d H => ∀ σ : L2.St, σ.length = X.N.length → W cls d σ H) :=
  fun _ σ _ _ e s' I c => tk e s' (XE.of_call I (fun _ _ _ h => h σ I.len) c)
end

/-! ### what stands where a value points -/
theorem AnyV.at {T : Addr → Prop} {H H1 : Hp} {c : Addr} {o : HO} (a : AnyV T H (.ref c)) (S : Same H H1) (e : H1 c = some o) : H c = some o := by
  cases a with
  | lst e2 => rw [S _ _ e2] at e; rw [← e]; exact e2
  | tup e2 => rw [S _ _ e2] at e; rw [← e]; exact e2
  | dct e2 => rw [S _ _ e2] at e; rw [← e]; exact e2
  | ins t e2 => rw [S _ _ e2] at e; rw [← e]; exact e2
/-- the things of the tuple x -/
def tupOf (H : Hp) (x : V) : Option (List V) := match x with
  | .ref c => match H c with
    | some (.tup ys) => some ys
    | _ => none
  | _ => none
theorem tupOf_ref {H : Hp} {c : Addr} {ys : List V} (h : H c = some (.tup ys)) : tupOf H (.ref c) = some ys := by
  show (match H c with | some (.tup ys) => some ys | _ => none) = _
  rw [h]
theorem tupOf_some {H : Hp} {x : V} {ys : List V} (h : tupOf H x = some ys) : ∃ c, x = .ref c ∧ H c = some (.tup ys) := by
  cases x with
  | ref c =>
    refine ⟨c, rfl, ?_⟩
    have h2 : (match H c with | some (.tup ys) => some ys | _ => none) = some ys := h
    split at h2
    · rename_i zs e
      cases h2
      exact e
    · cases h2
  | _ => cases h
theorem tupOf_same {T : Addr → Prop} {H H2 : Hp} {x : V} (a : AnyV T H x) (S : Same H H2) : tupOf H2 x = tupOf H x := by
  cases e : tupOf H x with
  | some ys =>
    obtain ⟨c, rfl, h⟩ := tupOf_some e
    exact tupOf_ref (S _ _ h)
  | none =>
    cases e2 : tupOf H2 x with
    | none => rfl
    | some ys =>
      obtain ⟨c, rfl, h⟩ := tupOf_some e2
      rw [tupOf_ref (a.at S h)] at e
      cases e
/-- its things are any values -/
def ItemsAny (T : Addr → Prop) (H : Hp) (x : V) : Prop := ∀ ys, tupOf H x = some ys → ∀ y ∈ ys, AnyV T H y
theorem ItemsAny.same {T : Addr → Prop} {H H2 : Hp} {x : V} (h : ItemsAny T H x) (a : AnyV T H x) (S : Same H H2) : ItemsAny T H2 x := fun ys e y hy => by
  rw [tupOf_same a S] at e
  exact (h ys e y hy).mono S
theorem ItemsAny.ints {T : Addr → Prop} {H : Hp} {c : Addr} {ns : List Int} (h : H c = some (.tup (ns.map V.int))) : ItemsAny T H (.ref c) := fun ys e y hy => by
  rw [tupOf_ref h] at e
  cases e
  obtain ⟨z, _, rfl⟩ := List.mem_map.mp hy
  exact .int z
theorem ItemsAny.non {T : Addr → Prop} {H : Hp} {x : V} (h : tupOf H x = none) : ItemsAny T H x := fun ys e => by
  rw [h] at e
  cases e
/-- the place of the first thing that is no integer from a to b -/
def firstW (a b : Int) : List V → Option Nat
  | [] => none
  | y :: ys => if intIn y a b = true then (firstW a b ys).map (· + 1) else some 0
theorem firstW_none {a b : Int} : ∀ {ys : List V}, (∀ y ∈ ys, intIn y a b = true) → firstW a b ys = none
  | [], _ => rfl
  | y :: ys, h => by
    unfold firstW
    rw [if_pos (h y List.mem_cons_self), firstW_none fun z hz => h z (List.mem_cons_of_mem _ hz)]
    rfl
theorem firstW_all {a b : Int} : ∀ {ys : List V}, firstW a b ys = none → ∀ y ∈ ys, intIn y a b = true
  | [], _, _, hy => by cases hy
  | z :: ys, h, y, hy => by
    unfold firstW at h
    by_cases e : intIn z a b = true
    · rw [if_pos e] at h
      rcases List.mem_cons.mp hy with rfl | hy
      · exact e
      · exact firstW_all (Option.map_eq_none_iff.mp h) y hy
    · rw [if_neg e] at h
      cases h
theorem firstW_at {a b : Int} : ∀ {ys : List V} {i : Nat} {y : V}, (∀ (j : Nat) (z : V), j < i → ys[j]? = some z → intIn z a b = true) → ys[i]? = some y → intIn y a b = false → firstW a b ys = some i
  | [], i, y, _, h, _ => by cases h
  | z :: ys, 0, y, _, h, e => by
    cases h
    unfold firstW
    rw [if_neg (by rw [e]; exact Bool.false_ne_true)]
  | z :: ys, i + 1, y, h0, h, e => by
    unfold firstW
    rw [if_pos (h0 0 z (Nat.succ_pos _) rfl), firstW_at (i := i) (y := y) (fun j x hj hx => h0 (j + 1) x (Nat.succ_lt_succ hj) hx) h e]
    rfl
theorem firstW_lt {a b : Int} : ∀ {ys : List V} {i : Nat}, firstW a b ys = some i → i < ys.length
  | [], _, h => by cases h
  | y :: ys, i, h => by
    unfold firstW at h
    by_cases e : intIn y a b = true
    · rw [if_pos e] at h
      obtain ⟨j, hj, rfl⟩ := Option.map_eq_some_iff.mp h
      exact Nat.succ_lt_succ (firstW_lt hj)
    · rw [if_neg e] at h
      cases h
      exact Nat.succ_pos _
theorem firstW_some {a b : Int} : ∀ {ys : List V} {i : Nat}, firstW a b ys = some i → (∀ (j : Nat) (z : V), j < i → ys[j]? = some z → intIn z a b = true) ∧ ∃ y, ys[i]? = some y ∧ intIn y a b = false
  | [], _, h => by cases h
  | y :: ys, i, h => by
    unfold firstW at h
    by_cases e : intIn y a b = true
    · rw [if_pos e] at h
      obtain ⟨j, hj, rfl⟩ := Option.map_eq_some_iff.mp h
      obtain ⟨h1, z, h2, h3⟩ := firstW_some hj
      refine ⟨fun m v hm hv => ?_, z, h2, h3⟩
      cases m with
      | zero =>
        cases hv
        exact e
      | succ m => exact h1 m v (by omega) hv
    · rw [if_neg e] at h
      cases h
      exact ⟨fun m v hm => absurd hm (Nat.not_lt_zero _), y, rfl, by simpa using e⟩
/-- what is wrong of a tuple of lo to hi integers from a to b: nothing, None, or the first wrong place -/
def verdict (lo hi : Nat) (a b : Int) (o : Option (List V)) : Option V := match o with
  | none => some .non
  | some ys => if lo ≤ ys.length ∧ ys.length ≤ hi then (firstW a b ys).map fun i => .int (i : Nat) else some .non
theorem verdict_some (lo hi : Nat) (a b : Int) (ys : List V) : verdict lo hi a b (some ys) = if lo ≤ ys.length ∧ ys.length ≤ hi then (firstW a b ys).map fun i => .int (i : Nat) else some .non := rfl
theorem verdict_good {lo hi : Nat} {a b : Int} {ys : List V} (l1 : lo ≤ ys.length) (l2 : ys.length ≤ hi) (h : ∀ y ∈ ys, intIn y a b = true) : verdict lo hi a b (some ys) = none := by
  rw [verdict_some, if_pos ⟨l1, l2⟩, firstW_none h]
  rfl
theorem verdict_none {lo hi : Nat} {a b : Int} {o : Option (List V)} (h : verdict lo hi a b o = none) : ∃ ys, o = some ys ∧ lo ≤ ys.length ∧ ys.length ≤ hi ∧ ∀ y ∈ ys, intIn y a b = true := by
  cases o with
  | none => cases h
  | some ys =>
    rw [verdict_some] at h
    by_cases l : lo ≤ ys.length ∧ ys.length ≤ hi
    · rw [if_pos l] at h
      exact ⟨ys, rfl, l.1, l.2, firstW_all (Option.map_eq_none_iff.mp h)⟩
    · rw [if_neg l] at h
      cases h

/-! ### tuples of so many things; the first wrong one -/
def isTup (lo hi : Int) (o : Option (List V)) : Bool := match o with
  | none => false
  | some ys => decide (lo ≤ (ys.length : Int)) && decide ((ys.length : Int) ≤ hi)
theorem isi_tup (T : Tx P K mg) {H : Hp} {x : V} (a : AnyV (OwnT T) H x) : ∃ t, TyX K H x t ∧ ∃ b, PySem.W.kitOne K t (.type "tuple") = some b ∧ (b = false → tupOf H x = none) ∧ (b = true → ∃ c ys, x = .ref c ∧ H c = some (.tup ys)) := by
  have no : ∀ {c : Addr} {o : HO}, H c = some o → (∀ ys, o ≠ .tup ys) → tupOf H (.ref c) = none := fun {c o} e h => by
    cases q : tupOf H (.ref c) with
    | none => rfl
    | some ys =>
      obtain ⟨c', e1, e2⟩ := tupOf_some q
      cases e1
      rw [e] at e2
      exact absurd (Option.some.inj e2) (h ys)
  cases a with
  | non => exact ⟨_, .base .non, false, kit_ty (by decide +kernel), fun _ => rfl, fun z => nomatch z⟩
  | bl b => exact ⟨_, .base (.bl b), false, kit_ty (by decide +kernel), fun _ => rfl, fun z => nomatch z⟩
  | int i => exact ⟨.type "int", .base (.int i), false, kit_ty (by decide +kernel), fun _ => rfl, fun z => nomatch z⟩
  | str x => exact ⟨_, .base (.str x), false, kit_ty (by decide +kernel), fun _ => rfl, fun z => nomatch z⟩
  | lst e => exact ⟨_, .base (.lst e), false, kit_ty (by decide +kernel), fun _ => no e (fun _ z => nomatch z), fun z => nomatch z⟩
  | tup e => exact ⟨_, .base (.tup e), true, kit_ty (by decide +kernel), fun z => (nomatch z), fun _ => ⟨_, _, rfl, e⟩⟩
  | dct e => exact ⟨_, .base (.dK e), false, kit_ty (by decide +kernel), fun _ => no e (fun _ z => nomatch z), fun z => nomatch z⟩
  | ins t e => exact ⟨_, .base (t.ty e), false, t.ntuple, fun _ => no e (fun _ z => nomatch z), fun z => nomatch z⟩

def spIsTup (T : Tx P K mg) : Sp := fun vs H Q _ => ∃ (x : V) (lo hi : Int), vs = [x, .int lo, .int hi] ∧ AnyV (OwnT T) H x ∧ Q (.bl (isTup lo hi (tupOf H x))) H
theorem ok_is_tuple (T : Tx P K mg) : FnOk P w K mg base CX0 lv_is_tuple T.a_is_tuple T.d_is_tuple ["told", "fewest", "most"] (spIsTup T) := by
  refine T.F_is_tuple.ok sc_is_tuple (fun vs H Q E h => ?_) (fun cdv A outer s H vs Q E hr h => ?_)
  · obtain ⟨x, lo, hi, rfl, _⟩ := h
    rfl
  · obtain ⟨x, lo, hi, rfl, a, k⟩ := h
    refine ⟨_, (pss_one (ps_ret (pe_and (pe_callB call_isi (by rfl) T.n_isinstance (by decide +kernel) (pa_cons (pv 0) (pa_cons (pe_bltn (v := .ty "tuple") rfl T.n_tuple (by decide +kernel) rfl) pa_nil))) (pe_one (pe_chain op_le op_le (pv 1) (pe_callB call_len_seq (by rfl) T.n_len (by decide +kernel) (pa_cons (pv 0) pa_nil)) (pv 2)))))), ?_⟩
    obtain ⟨t, ty, q, e1, h1, h2⟩ := isi_tup T a
    refine ⟨_, rfl, _, _, _, _, q, rfl, .ty _, ty, e1, q, rfl, ?_⟩
    cases q with
    | false =>
      rw [h1 rfl] at k
      exact iteF k
    | true =>
      obtain ⟨c, ys, rfl, e⟩ := h2 rfl
      rw [tupOf_ref e] at k
      have k : Q (V.bl (decide (lo ≤ (ys.length : Int)) && decide ((ys.length : Int) ≤ hi))) H := k
      refine iteT ⟨_, rfl, _, rfl, c, ys, rfl, .inr (SqT.of e), _, _, rfl, rfl, _, rfl, ?_⟩
      refine ite2 (fun g1 => ?_) (fun g1 => ?_)
      · rw [g1] at k
        exact ⟨_, rfl, _, _, rfl, rfl, k⟩
      · rw [show decide (lo ≤ (ys.length : Int)) = false from by simpa using g1] at k
        exact k
def optN (o : Option Nat) : V := match o with
  | none => .non
  | some i => .int (i : Nat)
def spFirstW (T : Tx P K mg) : Sp := fun vs H Q _ => ∃ (c : Addr) (ys : List V) (a b : Int), vs = [.ref c, .int a, .int b] ∧ H c = some (.tup ys) ∧ ys.length ≤ 1000 ∧ (∀ y ∈ ys, AnyV (OwnT T) H y) ∧ ∀ H2, Same H H2 → Q (optN (firstW a b ys)) H2
theorem ok_first_wrong (T : Tx P K mg) : FnOk P w K mg base CX0 lv_first_wrong T.a_first_wrong T.d_first_wrong ["told", "low", "high"] (spFirstW T) := by
  refine T.F_first_wrong.ok sc_first_wrong (fun vs H Q E h => ?_) (fun cdv A outer s H vs Q E hr h => ?_)
  · obtain ⟨c, ys, a, b, rfl, _⟩ := h
    rfl
  · obtain ⟨c, ys, a, b, rfl, e, hl, hy, k⟩ := h
    refine ⟨_, (pss_cons (ps_for PassesOwn.never rfl (pi_enumT (by rfl) T.n_enumerate (pa_cons (pv 0) pa_nil)) (pg_tup rfl (pgs_cons (pg_name (i := 3) sc_first_wrong.nd rfl (Or.inl rfl)) (pgs_cons (pg_name (i := 4) sc_first_wrong.nd rfl (Or.inl rfl)) pgs_nil))) (pss_one (ps_if (pt_not (pt_val (pe_call (ok_is_integer T) (hr.mono (by decide)) rfl T.g_is_integer T.F_is_integer.kp T.b_is_integer .nil pass0 (pa_cons (pv 4) (pa_cons (pv 1) (pa_cons (pv 2) pa_nil)))))) (pss_one (ps_ret (pv 3))) pss_nil)))
      (pss_one (ps_ret pe_non))), ?_⟩
    refine ⟨_, rfl, c, ys, rfl, SqT.of e, ?_⟩
    refine for_it (walk_enumT (a := c) (ys := ys)) (fun i σ H2 => ∃ v3 v4 : Option V, Same H H2 ∧ (∀ (j : Nat) (z : V), j < i → ys[j]? = some z → intIn z a b = true) ∧ σ = [some (.ref c), some (.int a), some (.int b), v3, v4]) ⟨none, none, fun _ _ e => e, fun j z lt _ => absurd lt (Nat.not_lt_zero _), rfl⟩ (fun i σ H2 _ ⟨_, _, S, _, _⟩ => SqT.of (S _ _ e)) ?_ ?_
    · rintro i x' σ H2 H3 hi ⟨v3, v4, S, hf, rfl⟩ ⟨p, x2, y, rfl, np, rfl, e2, hy'⟩
      cases e2
      have hy' : ys[i]? = some y := hy'
      refine ⟨p, _, rfl, SqT.of upd_same, rfl, _, _, rfl, _, _, rfl, rfl, ?_⟩
      have S3 := S.trans (same_upd (o := .tup [.int (i : Nat), y]) np)
      have ay : AnyV (OwnT T) (upd H2 p (.tup [.int (i : Nat), y])) y := (hy y (List.mem_of_getElem? hy')).mono S3
      refine ⟨_, rfl, _, rfl, _, rfl, y, a, b, rfl, ay, _, rfl, ?_⟩
      cases g : intIn y a b with
      | true =>
        refine iteF ⟨_, _, S3, fun j z lt hz => ?_, rfl⟩
        rcases Nat.lt_or_ge j i with q | q
        · exact hf j z q hz
        · rw [show j = i by omega, hy'] at hz
          cases hz
          exact g
      | false =>
        have k2 := k _ S3
        rw [firstW_at hf hy' g] at k2
        exact iteT ⟨_, rfl, k2⟩
    · rintro σ H2 ⟨v3, v4, S, hf, rfl⟩
      have k2 := k _ S
      rw [firstW_none fun y hy => by
        obtain ⟨j, hj⟩ := List.mem_iff_getElem?.mp hy
        exact hf j y (List.getElem?_eq_some_iff.mp hj).1 hj] at k2
      exact k2

/-! ### figures: what is a tuple of figures, or the error -/
/-- all that is before place i are figures of the base b -/
def figsTo (b : Int) (ys : List V) (i : Nat) : Prop := ∀ (j : Nat) (z : V), j < i → ys[j]? = some z → intIn z 0 (b - 1) = true
/-- what is wished of any value as figures of the base b -/
structure FigWish (T : Tx P K mg) (x : V) (b : Int) (H : Hp) (good : Addr → List V → Hp → Prop) (bad : V → Hp → Prop) : Prop where
  any : AnyV (OwnT T) H x
  none : (¬ ∃ c ys, x = .ref c ∧ H c = some (.tup ys)) → ∀ H2, Same H H2 → bad .non H2
  items : ∀ c ys, x = .ref c → H c = some (.tup ys) → ∀ y ∈ ys, AnyV (OwnT T) H y
  size : ∀ c ys, x = .ref c → H c = some (.tup ys) → ¬ (1 ≤ ys.length ∧ ys.length ≤ 150) → ∀ H2, Same H H2 → bad .non H2
  wrong : ∀ c ys, x = .ref c → H c = some (.tup ys) → 1 ≤ ys.length → ys.length ≤ 150 → ∀ (i : Nat) (y : V), ys[i]? = some y → figsTo b ys i → intIn y 0 (b - 1) = false → ∀ H2, Same H H2 → bad (.int (i : Int)) H2
  good : ∀ c ys, x = .ref c → H c = some (.tup ys) → 1 ≤ ys.length → ys.length ≤ 150 → figsTo b ys ys.length → ∀ H2, Same H H2 → good c ys H2
theorem FigWish.same {T : Tx P K mg} {x : V} {b : Int} {H H1 : Hp} {good : Addr → List V → Hp → Prop} {bad : V → Hp → Prop} (W : FigWish T x b H good bad) (S : Same H H1) : FigWish T x b H1 good bad where
  any := W.any.mono S
  none := fun n H2 S2 => W.none (fun ⟨c, ys, e1, e2⟩ => n ⟨c, ys, e1, S _ _ e2⟩) H2 (S.trans S2)
  items := fun c ys ex e y hy => (W.items c ys ex (AnyV.at (by rw [← ex]; exact W.any) S e) y hy).mono S
  size := fun c ys ex e n H2 S2 => W.size c ys ex (AnyV.at (by rw [← ex]; exact W.any) S e) n H2 (S.trans S2)
  wrong := fun c ys ex e l1 l2 i y hy f g H2 S2 => W.wrong c ys ex (AnyV.at (by rw [← ex]; exact W.any) S e) l1 l2 i y hy f g H2 (S.trans S2)
  good := fun c ys ex e l1 l2 f H2 S2 => W.good c ys ex (AnyV.at (by rw [← ex]; exact W.any) S e) l1 l2 f H2 (S.trans S2)
theorem FigWish.to {T : Tx P K mg} {x : V} {b : Int} {H : Hp} {good good' : Addr → List V → Hp → Prop} {bad bad' : V → Hp → Prop} (W : FigWish T x b H good bad) (hb : ∀ i H2, bad i H2 → bad' i H2) (hg : ∀ c ys H2, good c ys H2 → good' c ys H2) : FigWish T x b H good' bad' where
  any := W.any
  none := fun n H2 S2 => hb _ _ (W.none n H2 S2)
  items := W.items
  size := fun c ys ex e n H2 S2 => hb _ _ (W.size c ys ex e n H2 S2)
  wrong := fun c ys ex e l1 l2 i y hy f g H2 S2 => hb _ _ (W.wrong c ys ex e l1 l2 i y hy f g H2 S2)
  good := fun c ys ex e l1 l2 f H2 S2 => hg _ _ _ (W.good c ys ex e l1 l2 f H2 S2)
def badFig (T : Tx P K mg) (E : XK) (i : V) (H : Hp) : Prop := ∀ d, H d = none → E (.ref T.C_BadFigures) (some d) (upd H d (.xd [(("index" : Str), i)]))
def spCheckFigs (T : Tx P K mg) : Sp := fun vs H Q E => ∃ (x : V) (b : Int), vs = [x, .int b, .int 1] ∧ 2 ≤ b ∧ b ≤ 16 ∧ FigWish T x b H (fun _ _ H2 => Q .non H2) (badFig T E)
theorem ok_check_figures (T : Tx P K mg) : FnOk P w K mg base (L2.CX P w) lv_check_figures T.a_check_figures T.d_check_figures ["told", "base", "fewest"] (spCheckFigs T) := by
  refine T.F_check_figures.okX sc_check_figures (fun vs H Q E h => ?_) (fun cdv A outer s H vs Q E hr h => ?_)
  · obtain ⟨x, b, rfl, _⟩ := h
    rfl
  · obtain ⟨x, b, rfl, b1, b2, W⟩ := h
    refine ⟨_, (pss_cons (ps_if (pt_not (pt_val (pe_call (ok_is_tuple T) (hr.mono (by decide)) rfl T.g_is_tuple T.F_is_tuple.kp T.b_is_tuple .nil pass0 (pa_cons (pv 0) (pa_cons (pv 2) (pa_cons (pe_glob (v := .int 150) rfl T.c_MOST_FIGURES ⟨_, rfl⟩) pa_nil)))))) (pss_one (ps_raiseF T.x_BadFigures ar_BadFigures rfl hr (takes_of rfl rfl rfl rfl) (pa_cons pe_non pa_nil))) pss_nil)
      (pss_cons (ps_set (i := 3) sc_check_figures.nd rfl (Or.inl rfl) (pe_call (ok_first_wrong T) (hr.mono (by decide)) rfl T.g_first_wrong T.F_first_wrong.kp T.b_first_wrong .nil pass0 (pa_cons (pv 0) (pa_cons pe_int (pa_cons (pe_op op_sub (pv 1) pe_int) pa_nil)))))
      (pss_one (ps_if (pt_cmpR op_notN (pv 3) pe_non (nomark _)) (pss_one (ps_raiseF T.x_BadFigures ar_BadFigures rfl hr (takes_of rfl rfl rfl rfl) (pa_cons (pv 3) pa_nil))) pss_nil)))), ?_⟩
    refine ⟨_, rfl, _, rfl, x, 1, 150, rfl, W.any, _, rfl, ?_⟩
    cases e : tupOf H x with
    | none =>
      exact iteT ⟨_, rfl, .inl rfl, fun d hd => W.none (fun ⟨c, ys, e1, e2⟩ => by rw [e1, tupOf_ref e2] at e; cases e) H (fun _ _ z => z) d hd⟩
    | some ys =>
      obtain ⟨c, rfl, hc⟩ := tupOf_some e
      show if (!(decide ((1 : Int) ≤ (ys.length : Int)) && decide ((ys.length : Int) ≤ 150))) = true then _ else _
      by_cases l : 1 ≤ ys.length ∧ ys.length ≤ 150
      · rw [show (decide ((1 : Int) ≤ (ys.length : Int)) && decide ((ys.length : Int) ≤ 150)) = true from by rw [Bool.and_eq_true, decide_eq_true_eq, decide_eq_true_eq]; omega]
        refine iteF ⟨_, rfl, _, rfl, _, _, rfl, rfl, c, ys, 0, b - 1, rfl, hc, by omega, fun y hy => W.items c ys rfl hc y hy, fun H2 S2 => ?_⟩
        cases ef : firstW 0 (b - 1) ys with
        | none =>
          refine ⟨_, rfl, rfl, _, rfl, ?_⟩
          rw [show decide (optN none = V.non) = true from decide_eq_true rfl]
          exact iteF (W.good c ys rfl hc l.1 l.2 (fun j z _ hz => firstW_all ef z (List.mem_of_getElem? hz)) H2 S2)
        | some i =>
          have li := firstW_lt ef
          obtain ⟨f1, y, f2, f3⟩ := firstW_some ef
          refine ⟨_, rfl, rfl, _, rfl, ?_⟩
          rw [show decide (optN (some i) = V.non) = false from decide_eq_false (fun z => nomatch z)]
          have sm : ((i : Int)).natAbs.log2 < 1920 := Nat.lt_of_le_of_lt (Nat.log2_le_self _) (by omega)
          exact iteT ⟨_, rfl, _, rfl, .inr ⟨_, rfl, sm⟩, fun d hd => W.wrong c ys rfl hc l.1 l.2 i y f2 f1 f3 H2 S2 d hd⟩
      · rw [show (decide ((1 : Int) ≤ (ys.length : Int)) && decide ((ys.length : Int) ≤ 150)) = false from by rw [Bool.and_eq_false_iff, decide_eq_false_iff_not, decide_eq_false_iff_not]; omega]
        exact iteT ⟨_, rfl, .inl rfl, fun d hd => W.size c ys rfl hc l H (fun _ _ z => z) d hd⟩

/-! ### the number with these figures -/
def digV : V → Int
  | .int i => i
  | _ => 0
def valOf (b : Int) (ys : List V) : Int := ys.foldl (fun n y => n * b + digV y) 0
theorem valOf_snoc (b : Int) (ys : List V) (y : V) : valOf b (ys ++ [y]) = valOf b ys * b + digV y := by
  unfold valOf
  rw [List.foldl_append]
  rfl
theorem take_snoc {ys : List V} {i : Nat} {y : V} (h : ys[i]? = some y) : ys.take (i + 1) = ys.take i ++ [y] := by
  rw [List.take_add_one, h]
  rfl
def spNumberX (T : Tx P K mg) : Sp := fun vs H Q E => ∃ x y : V, vs = [x, y] ∧ AnyV (OwnT T) H y ∧ (intIn y 2 16 = false → E (.ref T.C_BadBase) none H) ∧
  ∀ b : Int, y = .int b → 2 ≤ b → b ≤ 16 → FigWish T x b H (fun _ ys H2 => Q (.int (valOf b ys)) H2) (badFig T E)
theorem ok_number (T : Tx P K mg) : FnOk P w K mg base (L2.CX P w) lv_number T.a_number T.d_number ["told", "base"] (spNumberX T) := by
  refine T.F_number.okX sc_number (fun vs H Q E h => ?_) (fun cdv A outer s H vs Q E hr h => ?_)
  · obtain ⟨x, y, rfl, _⟩ := h
    rfl
  · obtain ⟨x, y, rfl, ay, e1, hW⟩ := h
    refine ⟨_, (pss_cons (ps_expr (pe_call (ok_check_base T) (hr.mono (by decide)) rfl T.g_check_base T.F_check_base.kp T.b_check_base .nil (passes_call (takes_of rfl rfl rfl rfl) fun _ _ _ _ h => h) (pa_cons (pv 1) pa_nil)))
      (pss_cons (ps_expr (pe_call (ok_check_figures T) (hr.mono (by decide)) rfl T.g_check_figures T.F_check_figures.kp T.b_check_figures .nil (passes_call (takes_of rfl rfl rfl rfl) fun _ _ _ _ h => h) (pa_cons (pv 0) (pa_cons (pv 1) (pa_cons pe_int pa_nil)))))
      (pss_cons (ps_set (i := 2) sc_number.nd rfl (Or.inl rfl) pe_int)
      (pss_cons (ps_for (passes_of rfl) rfl (pi_tup (pv 0)) (pg_name (i := 3) sc_number.nd rfl (Or.inl rfl)) (pss_one (ps_set (i := 2) sc_number.nd rfl (Or.inl rfl) (pe_op op_add (pe_op op_mul (pv 2) (pv 1)) (pv 3)))))
      (pss_one (ps_ret (pv 2))))))), ?_⟩
    refine ⟨_, rfl, y, rfl, ay, fun g => ?_, e1⟩
    obtain ⟨b, rfl, b1, b2⟩ := intIn_int' g
    have W := hW b rfl b1 b2
    refine ⟨_, rfl, _, rfl, x, b, rfl, b1, b2, ⟨W.any, W.none, W.items, W.size, W.wrong, fun c ys ex e l1 l2 gd H2 S => ?_⟩⟩
    subst ex
    have sq := SqT.of (K := K) (S _ _ e)
    refine ⟨_, rfl, c, rfl, ⟨ys, sq⟩, ?_⟩
    refine for_it (walk_tup (a := c) (xs := ys)) (fun i σ H3 => ∃ v3 : Option V, H3 = H2 ∧ σ = [some (.ref c), some (.int b), some (.int (valOf b (ys.take i))), v3]) ⟨none, rfl, rfl⟩ (fun i σ H3 _ ⟨_, e3, _⟩ => by rw [e3]; exact sq) ?_ ?_
    · rintro i x' σ H3 H4 hi ⟨v3, rfl, rfl⟩ ⟨rfl, hy⟩
      obtain ⟨d, rfl, d1, d2⟩ := intIn_int' (gd i x' hi hy)
      refine ⟨_, rfl, _, rfl, _, _, rfl, rfl, .inr ⟨by omega, by omega⟩, _, rfl, _, _, rfl, rfl, ?_⟩
      rw [take_snoc hy, valOf_snoc]
      exact ⟨_, rfl, rfl⟩
    · rintro σ H3 ⟨v3, rfl, rfl⟩
      rw [List.take_length]
      exact ⟨_, rfl, W.good c ys rfl e l1 l2 gd _ S⟩

/-! ### the figures of a number -/
def lows (b n : Nat) : List Nat := if h : n / b = 0 ∨ b < 2 then [n % b] else n % b :: lows b (n / b)
termination_by n
decreasing_by exact Nat.div_lt_self (Nat.pos_of_ne_zero fun z => h (.inl (by rw [z, Nat.zero_div]))) (by omega)
theorem lows_one {b n : Nat} (h : n / b = 0) : lows b n = [n % b] := by
  rw [lows, dif_pos (.inl h)]
theorem lows_more {b n : Nat} (hb : 2 ≤ b) (h : n / b ≠ 0) : lows b n = n % b :: lows b (n / b) := by
  rw [lows, dif_neg (by omega)]
/-- the figures, as values of ints -/
def lowV (b n : Nat) : List V := (lows b n).map fun (d : Nat) => .int (d : Int)
theorem fmod_nat (n b : Nat) : (n : Int).fmod (b : Int) = ((n % b : Nat) : Int) := by
  rw [Int.fmod_eq_emod_of_nonneg _ (by omega), Int.natCast_emod]
theorem div_nat (n b : Nat) : (n : Int) / (b : Int) = ((n / b : Nat) : Int) := (Int.natCast_ediv n b).symm
theorem lows_step {b : Nat} (hb : 2 ≤ b) (n : Nat) : lows b n = [n % b] ++ (if n / b = 0 then [] else lows b (n / b)) := by
  by_cases h : n / b = 0
  · rw [lows_one h, if_pos h]
    all_goals rfl
  · rw [lows_more hb h, if_neg h]
    all_goals rfl
theorem half_le {b : Nat} (hb : 2 ≤ b) (n : Nat) : n / b * 2 ≤ n :=
  Nat.le_trans (Nat.mul_le_mul_left _ hb) (Nat.div_mul_le_self n b)
def spFiguresX (T : Tx P K mg) : Sp := fun vs H Q E => ∃ x y : V, vs = [x, y] ∧ AnyV (OwnT T) H x ∧ AnyV (OwnT T) H y ∧
  (intIn x 0 (10 ^ 40) = false → ∀ d, H d = none → E (.ref T.C_BadNumber) (some d) (upd H d (.xd [(("n" : Str), x)]))) ∧
  (intIn x 0 (10 ^ 40) = true → intIn y 2 16 = false → E (.ref T.C_BadBase) none H) ∧
  ∀ n b : Nat, x = .int (n : Int) → y = .int (b : Int) → n ≤ 10 ^ 40 → 2 ≤ b → b ≤ 16 → ∀ H2 p, Same H H2 → H2 p = some (.tup (lowV b n).reverse) → Q (.ref p) H2
theorem ok_figures (T : Tx P K mg) : FnOk P w K mg base (L2.CX P w) lv_figures T.a_figures T.d_figures ["n", "base"] (spFiguresX T) := by
  refine T.F_figures.okX sc_figures (fun vs H Q E h => ?_) (fun cdv A outer s H vs Q E hr h => ?_)
  · obtain ⟨x, y, rfl, _⟩ := h
    rfl
  · obtain ⟨x, y, rfl, ax, ay, e1, e2, k⟩ := h
    refine ⟨_, (pss_cons (ps_expr (pe_call (ok_check_stretch T) (hr.mono (by decide)) rfl T.g_check_stretch T.F_check_stretch.kp T.b_check_stretch .nil (passes_call (takes_of rfl rfl rfl rfl) fun _ _ _ _ h => h) (pa_cons (pv 0) (pa_cons pe_int (pa_cons (pe_glob (v := .int 10000000000000000000000000000000000000000) rfl T.c_GREATEST_NUMBER ⟨_, rfl⟩) pa_nil)))))
      (pss_cons (ps_expr (pe_call (ok_check_base T) (hr.mono (by decide)) rfl T.g_check_base T.F_check_base.kp T.b_check_base .nil (passes_call (takes_of rfl rfl rfl rfl) fun _ _ _ _ h => h) (pa_cons (pv 1) pa_nil)))
      (pss_cons (ps_set (i := 2) sc_figures.nd rfl (Or.inl rfl) (pe_lst (pa_cons (pe_op op_modN (pv 0) (pv 1)) pa_nil)))
      (pss_cons (ps_set (i := 3) sc_figures.nd rfl (Or.inl rfl) (pe_op op_fdivW (pv 0) (pv 1)))
      (pss_cons (ps_while (passes_of rfl) (pt_cmpR op_gt (pv 3) pe_int (nomark _)) (pss_cons (ps_expr (pe_bm PySem.F.plainAttrs_list PySem.F.slot_list_append PySem.F.type_list_append mt_append (pv 2) (pa_cons (pe_op op_modN (pv 3) (pv 1)) pa_nil)))
      (pss_one (ps_aug (i := 3) sc_figures.nd rfl (Or.inl rfl) (pv 1) (ip_op iop_fdivW)))))
      (pss_one (ps_ret (RT.pe_tupRev rfl (by rfl) T.n_tuple (by rfl) T.n_reversed (pv 2))))))))), ?_⟩
    refine ⟨_, rfl, x, _, _, rfl, ax, fun g1 => ?_, e1⟩
    refine ⟨_, rfl, y, rfl, ay, fun g2 => ?_, e2 g1⟩
    obtain ⟨i, rfl, n1, n2⟩ := intIn_int' g1
    obtain ⟨j, rfl, b1, b2⟩ := intIn_int' g2
    obtain ⟨n, rfl⟩ := Int.eq_ofNat_of_zero_le n1
    obtain ⟨b, rfl⟩ := Int.eq_ofNat_of_zero_le (show 0 ≤ j by omega)
    have k := k n b rfl rfl (by omega) (by omega) (by omega)
    have bz : (b : Int) ≠ 0 := by omega
    have cd : CDivW 0 (b : Int) := ⟨by omega, Nat.lt_of_le_of_lt (Nat.log2_le_self _) (by omega)⟩
    refine ⟨_, rfl, _, rfl, _, _, rfl, rfl, bz, by show 1 ≤ sizeLine; decide, fun l hl => ?_⟩
    refine ⟨_, rfl, _, rfl, _, _, rfl, rfl, cd, ?_⟩
    refine while_by (fun σ H2 => ∃ (m : Nat) (ls : List Nat), H2 = upd H l (.lst (ls.map fun (d : Nat) => V.int (d : Int))) ∧ lows b n = ls ++ (if m = 0 then [] else lows b m) ∧ m * 2 ^ ls.length ≤ n ∧ σ = [some (.int (n : Int)), some (.int (b : Int)), some (.ref l), some (.int (m : Int))])
      (fun σ _ => match σ with | [_, _, _, some (.int m)] => m.toNat | _ => 0) ⟨n / b, [n % b], ?_, ?_, ?_, ?_⟩ ?_ ?_
    · show upd H l (HO.lst [V.int ((n : Int).fmod (b : Int))]) = _
      rw [fmod_nat]
      rfl
    · exact lows_step (by omega) n
    · show n / b * 2 ^ 1 ≤ n
      exact half_le (by omega) n
    · rw [← div_nat]
      rfl
    · rintro σ H2 ⟨m, ls, rfl, hL, h1, rfl⟩
      refine ⟨_, rfl, _, _, rfl, rfl, _, rfl, ?_⟩
      refine ite2 (fun g => ?_) (fun g => ?_)
      · have c : 0 < m := by
          have := of_decide_eq_true g
          omega
        have len : ls.length < 133 := by
          rcases Nat.lt_or_ge ls.length 133 with q | q
          · exact q
          · exfalso
            have h2 : 2 ^ 133 ≤ 2 ^ ls.length := Nat.pow_le_pow_right (by decide) q
            have h3 : 1 * 2 ^ ls.length ≤ m * 2 ^ ls.length := Nat.mul_le_mul_right _ c
            have h4 : (n : Int) ≤ 10000000000000000000000000000000000000000 := n2
            omega
        refine ⟨_, rfl, .inl ⟨rfl, _, .inl (.inl upd_same)⟩, _, rfl, _, rfl, _, _, rfl, rfl, bz, ?_⟩
        refine ⟨l, _, _, rfl, rfl, upd_same, by rw [List.length_map]; exact small1000 (by omega), ?_⟩
        refine ⟨_, rfl, _, rfl, _, _, rfl, rfl, cd, ?_⟩
        have hs := lows_step (b := b) (by omega) m
        rw [if_neg (by omega), hs, ← List.append_assoc] at hL
        refine ⟨⟨m / b, ls ++ [m % b], ?_, hL, ?_, ?_⟩, ?_⟩
        · rw [upd_upd, List.map_append]
          show upd H l (HO.lst (_ ++ [V.int ((m : Int).fmod (b : Int))])) = _
          rw [fmod_nat]
          rfl
        · rw [List.length_append, List.length_singleton, Nat.pow_succ, Nat.mul_comm (2 ^ ls.length) 2, ← Nat.mul_assoc]
          exact Nat.le_trans (Nat.mul_le_mul_right _ (half_le (by omega) m)) h1
        · rw [← div_nat]
          rfl
        · show ((m : Int) / (b : Int)).toNat < ((m : Int)).toNat
          rw [div_nat, Int.toNat_natCast, Int.toNat_natCast]
          exact Nat.div_lt_self c (by omega)
      · have c : m = 0 := by
          have : ¬ ((0 : Int) < (m : Int)) := fun z => g (decide_eq_true z)
          omega
        subst c
        rw [if_pos rfl, List.append_nil] at hL
        refine ⟨_, rfl, l, _, rfl, SqL.of upd_same, fun q hq => ?_⟩
        refine k _ q (fun c o e => same_upd hq _ _ (same_upd hl _ _ e)) ?_
        unfold lowV
        rw [hL]
        exact upd_same
    · intro σ H2 Q1 Q2 hq ht
      obtain ⟨v, e1, i, j, ei, ej, q, eq, z⟩ := ht
      exact ⟨_, e1, i, j, ei, ej, q, eq, hq _ _ z⟩

/-! ### the law's own figures -/
def spLawFigs : Sp := fun vs H Q _ => ∃ n b : Nat, vs = [.int (n : Int), .int (b : Int)] ∧ n ≤ 10 ^ 40 ∧ 2 ≤ b ∧ b ≤ 16 ∧ ∀ H2 p, Same H H2 → H2 p = some (.tup (lowV b n).reverse) → Q (.ref p) H2
theorem ok__law_figures (T : Tx P K mg) : FnOk P w K mg base CX0 lv__law_figures T.a__law_figures T.d__law_figures ["_law_n", "_law_base"] spLawFigs := by
  refine T.F__law_figures.ok sc__law_figures (fun vs H Q E h => ?_) (fun cdv A outer s H vs Q E hr h => ?_)
  · obtain ⟨n, b, rfl, _⟩ := h
    rfl
  · obtain ⟨n, b, rfl, n2, b1, b2, k⟩ := h
    refine ⟨_, (pss_cons (ps_set (i := 2) sc__law_figures.nd rfl (Or.inl rfl) (pe_lst pa_nil))
      (pss_cons (ps_while PassesOwn.never (PW.pt (pw_or (pt_cmpR op_gt (pv 0) pe_int (nomark _)) (pw_or1 (pt_cmpR (op_eqD hr.units) (pv 2) (pe_lst pa_nil) (nomark _))))) (pss_cons (ps_expr (pe_bm PySem.F.plainAttrs_list PySem.F.slot_list_append PySem.F.type_list_append mt_append (pv 2) (pa_cons (pe_op op_modN (pv 0) (pv 1)) pa_nil)))
      (pss_one (ps_set (i := 0) sc__law_figures.nd rfl (Or.inl rfl) (pe_op op_fdivW (pv 0) (pv 1))))))
      (pss_one (ps_ret (pe_callTy call_tuple_of (by rfl) T.n_tuple (by decide +kernel) (pa_cons (pe_revL (pv 2)) pa_nil)))))), ?_⟩
    have bz : (b : Int) ≠ 0 := by omega
    have cd : CDivW 0 (b : Int) := ⟨by omega, Nat.lt_of_le_of_lt (Nat.log2_le_self _) (by omega)⟩
    refine ⟨by show 0 ≤ sizeLine; decide, fun l hl => ?_⟩
    refine while_by (fun σ H2 => ∃ (m : Nat) (ls : List Nat), H2 l = some (.lst (ls.map fun (d : Nat) => V.int (d : Int))) ∧ Same H H2 ∧ lows b n = ls ++ (if m = 0 ∧ ls ≠ [] then [] else lows b m) ∧ m * 2 ^ ls.length ≤ n ∧ σ = [some (.int (m : Int)), some (.int (b : Int)), some (.ref l)])
      (fun σ H2 => match σ with | [some (.int m), _, _] => m.toNat + (match H2 l with | some (.lst []) => 1 | _ => 0) | _ => 0) ⟨n, [], upd_same, same_upd hl, ?_, ?_, rfl⟩ ?_ ?_
    · simp
    · simp
    · rintro σ H2 ⟨m, ls, hL, S2, hE, h1, rfl⟩
      -- one figure more
      have step : (0 < m ∨ ls = []) → ∀ H3, Same H2 H3 → (∃ m2 ls2, m2 = m / b ∧ ls2 = ls ++ [m % b] ∧ lows b n = ls2 ++ (if m2 = 0 ∧ ls2 ≠ [] then [] else lows b m2) ∧ m2 * 2 ^ ls2.length ≤ n ∧ ls.length < 133 ∧ ls2 ≠ [] ∧ m2 + 0 < m + (match H2 l with | some (.lst []) => 1 | _ => 0)) := by
        intro hm H3 S3
        have hs := lows_step (b := b) (by omega) m
        refine ⟨_, _, rfl, rfl, ?_, ?_, ?_, by simp, ?_⟩
        · have c0 : ¬ (m = 0 ∧ ls ≠ []) := by
            rintro ⟨q1, q2⟩
            rcases hm with q | q
            · omega
            · exact q2 q
          rw [if_neg c0, hs, ← List.append_assoc] at hE
          rw [hE]
          by_cases z : m / b = 0
          · rw [if_pos z, if_pos ⟨z, by simp⟩]
          · rw [if_neg z, if_neg (fun q => z q.1)]
        · rw [List.length_append, List.length_singleton, Nat.pow_succ, Nat.mul_comm (2 ^ ls.length) 2, ← Nat.mul_assoc]
          exact Nat.le_trans (Nat.mul_le_mul_right _ (half_le (by omega) m)) h1
        · rcases hm with q | q
          · rcases Nat.lt_or_ge ls.length 133 with q2 | q2
            · exact q2
            · exfalso
              have h2 : 2 ^ 133 ≤ 2 ^ ls.length := Nat.pow_le_pow_right (by decide) q2
              have h3 : 1 * 2 ^ ls.length ≤ m * 2 ^ ls.length := Nat.mul_le_mul_right _ q
              omega
          · rw [q]
            decide
        · rcases hm with q | q
          · have := Nat.div_lt_self q (show 1 < b by omega)
            omega
          · rw [hL, q]
            have := Nat.div_le_self m b
            show m / b + 0 < m + 1
            omega
      refine ⟨_, rfl, _, _, rfl, rfl, _, rfl, ?_⟩
      refine ite2 (fun g => ?_) (fun g => ?_)
      · have hm : 0 < m := by
          have := of_decide_eq_true g
          omega
        refine iteT ?_
        obtain ⟨m2, ls2, rfl, rfl, a1, a2, a3, a4, a5⟩ := step (.inl hm) H2 (fun _ _ z => z)
        refine ⟨_, rfl, .inl ⟨rfl, _, .inl (.inl hL)⟩, _, rfl, _, rfl, _, _, rfl, rfl, bz, l, _, _, rfl, rfl, hL, by rw [List.length_map]; exact small1000 (by omega), ?_⟩
        refine ⟨_, rfl, _, rfl, _, _, rfl, rfl, cd, ⟨m / b, ls ++ [m % b], ?_, ?_, a1, a2, ?_⟩, ?_⟩
        · rw [upd_same, List.map_append]
          show some (HO.lst (_ ++ [V.int ((m : Int).fmod (b : Int))])) = _
          rw [fmod_nat]
          rfl
        · intro c o e
          rw [upd_ne (ne_of_none e hl)]
          exact S2 _ _ e
        · rw [← div_nat]
          rfl
        · show ((m : Int) / (b : Int)).toNat + (match upd H2 l (HO.lst (_ ++ [V.int ((m : Int).fmod (b : Int))])) l with | some (.lst []) => 1 | _ => 0) < ((m : Int)).toNat + (match H2 l with | some (.lst []) => 1 | _ => 0)
          rw [upd_same, div_nat, Int.toNat_natCast, Int.toNat_natCast]
          cases lsV : ls.map fun (d : Nat) => V.int (d : Int) with
          | nil => exact a5
          | cons _ _ => exact a5
      · have hm : m = 0 := by
          have : ¬ ((0 : Int) < (m : Int)) := fun z => g (decide_eq_true z)
          omega
        refine ⟨_, rfl, by show 0 ≤ sizeLine; decide, fun p hp => ?_⟩
        have S3 := same_upd (o := .lst []) hp
        have hL3 := S3 _ _ hL
        have hL4 : upd H2 p (.lst []) l = some (.lst ((ls.map fun (d : Nat) => (d : Int)).map V.int)) := by
          rw [List.map_map]
          exact hL3
        refine ⟨_, _, dp_ints (SqL.of hL4), dp_ints (ns := []) (SqL.of upd_same), shaped_lints _, shaped_lints _, _, rfl, ?_⟩
        rw [eqv_ints]
        refine ite2 (fun g2 => ?_) (fun g2 => ?_)
        · have le : ls = [] := by
            have := of_decide_eq_true g2
            exact List.map_eq_nil_iff.mp this
          obtain ⟨m2, ls2, rfl, rfl, a1, a2, a3, a4, a5⟩ := step (.inr le) _ S3
          refine ⟨_, rfl, .inl ⟨rfl, _, .inl (.inl hL3)⟩, _, rfl, _, rfl, _, _, rfl, rfl, bz, l, _, _, rfl, rfl, hL3, by rw [List.length_map]; exact small1000 (by omega), ?_⟩
          refine ⟨_, rfl, _, rfl, _, _, rfl, rfl, cd, ⟨m / b, ls ++ [m % b], ?_, ?_, a1, a2, ?_⟩, ?_⟩
          · rw [upd_same, List.map_append]
            show some (HO.lst (_ ++ [V.int ((m : Int).fmod (b : Int))])) = _
            rw [fmod_nat]
            rfl
          · intro c o e
            rw [upd_ne (ne_of_none e hl)]
            exact S3 _ _ (S2 _ _ e)
          · rw [← div_nat]
            rfl
          · show ((m : Int) / (b : Int)).toNat + (match upd (upd H2 p (.lst [])) l (HO.lst (_ ++ [V.int ((m : Int).fmod (b : Int))])) l with | some (.lst []) => 1 | _ => 0) < ((m : Int)).toNat + (match H2 l with | some (.lst []) => 1 | _ => 0)
            rw [upd_same, div_nat, Int.toNat_natCast, Int.toNat_natCast]
            cases lsV : ls.map fun (d : Nat) => V.int (d : Int) with
            | nil => exact a5
            | cons _ _ => exact a5
        · have le : ls ≠ [] := fun z => g2 (decide_eq_true (by rw [z]; rfl))
          subst hm
          rw [if_pos ⟨rfl, le⟩, List.append_nil] at hE
          have eL : (ls.map fun (d : Nat) => V.int (d : Int)) = lowV b n := by
            unfold lowV
            rw [hE]
          rw [eL] at hL3
          refine ⟨_, rfl, l, _, rfl, SqL.of hL3, fun q hq => ⟨q, _, rfl, .inl ⟨SqL.of upd_same, fun q2 hq2 => ?_⟩⟩⟩
          exact k _ q2 (fun c o e => same_upd hq2 _ _ (same_upd hq _ _ (S3 _ _ (S2 _ _ e)))) upd_same
    · intro σ H2 Q1 Q2 hq ht
      obtain ⟨v, e1, i, j, ei, ej, q, eq, z⟩ := ht
      refine ⟨v, e1, i, j, ei, ej, q, eq, ?_⟩
      cases q with
      | true => exact hq _ _ z
      | false =>
        obtain ⟨v2, e2, sz, f⟩ := z
        refine ⟨v2, e2, sz, fun p hp => ?_⟩
        obtain ⟨d, e, hd, he, s1, s2, q2, eq2, z2⟩ := f p hp
        exact ⟨d, e, hd, he, s1, s2, q2, eq2, hq _ _ z2⟩

/-! ### the law's draws: what is drawn lies in its range; nothing but the row of the draws changes -/
theorem fmod_bd (x : Int) {m : Int} (h : 0 < m) : 0 ≤ x.fmod m ∧ x.fmod m < m := by
  rw [Int.fmod_eq_emod_of_nonneg x (by omega)]
  exact ⟨Int.emod_nonneg x (by omega), Int.emod_lt_of_pos x h⟩
abbrev rowL (a : Addr) (i s c : Int) : List V := [.ref a, .int i, .int s, .int c]
/-- the script at a: locked, or of the top's own -/
def Scr (K : PySem.W.Frag) (H : Hp) (a : Addr) (xs : List V) : Prop := (∃ o, H a = some (.frz o (.lst xs))) ∨ SqL K (fun _ => none) a xs
theorem scr_of {H : Hp} {a : Addr} {xs : List V} (hO : ∀ b, H b = none ∨ ∃ o xs, H b = some (.frz o (.lst xs))) (h : SqL K H a xs) : Scr K H a xs := by
  rcases h with (h | h) | h
  · rcases hO a with z | ⟨o, ys, z⟩
    · rw [z] at h; cases h
    · rw [z] at h; cases h
  · exact .inl h
  · exact .inr (.inr h)
theorem Scr.seq {H : Hp} {a : Addr} {xs : List V} (h : Scr K H a xs) : SqL K H a xs := by
  rcases h with h | (h | ⟨o, h⟩) | h
  · exact .inl (.inr h)
  · cases h
  · cases h
  · exact .inr h
theorem Scr.mono {H H' : Hp} {a : Addr} {xs : List V} (h : Scr K H a xs) (k : ∀ b o u, H b = some (.frz o u) → H' b = some (.frz o u)) : Scr K H' a xs := by
  rcases h with ⟨o, h⟩ | h
  · exact .inl ⟨o, k _ _ _ h⟩
  · exact .inr h
/-- at r the row of the draws over the script at a -/
def RowAt (K : PySem.W.Frag) (H : Hp) (r a : Addr) (ns : List Int) : Prop := ∃ i s c : Int, H r = some (.lst (rowL a i s c)) ∧ 0 ≤ i ∧ 0 ≤ c ∧ Scr K H a (ns.map V.int) ∧ ns.length ≤ 63
theorem RowAt.same {H H' : Hp} {r a : Addr} {ns : List Int} (h : RowAt K H r a ns) (e : Same H H') : RowAt K H' r a ns :=
  let ⟨i, s, c, h1, h2, h3, h4, h5⟩ := h
  ⟨i, s, c, e _ _ h1, h2, h3, h4.mono fun _ _ _ z => e _ _ z, h5⟩
/-- another list is changed -/
theorem RowAt.put {H : Hp} {r a q : Addr} {ns : List Int} {ys : List V} {o : HO} (h : RowAt K H r a ns) (hq : H q = some (.lst ys)) (n : q ≠ r) : RowAt K (upd H q o) r a ns :=
  let ⟨i, s, c, h1, h2, h3, h4, h5⟩ := h
  ⟨i, s, c, by rw [upd_ne (Ne.symm n)]; exact h1, h2, h3, h4.mono fun b o' u z => by rw [upd_ne (ne_of z hq (by intro y; cases y))]; exact z, h5⟩
/-- the row as the law lays it -/
theorem RowAt.start {H : Hp} {r a : Addr} {ns : List Int} {i s c : Int} (hr : H r = none) (hS : Scr K H a (ns.map V.int)) (hl : ns.length ≤ 63) (hi : 0 ≤ i) (hc : 0 ≤ c) : RowAt K (upd H r (.lst (rowL a i s c))) r a ns :=
  ⟨i, s, c, upd_same, hi, hc, hS.mono fun b o u z => by rw [upd_ne (ne_of_none z hr)]; exact z, hl⟩
def spTaken (K : PySem.W.Frag) : Sp := fun vs H Q _ => ∃ (r a : Addr) (ns : List Int) (m : Int), vs = [.ref r, .int m] ∧ 0 < m ∧ m ≤ 10 ^ 41 ∧ RowAt K H r a ns ∧
  ∀ (v : Int) (H' : Hp), 0 ≤ v → v < m → RowAt K H' r a ns → But r H H' → Q (.int v) H'
theorem ok__law_taken (T : Tx P K mg) : FnOk P w K mg base CX0 lv__law_taken T.a__law_taken T.d__law_taken ["_law_row", "_law_many"] (spTaken K) := by
  refine T.F__law_taken.ok sc__law_taken (fun vs H Q E h => ?_) (fun cdv A outer s H vs Q E hr h => ?_)
  · obtain ⟨r, a, ns, m, rfl, _⟩ := h
    rfl
  · obtain ⟨r, a, ns, m, rfl, m0, m1, ⟨i, s, c, hR, i0, c0, hK, hlen⟩, k⟩ := h
    have hKB : ∀ H', But r H H' → Scr K H' a (ns.map V.int) := fun H' b => hK.mono fun c o u z => b c _ z (ne_of z hR (by intro y; cases y))
    have hdv : ∀ x : Int, CDivW x m := fun x => wide_div m0 (b := 140) (by omega) (by decide) (by decide)
    have back : ∀ (v : Int) (i' s' c' : Int) (H' : Hp), 0 ≤ v → v < m → 0 ≤ i' → 0 ≤ c' → H' r = some (.lst (rowL a i' s' c')) → But r H H' → Q (.int v) H' := fun v i' s' c' H' v0 v1 z1 z2 e b =>
      k v H' v0 v1 ⟨i', s', c', e, z1, z2, hKB _ b, hlen⟩ b
    refine ⟨_, (pss_cons (ps_if (pt_cmpR op_gt (pe_ix ix_list (pv 0) pe_int (fun _ _ => rfl)) pe_int (nomark _)) (pss_cons (ps_set (i := 2) sc__law_taken.nd rfl (Or.inl rfl) (pe_op op_modN (pe_callTy call_int1 (by rfl) T.n_int (by decide +kernel) (pa_cons (pe_ix ix_list (pv 0) pe_int (fun _ _ => rfl)) pa_nil)) (pv 1)))
      (pss_cons (ps_asg (pe_op op_fdivW (pe_ix ix_list (pv 0) pe_int (fun _ _ => rfl)) (pv 1)) (pg_sub (pv 0) pe_int set_list))
      (pss_one (ps_ret (pv 2))))) pss_nil)
      (pss_cons (ps_asg (pe_op op_add (pe_ix ix_list (pv 0) pe_int (fun _ _ => rfl)) pe_int) (pg_sub (pv 0) pe_int set_list))
      (pss_cons (ps_if (pt_cmpR op_gt (pe_ix ix_list (pv 0) pe_int (fun _ _ => rfl)) (pe_callB call_len_seq (by rfl) T.n_len (by decide +kernel) (pa_cons (pe_ix ix_list (pv 0) pe_int (fun _ _ => rfl)) pa_nil)) (nomark _)) (pss_cons (ps_asg (pe_op op_modN (pe_callTy call_int1 (by rfl) T.n_int (by decide +kernel) (pa_cons (pe_op op_add (pe_op op_mul (pe_ix ix_list (pv 0) pe_int (fun _ _ => rfl)) pe_int) pe_int) pa_nil)) pe_int) (pg_sub (pv 0) pe_int set_list))
      (pss_one (ps_ret (pe_op op_modN (pe_callTy call_int1 (by rfl) T.n_int (by decide +kernel) (pa_cons (pe_op op_fdivW (pe_ix ix_list (pv 0) pe_int (fun _ _ => rfl)) pe_int) pa_nil)) (pv 1))))) pss_nil)
      (pss_cons (ps_set (i := 3) sc__law_taken.nd rfl (Or.inl rfl) (pe_ix ix_list (pe_ix ix_list (pv 0) pe_int (fun _ _ => rfl)) (pe_op op_sub (pe_ix ix_list (pv 0) pe_int (fun _ _ => rfl)) pe_int) (fun _ _ => rfl)))
      (pss_cons (ps_asg (pe_op op_modN (pe_callTy call_int1 (by rfl) T.n_int (by decide +kernel) (pa_cons (pe_op op_add (pe_op op_add (pe_op op_mul (pe_ix ix_list (pv 0) pe_int (fun _ _ => rfl)) pe_int) (pv 3)) pe_int) pa_nil)) pe_int) (pg_sub (pv 0) pe_int set_list))
      (pss_cons (ps_if (pt_cmpR op_ge (pv 3) (pe_op op_pow pe_int pe_int) (nomark _)) (pss_one (ps_asg (pe_op op_fdivW (pv 3) (pv 1)) (pg_sub (pv 0) pe_int set_list))) pss_nil)
      (pss_one (ps_ret (pe_op op_modN (pe_callTy call_int1 (by rfl) T.n_int (by decide +kernel) (pa_cons (pv 3) pa_nil)) (pv 1)))))))))), ?_⟩
    refine ⟨_, rfl, r, _, _, _, rfl, rfl, SqL.of hR, rfl, _, _, rfl, rfl, _, rfl, ?_⟩
    refine ite2 (fun g => ?_) (fun g => ?_)
    · -- a great cell's digits
      obtain ⟨v0, v1⟩ := fmod_bd c m0
      refine ⟨_, rfl, r, _, _, _, rfl, rfl, SqL.of hR, rfl, .inl ⟨_, rfl, _, rfl, _, _, rfl, rfl, by omega, ?_⟩⟩
      refine ⟨_, rfl, r, _, _, _, rfl, rfl, SqL.of hR, rfl, _, rfl, _, _, rfl, rfl, hdv c, _, rfl, r, _, _, _, rfl, rfl, hR, rfl, ?_⟩
      exact ⟨_, rfl, back _ i s (c / m) _ v0 v1 i0 (Int.ediv_nonneg c0 (by omega)) upd_same But.put⟩
    · refine ⟨_, rfl, r, _, _, _, rfl, rfl, SqL.of hR, rfl, _, _, rfl, rfl, _, rfl, r, _, _, _, rfl, rfl, hR, rfl, ?_⟩
      -- behind the script's end?
      have hR1 : upd H r (.lst (rowL a (i + 1) s c)) r = some (.lst (rowL a (i + 1) s c)) := upd_same
      have hB1 : But r H (upd H r (.lst (rowL a (i + 1) s c))) := But.put
      have hS1 : SqL K (upd H r (.lst (rowL a (i + 1) s c))) a (ns.map V.int) := (hKB _ hB1).seq
      refine ⟨_, rfl, r, _, _, _, rfl, rfl, SqL.of hR1, rfl, _, rfl, r, _, _, _, rfl, rfl, SqL.of hR1, rfl, a, _, rfl, .inl hS1, _, _, rfl, rfl, _, rfl, ?_⟩
      refine ite2 (fun g2 => ?_) (fun g2 => ?_)
      · refine ⟨_, rfl, r, _, _, _, rfl, rfl, SqL.of hR1, rfl, _, _, rfl, rfl, .inr ⟨by decide, by decide⟩, _, _, rfl, rfl, .inl ⟨_, rfl, _, _, rfl, rfl, (show (2147483647 : Int) ≠ 0 by decide), ?_⟩⟩
        refine ⟨_, rfl, r, _, _, _, rfl, rfl, hR1, rfl, ?_⟩
        refine ⟨_, rfl, r, _, _, _, rfl, rfl, SqL.of upd_same, rfl, _, _, rfl, rfl, wide_div (by decide) (b := 3) (by decide) (by decide) (by decide), .inl ⟨_, rfl, _, rfl, _, _, rfl, rfl, by omega, ?_⟩⟩
        obtain ⟨v0, v1⟩ := fmod_bd ((s * 48271 + 11).fmod 2147483647 / 7) m0
        exact back _ (i + 1) _ c _ v0 v1 (by omega) c0 upd_same (hB1.trans But.put)
      · have g3 : i + 1 ≤ (ns.length : Int) := by
          simp only [decide_eq_true_eq, List.length_map] at g2
          omega
        obtain ⟨z, hz⟩ : ∃ z, ns[i.toNat]? = some z := ⟨ns[i.toNat]'(by omega), List.getElem?_eq_getElem (by omega)⟩
        have hz1 : atI (ns.map V.int) (i + 1 - 1) = some (V.int z) := at_of (j := i.toNat) (by omega) (by rw [List.getElem?_map, hz]; rfl)
        refine ⟨_, rfl, r, _, _, _, rfl, rfl, SqL.of hR1, rfl, _, rfl, r, _, _, _, rfl, rfl, SqL.of hR1, rfl, _, _, rfl, rfl, a, _, _, _, rfl, rfl, hS1, hz1, ?_⟩
        refine ⟨_, rfl, r, _, _, _, rfl, rfl, SqL.of hR1, rfl, _, _, rfl, rfl, .inr ⟨by decide, by decide⟩, _, rfl, _, _, rfl, rfl, _, _, rfl, rfl, .inl ⟨_, rfl, _, _, rfl, rfl, (show (2147483647 : Int) ≠ 0 by decide), ?_⟩⟩
        refine ⟨_, rfl, r, _, _, _, rfl, rfl, hR1, rfl, ?_⟩
        have hR2 : upd (upd H r (.lst (rowL a (i + 1) s c))) r (.lst (rowL a (i + 1) ((s * 48271 + z + 11).fmod 2147483647) c)) r = some (.lst (rowL a (i + 1) ((s * 48271 + z + 11).fmod 2147483647) c)) := upd_same
        have hB2 : But r H (upd (upd H r (.lst (rowL a (i + 1) s c))) r (.lst (rowL a (i + 1) ((s * 48271 + z + 11).fmod 2147483647) c))) := hB1.trans But.put
        obtain ⟨v0, v1⟩ := fmod_bd z m0
        refine ⟨_, rfl, _, _, rfl, rfl, ⟨by decide, by decide, by decide⟩, _, _, rfl, rfl, _, rfl, ?_⟩
        refine ite2 (fun g4 => ?_) (fun g4 => ?_)
        · refine ⟨_, rfl, _, rfl, _, _, rfl, rfl, hdv z, _, rfl, r, _, _, _, rfl, rfl, hR2, rfl, ?_⟩
          have z0 : 0 ≤ z := by
            have g5 : (10 : Int) ^ 18 ≤ z := by simpa using g4
            exact Int.le_trans (by decide) g5
          refine ⟨_, rfl, .inl ⟨_, rfl, _, rfl, _, _, rfl, rfl, by omega, ?_⟩⟩
          exact back _ (i + 1) _ (z / m) _ v0 v1 (by omega) (Int.ediv_nonneg z0 (by omega)) upd_same (hB2.trans But.put)
        · refine ⟨_, rfl, .inl ⟨_, rfl, _, rfl, _, _, rfl, rfl, by omega, ?_⟩⟩
          exact back _ (i + 1) _ c _ v0 v1 (by omega) c0 hR2 hB2

/-! ### a menu: an item of a written list at a drawn place -/
theorem RowAt.new {H : Hp} {r a p : Addr} {ns : List Int} {o : HO} (h : RowAt K H r a ns) (hp : H p = none) : RowAt K (upd H p o) r a ns := h.same (same_upd hp)
theorem RowAt.ne {H : Hp} {r a p : Addr} {ns : List Int} (h : RowAt K H r a ns) (hp : H p = none) : p ≠ r :=
  let ⟨_, _, _, h1, _⟩ := h
  (ne_of_none h1 hp).symm
theorem But.new {H H1 : Hp} {r p : Addr} {o : HO} (b : But r H H1) (hp : H1 p = none) : But r H (upd H1 p o) := b.trans (Same.but (same_upd hp))
theorem But.free {H H1 : Hp} {r p : Addr} (b : But r H H1) (n : p ≠ r) (hp : H1 p = none) : H p = none := by
  cases q : H p with
  | none => rfl
  | some o =>
    rw [b p o q n] at hp
    cases hp
/-- an item of the list laid at p, at a place that is drawn -/
theorem menu {H1 : Hp} {r a p : Addr} {ns items : List Int} {m : Int} (Pr : Int → Prop) (hP : ∀ z ∈ items, Pr z) (hl : (items.length : Int) = m) (R1 : RowAt K H1 r a ns) (hp : H1 p = none) {Q : VK}
    (k : ∀ (z : Int) (H2 : Hp), Pr z → RowAt K H2 r a ns → But r H1 H2 → H2 p = some (.lst (items.map V.int)) → Q (.int z) H2) (h0 : 0 < m) (h1 : m ≤ 10 ^ 41) :
    spTaken K ([.ref r, .int m] ++ []) (upd H1 p (.lst (items.map V.int))) (fun y H2 => rIxL K (.ref p) y H2 Q) E0 := by
  refine ⟨r, a, ns, m, rfl, h0, h1, R1.new hp, fun w H2 w0 w1 R2 B2 => ?_⟩
  obtain ⟨z, hz, he⟩ := at_some Pr hP w0 (by omega)
  have npr := R1.ne hp
  exact ⟨p, _, _, _, rfl, rfl, SqL.of (B2 _ _ upd_same npr), he, k z H2 hz R2 ((Same.but (same_upd hp)).trans B2) (B2 _ _ upd_same npr)⟩
theorem at_someV (Pr : V → Prop) {xs : List V} (h : ∀ z ∈ xs, Pr z) {i : Int} (h0 : 0 ≤ i) (h1 : i < xs.length) : ∃ z, Pr z ∧ atI xs i = some z := by
  obtain ⟨z, hz⟩ : ∃ z, xs[i.toNat]? = some z := ⟨xs[i.toNat]'(by omega), List.getElem?_eq_getElem (by omega)⟩
  exact ⟨z, h z (List.mem_of_getElem? hz), at_of (j := i.toNat) (by omega) hz⟩
theorem menuV {H1 : Hp} {r a p : Addr} {ns : List Int} {items : List V} {m : Int} (Pr : V → Prop) (hP : ∀ z ∈ items, Pr z) (hl : (items.length : Int) = m) (R1 : RowAt K H1 r a ns) (hp : H1 p = none) {Q : VK}
    (k : ∀ (z : V) (H2 : Hp), Pr z → RowAt K H2 r a ns → But r H1 H2 → H2 p = some (.lst items) → Q z H2) (h0 : 0 < m) (h1 : m ≤ 10 ^ 41) :
    spTaken K ([.ref r, .int m] ++ []) (upd H1 p (.lst items)) (fun y H2 => rIxL K (.ref p) y H2 Q) E0 := by
  refine ⟨r, a, ns, m, rfl, h0, h1, R1.new hp, fun w H2 w0 w1 R2 B2 => ?_⟩
  obtain ⟨z, hz, he⟩ := at_someV Pr hP w0 (by omega)
  have npr := R1.ne hp
  exact ⟨p, _, _, _, rfl, rfl, SqL.of (B2 _ _ upd_same npr), he, k z H2 hz R2 ((Same.but (same_upd hp)).trans B2) (B2 _ _ upd_same npr)⟩
/-- a plain value: None, a bool, an int, a text -/
def flatA : V → Bool
  | .non => true | .bl _ => true | .int _ => true | .str _ => true | _ => false
theorem any_flat {T : Addr → Prop} {H : Hp} {v : V} (h : flatA v = true) : AnyV T H v := by
  cases v with
  | non => exact .non
  | bl b => exact .bl b
  | int i => exact .int i
  | str x => exact .str x
  | _ => cases h

/-! ### a drawn number -/
def spNumber (K : PySem.W.Frag) : Sp := fun vs H Q _ => ∃ (r a : Addr) (ns : List Int), vs = [.ref r] ∧ RowAt K H r a ns ∧ ∀ (v : Int) (H' : Hp), -(10 ^ 40) ≤ v → v ≤ 10 ^ 40 → RowAt K H' r a ns → But r H H' → Q (.int v) H'
theorem ok__law_number (T : Tx P K mg) : FnOk P w K mg base CX0 lv__law_number T.a__law_number T.d__law_number ["_law_row"] (spNumber K) := by
  refine T.F__law_number.ok sc__law_number (fun vs H Q E h => ?_) (fun cdv A outer s H vs Q E hr h => ?_)
  · obtain ⟨r, a, ns, rfl, _⟩ := h
    rfl
  · obtain ⟨r, a, ns, rfl, R0, k⟩ := h
    refine ⟨_, (Evl.pss_cut (ps_set (i := 1) sc__law_number.nd rfl (Or.inl rfl) (pe_ix ix_list (pe_lst (pa_cons pe_int (pa_cons pe_int (pa_cons (pe_op op_pow pe_int pe_int) (pa_cons (pe_op op_pow pe_int pe_int) pa_nil))))) (pe_call (ok__law_taken T) (hr.mono (by decide)) rfl T.g__law_taken T.F__law_taken.kp T.b__law_taken .nil pass0 (pa_cons (pv 0) (pa_cons pe_int pa_nil))) (fun _ _ => rfl)))
      (Evl.pss_cut (ps_set (i := 2) sc__law_number.nd rfl (Or.inl rfl) (pe_ifExp (pt_cmpR op_gt (pe_call (ok__law_taken T) (hr.mono (by decide)) rfl T.g__law_taken T.F__law_taken.kp T.b__law_taken .nil pass0 (pa_cons (pv 0) (pa_cons pe_int pa_nil))) pe_int (nomark _)) (pe_call (ok__law_taken T) (hr.mono (by decide)) rfl T.g__law_taken T.F__law_taken.kp T.b__law_taken .nil pass0 (pa_cons (pv 0) (pa_cons (pe_op op_add (pv 1) pe_int) pa_nil))) (pv 1)))
      (pss_one (ps_ret (pe_ifExp (pt_cmpR op_gt (pe_call (ok__law_taken T) (hr.mono (by decide)) rfl T.g__law_taken T.F__law_taken.kp T.b__law_taken .nil pass0 (pa_cons (pv 0) (pa_cons pe_int pa_nil))) pe_int (nomark _)) (pv 2) (pe_un un_neg (pv 2))))))), ?_⟩
    refine ⟨fun σ H1 => ∃ z : Int, 1 ≤ z ∧ z ≤ 10 ^ 40 ∧ RowAt K H1 r a ns ∧ But r H H1 ∧ σ = [some (.ref r), some (.int z), none], ?_, ?_⟩
    · refine ⟨_, _, rfl, rfl, ⟨by decide, by decide, by decide⟩, _, _, rfl, rfl, ⟨by decide, by decide, by decide⟩, by show 4 ≤ sizeLine; decide, fun p hp => ?_⟩
      refine ⟨_, rfl, menu (items := [9, 200, 10 ^ (6 : Int).toNat, 10 ^ (40 : Int).toNat]) (fun z => 1 ≤ z ∧ z ≤ 10 ^ 40) ?_ rfl R0 hp (fun z H2 hz R2 B2 _ => ?_) (by show (0 : Int) < 4; decide) (by show (4 : Int) ≤ 10 ^ 41; decide)⟩
      · intro z hz
        rcases List.mem_cons.mp hz with rfl | hz
        · decide
        rcases List.mem_cons.mp hz with rfl | hz
        · decide
        rcases List.mem_cons.mp hz with rfl | hz
        · decide
        rcases List.mem_cons.mp hz with rfl | hz
        · decide
        · cases hz
      · exact ⟨z, hz.1, hz.2, R2, B2, rfl⟩
    rintro σ H1 ⟨z, z1, z2, R1, B1, rfl⟩
    refine ⟨fun σ H2 => ∃ n : Int, 0 ≤ n ∧ n ≤ 10 ^ 40 ∧ RowAt K H2 r a ns ∧ But r H H2 ∧ σ = [some (.ref r), some (.int z), some (.int n)], ?_, ?_⟩
    · refine ⟨_, rfl, r, a, ns, _, rfl, by decide, by decide, R1, fun v H2 v0 v1 R2 B2 => ?_⟩
      refine ⟨_, _, rfl, rfl, _, rfl, ?_⟩
      refine ite2 (fun g => ?_) (fun g => ?_)
      · refine ⟨_, rfl, _, rfl, _, _, rfl, rfl, r, a, ns, _, rfl, by omega, by omega, R2, fun n H3 n0 n1 R3 B3 => ?_⟩
        exact ⟨n, n0, by omega, R3, B1.trans (B2.trans B3), rfl⟩
      · exact ⟨_, rfl, z, by omega, z2, R2, B1.trans B2, rfl⟩
    clear R1 B1
    rintro σ H1 ⟨n, n0, n1, R1, B1, rfl⟩
    refine ⟨_, rfl, r, a, ns, _, rfl, by decide, by decide, R1, fun v H2 v0 v1 R2 B2 => ?_⟩
    refine ⟨_, _, rfl, rfl, _, rfl, ?_⟩
    refine ite2 (fun g => ?_) (fun g => ?_)
    · exact ⟨_, rfl, k n H2 (by omega) n1 R2 (B1.trans B2)⟩
    · exact ⟨_, rfl, _, rfl, k (-n) H2 (by omega) (by omega) R2 (B1.trans B2)⟩

/-! ### tuple * int, none or one of it too -/
end
end Rt
namespace L2
open PySem PySem.Spec PyProof.Rows
theorem mul_one (l : Addr) (xs : Array Value) (n : Nat) (dd : Option Addr) (sl : Array (Option Value)) (u : Tok) :
    Meets (Builtin.«tuple.__mul__» ⟨[.ref l, .int 1 u], []⟩) (fun _ R s => s.heap.get? l = some ⟨.type "tuple", dd, .seq xs n, sl⟩ ∧ R (.ok (.ret (.ref l))) s) := by
  refine Meets.of_wp fun P w A R s hyp => ?_
  obtain ⟨hp, g, d, tk, os⟩ := s
  obtain ⟨at0, fin⟩ := hyp
  have ix := AutoSeq1.idx_int
  have b0 : (decide ((1 : Int) < -(2 ^ 63)) || decide ((1 : Int) ≥ 2 ^ 63)) = false := by decide
  have b1 : (xs.isEmpty || (1 : Int) == 1) = true := by rw [Bool.or_eq_true]; exact .inr (by decide)
  wp_walk using wpAny_loadPart' at0
  repeat (first
    | (refine wpAny_ite_false (decide_eq_false (by rw [b0]; decide)) ?_; wp_walk using wpAny_loadPart' at0)
    | (refine wpAny_ite_true (decide_eq_true b1) ?_; wp_walk using wpAny_loadPart' at0))
  exact ⟨_, rfl, fin⟩
theorem mul_none (l : Addr) (xs : Array Value) (n : Nat) (dd : Option Addr) (sl : Array (Option Value)) (u : Tok) (ne : xs.isEmpty = false) :
    Meets (Builtin.«tuple.__mul__» ⟨[.ref l, .int 0 u], []⟩) (fun _ R s => s.heap.get? l = some ⟨.type "tuple", dd, .seq xs n, sl⟩ ∧ R (.ok (.ret (.ref s.heap.objs.size))) { s with heap := s.heap.push ⟨.type "tuple", none, .seq #[], #[]⟩ }) := by
  refine Meets.of_wp fun P w A R s hyp => ?_
  obtain ⟨hp, g, d, tk, os⟩ := s
  obtain ⟨at0, fin⟩ := hyp
  have ix := AutoSeq1.idx_int
  have b0 : (decide ((0 : Int) < -(2 ^ 63)) || decide ((0 : Int) ≥ 2 ^ 63)) = false := by decide
  have b1 : (xs.isEmpty || (0 : Int) == 1) = false := by rw [ne]; decide
  have b2 : (decide ((0 : Int) ≤ 0) || xs.isEmpty) = true := by rw [Bool.or_eq_true]; exact .inl (by decide)
  wp_walk using wpAny_loadPart' at0
  repeat (first
    | (refine wpAny_ite_false (decide_eq_false (by rw [b0]; decide)) ?_; wp_walk using wpAny_loadPart' at0)
    | (refine wpAny_ite_false (decide_eq_false (by rw [b1]; decide)) ?_; wp_walk using wpAny_loadPart' at0)
    | (refine wpAny_ite_true (decide_eq_true b2) ?_; wp_walk using wpAny_loadPart' at0))
  exact ⟨_, rfl, fin⟩
def rRepA (K : PySem.W.Frag) : R2 := fun x y H Q => ∃ l k xs, x = .ref l ∧ y = .int k ∧ SqT K H l xs ∧ xs ≠ [] ∧ 0 ≤ k ∧ k ≤ 1000 ∧ xs.length ≤ 1000 ∧
  (k = 1 → Q (.ref l) H) ∧ (k ≠ 1 → ∀ p, H p = none → Q (.ref p) (upd H p (.tup (List.replicate k.toNat xs).flatten)))
theorem op_repA {X : Cx} : OpR X (binaryOp .Mult) (rRepA X.K) := by
  intro pins s σ H x y v u Q I rx ry wish
  obtain ⟨l, k, xs, rfl, rfl, sq, ne, k0, k1, hz, q1, q2⟩ := wish
  by_cases big : 2 ≤ k
  · exact op_repT pins s σ H _ _ v u Q I rx ry ⟨l, k, xs, rfl, rfl, sq, ne, big, k1, hz, q2 (by omega)⟩
  obtain rfl : v = Value.ref l := rx
  obtain ⟨tk, rfl⟩ := ry
  obtain ⟨its, vals, ⟨⟨c, dd, dt, sl⟩, at0, ec, n, ed⟩, _⟩ := I.tuple sq
  simp only at ec ed
  subst ec ed
  have ni : its.toArray.isEmpty = false := by
    cases its with
    | nil => cases vals; exact absurd rfl ne
    | cons a b => rfl
  by_cases one : k = 1
  · subst one
    refine wpAny_binaryOp_repeat_ref (T := "tuple") (U := "int") (by decide) ⟨_, at0, rfl⟩ (fun s2 => typeIs_int s2 _ tk) noFill_tuple_mul F.fills_int_mul F.slot_int_rmul repeat_tuple F.slot_int_index.lookup ?_
    refine call_meets F.slot_int_rmul (typeIs_int s _ tk) F.entry_int_rmul (F.args_int_rmul_2 _ _) (int_rmul_tuple _ tk l its.toArray n dd sl) ⟨at0, rfl, ⟨_, at0, rfl⟩, ?_⟩
    exact call_meets F.slot_tuple_mul ⟨_, at0, rfl⟩ F.entry_tuple_mul (F.args_tuple_mul_2 _ _) (mul_one l its.toArray n dd sl tk) ⟨at0, ⟨.ref l, H, I, rfl, q1 rfl⟩⟩
  · obtain rfl : k = 0 := by omega
    refine wpAny_binaryOp_repeat_ref (T := "tuple") (U := "int") (by decide) ⟨_, at0, rfl⟩ (fun s2 => typeIs_int s2 _ tk) noFill_tuple_mul F.fills_int_mul F.slot_int_rmul repeat_tuple F.slot_int_index.lookup ?_
    refine call_meets F.slot_int_rmul (typeIs_int s _ tk) F.entry_int_rmul (F.args_int_rmul_2 _ _) (int_rmul_tuple _ tk l its.toArray n dd sl) ⟨at0, rfl, ⟨_, at0, rfl⟩, ?_⟩
    refine call_meets F.slot_tuple_mul ⟨_, at0, rfl⟩ F.entry_tuple_mul (F.args_tuple_mul_2 _ _) (mul_none l its.toArray n dd sl tk ni) ⟨at0, ?_⟩
    refine ⟨.ref s.heap.objs.size, _, I.laid (t' := s.toks) (o := .tup []) (fun b ob q => Heap.get?_push_of_some _ q) (Nat.le_refl _) ?_, rfl, q2 (by decide) _ (I.hok.fresh (Nat.le_refl _))⟩
    exact ⟨Nat.zero_le _, [], .nil, IsTup.new _ _⟩
end L2
namespace Rt
open PySem L2 PySem.Spec PyProof.Rows
section
variable {P : Program} {w : World} {K : PySem.W.Frag} {mg : Str → Option Value} {base : Heap}

/-! ### figures that are some -/
theorem lows_lt {b : Nat} (hb : 2 ≤ b) : ∀ (j n : Nat), n < 2 ^ j → (lows b n).length ≤ j + 1 ∧ 1 ≤ (lows b n).length ∧ (∀ d ∈ lows b n, d < b)
  | 0, n, h => by
    have e : n = 0 := by omega
    subst e
    rw [lows_one (Nat.zero_div b)]
    exact ⟨Nat.le_refl _, Nat.le_refl _, fun d hd => by rw [List.mem_singleton.mp hd]; exact Nat.mod_lt _ (by omega)⟩
  | j + 1, n, h => by
    by_cases z : n / b = 0
    · rw [lows_one z]
      exact ⟨by show 1 ≤ _; omega, Nat.le_refl _, fun d hd => by rw [List.mem_singleton.mp hd]; exact Nat.mod_lt _ (by omega)⟩
    · rw [lows_more hb z]
      have h2 : n / b < 2 ^ j := by
        have h3 := half_le hb n
        rw [Nat.pow_succ] at h
        omega
      obtain ⟨a1, a2, a3⟩ := lows_lt hb j (n / b) h2
      refine ⟨by rw [List.length_cons]; omega, by rw [List.length_cons]; omega, fun d hd => ?_⟩
      rcases List.mem_cons.mp hd with q | q
      · rw [q]
        exact Nat.mod_lt _ (by omega)
      · exact a3 d q
theorem valOf_low {b : Nat} (hb : 2 ≤ b) : ∀ (k n : Nat), n ≤ k → valOf (b : Int) (lowV b n).reverse = (n : Int) := by
  intro k
  induction k with
  | zero =>
    intro n h
    have e : n = 0 := by omega
    subst e
    unfold lowV
    rw [lows_one (Nat.zero_div b)]
    simp [valOf, digV]
  | succ k ih =>
    intro n h
    by_cases z : n / b = 0
    · unfold lowV
      rw [lows_one z]
      have e : n % b = n := Nat.mod_eq_of_lt (by rcases Nat.lt_or_ge n b with q | q; exact q; have := Nat.div_pos q (by omega); omega)
      simp [valOf, digV, e]
    · unfold lowV
      rw [lows_more hb z, List.map_cons, List.reverse_cons, valOf_snoc]
      have h2 : n / b ≤ k := by
        have h3 := half_le hb n
        omega
      have e := ih (n / b) h2
      unfold lowV at e
      rw [e]
      show ((n / b : Nat) : Int) * (b : Int) + ((n % b : Nat) : Int) = (n : Int)
      rw [← Int.natCast_mul, ← Int.natCast_add, Nat.mul_comm, Nat.div_add_mod]
/-- ints that are figures: nothing is refused -/
theorem figs_ok {T : Tx P K mg} {H : Hp} {p : Addr} {b : Int} {fs : List Int} {good : Addr → List V → Hp → Prop} {bad : V → Hp → Prop} (e : H p = some (.tup (fs.map V.int))) (l1 : 1 ≤ fs.length) (l2 : fs.length ≤ 150) (hf : ∀ f ∈ fs, 0 ≤ f ∧ f ≤ b - 1) (hg : ∀ H2, Same H H2 → good p (fs.map V.int) H2) :
    FigWish T (.ref p) b H good bad := by
  have uq : ∀ {c : Addr} {ys : List V}, V.ref p = .ref c → H c = some (.tup ys) → ys = fs.map V.int := fun e1 e2 => by
    cases e1
    rw [e] at e2
    cases e2
    all_goals rfl
  refine ⟨.tup e, fun n => (n ⟨p, _, rfl, e⟩).elim, fun c ys e1 e2 y hy => ?_, fun c ys e1 e2 n => ?_, fun c ys e1 e2 _ _ i y hy fg g => ?_, fun c ys e1 e2 _ _ fg H3 S3 => ?_⟩
  · rw [uq e1 e2] at hy
    obtain ⟨f, _, rfl⟩ := List.mem_map.mp hy
    exact .int f
  · exact (n (by rw [uq e1 e2, List.length_map]; exact ⟨l1, l2⟩)).elim
  · rw [uq e1 e2, List.getElem?_map] at hy
    cases e3 : fs[i]? with
    | none => rw [e3] at hy; cases hy
    | some f =>
      rw [e3] at hy
      cases hy
      have := hf f (List.mem_of_getElem? e3)
      rw [intIn_of this.1 this.2] at g
      cases g
  · rw [uq e1 e2]
    cases e1
    exact hg H3 S3
theorem shaped_tints (ns : List Int) : SeqAt.shaped (.tuple (ns.map PyData.int)) = true := by
  have h := shaped_lints ns
  unfold SeqAt.shaped at h ⊢
  simpa [PyData.canLay0, PyData.depth] using h

/-! ### tuples put together, whichever object it is -/
theorem flat_rep (n : Nat) : (List.replicate n [V.int 0]).flatten = (List.replicate n (0 : Int)).map V.int := by
  induction n with
  | zero => rfl
  | succ n ih =>
    rw [List.replicate_succ, List.replicate_succ, List.flatten_cons, List.map_cons, ih]
    rfl
theorem repA_fin {H2 : Hp} {p1 r a : Addr} {ns : List Int} {v : Int} {G : Addr → Hp → Prop} (h1 : H2 p1 = some (.tup [.int 0])) (v0 : 0 ≤ v) (v4 : v ≤ 4) (R2 : RowAt K H2 r a ns) (n1 : p1 ≠ r)
    (key : ∀ (c : Addr) (H3 : Hp) (zs : List Int), H3 c = some (.tup (zs.map V.int)) → zs.length ≤ 4 → (∀ f ∈ zs, f = 0) → c ≠ r → RowAt K H3 r a ns → G c H3) :
    (v = 1 → G p1 H2) ∧ (v ≠ 1 → ∀ p, H2 p = none → G p (upd H2 p (.tup (List.replicate v.toNat [V.int 0]).flatten))) := by
  refine ⟨fun _ => key p1 H2 [0] h1 (by decide) (fun f hf => List.mem_singleton.mp hf) n1 R2, fun _ p hp => ?_⟩
  rw [flat_rep]
  exact key p _ (List.replicate v.toNat 0) upd_same (by rw [List.length_replicate]; omega) (fun f hf => (List.mem_replicate.mp hf).2) (R2.ne hp) (R2.new hp)
theorem catA_fin {H : Hp} {p1 p2 r a : Addr} {ns xs ys : List Int} {G : Addr → Hp → Prop} (h1 : H p1 = some (.tup (xs.map V.int))) (h2 : H p2 = some (.tup (ys.map V.int))) (R : RowAt K H r a ns) (n1 : p1 ≠ r) (n2 : p2 ≠ r)
    (key : ∀ (c : Addr) (H3 : Hp), H3 c = some (.tup ((xs ++ ys).map V.int)) → c ≠ r → RowAt K H3 r a ns → G c H3) :
    (xs.map V.int = [] → G p2 H) ∧ (xs.map V.int ≠ [] → ys.map V.int = [] → G p1 H) ∧ (xs.map V.int ≠ [] → ys.map V.int ≠ [] → ∀ p, H p = none → G p (upd H p (.tup (xs.map V.int ++ ys.map V.int)))) := by
  refine ⟨fun e => key p2 H ?_ n2 R, fun _ e => key p1 H ?_ n1 R, fun _ _ p hp => key p _ ?_ (R.ne hp) (R.new hp)⟩
  · rw [List.map_append, e]
    exact h2
  · rw [List.map_append, e, List.append_nil]
    exact h1
  · rw [List.map_append]
    exact upd_same

/-! ### the law -/
def sp_law (K : PySem.W.Frag) : Sp := fun vs H Q _ => ∃ (a : Addr) (ns : List Int), vs = [.ref a] ∧ Scr K H a (ns.map V.int) ∧ ns.length ≤ 63 ∧ ∀ H', Q (.bl true) H'
theorem ok_law (T : Tx P K mg) : FnOk P w K mg base CX0 lv_law T.a_law T.d_law ["_law_script"] (sp_law K) := by
  refine T.F_law.ok sc_law (fun vs H Q E h => ?_) (fun cdv A outer s H vs Q E hr h => ?_)
  · obtain ⟨a, ns, rfl, _⟩ := h
    rfl
  · obtain ⟨a, ns, rfl, hS, hlen, k⟩ := h
    refine ⟨_, (Evl.pss_cut (ps_set (i := 1) sc_law.nd rfl (Or.inr rfl) (pe_lst (pa_cons (pv 0) (pa_cons pe_int (pa_cons pe_int (pa_cons pe_int pa_nil))))))
      (pss_cons (ps_for PassesOwn.never rfl (pi_range1 (by rfl) T.n_range (pa_cons pe_int pa_nil)) (pg_name (i := 2) sc_law.nd rfl (Or.inl rfl)) (Evl.pss_cut (ps_asg (pe_tup (pa_cons (pe_op op_add pe_int (pe_call (ok__law_taken T) (hr.mono (by decide)) rfl T.g__law_taken T.F__law_taken.kp T.b__law_taken .nil pass0 (pa_cons (pv 1) (pa_cons pe_int pa_nil)))) (pa_cons (pe_callB call_abs (by rfl) T.n_abs (by decide +kernel) (pa_cons (pe_call (ok__law_number T) (hr.mono (by decide)) rfl T.g__law_number T.F__law_number.kp T.b__law_number .nil pass0 (pa_cons (pv 1) pa_nil)) pa_nil)) pa_nil))) (pg_tup rfl (pgs_cons (pg_name (i := 3) sc_law.nd rfl (Or.inr rfl)) (pgs_cons (pg_name (i := 4) sc_law.nd rfl (Or.inl rfl)) pgs_nil))))
      (Evl.pss_cut (ps_set (i := 5) sc_law.nd rfl (Or.inl rfl) (pe_call (ok_figures T) (hr.mono (by decide)) rfl T.g_figures T.F_figures.kp T.b_figures .nil passL (pa_cons (pv 4) (pa_cons (pv 3) pa_nil))))
      (Evl.pss_cut (ps_if (PW.pt (pw_or (pt_cmpR (op_neD hr.units) (pv 5) (pe_call (ok__law_figures T) (hr.mono (by decide)) rfl T.g__law_figures T.F__law_figures.kp T.b__law_figures .nil pass0 (pa_cons (pv 4) (pa_cons (pv 3) pa_nil))) (nomark _)) (pw_or1 (pt_cmpR op_ne (pe_call (ok_number T) (hr.mono (by decide)) rfl T.g_number T.F_number.kp T.b_number .nil passL (pa_cons (pv 5) (pa_cons (pv 3) pa_nil))) (pv 4) (nomark _))))) (pss_one (ps_ret pe_bl)) pss_nil)
      (Evl.pss_cut (ps_set (i := 6) sc_law.nd rfl (Or.inl rfl) (pe_op op_catA (pe_op op_repA (pe_tup (pa_cons pe_int pa_nil)) (pe_call (ok__law_taken T) (hr.mono (by decide)) rfl T.g__law_taken T.F__law_taken.kp T.b__law_taken .nil pass0 (pa_cons (pv 1) (pa_cons pe_int pa_nil)))) (pe_callTy call_tuple_of (by rfl) T.n_tuple (by decide +kernel) (pa_cons (pe_lc (own := [("_law_k", 9)]) (g := gName 9) (tt := tYes) rfl sc_law.nd (pi_range1 (by rfl) T.n_range (pa_cons (pe_op op_add pe_int (pe_call (ok__law_taken T) (hr.mono (by decide)) rfl T.g__law_taken T.F__law_taken.kp T.b__law_taken .nil pass0 (pa_cons (pv 1) (pa_cons pe_int pa_nil)))) pa_nil)) (blkOk_by (own := [("_law_k", 9)]) (N := ["_law_script", "_law_row", "_law_turn", "_law_base", "_law_n", "_law_told", "_law_more", "_law_due", "_law_figure", "_law_k"]) (sc := defScope s_law) (by decide +kernel)) (fun _ _ _ _ _ => pg_name (i := 9) sc_law.nd rfl (Or.inl rfl)) (fun _ _ _ _ _ => pts_nil) (fun _ _ _ _ _ => (pe_call (ok__law_taken T) (hr.mono (by decide)) rfl T.g__law_taken T.F__law_taken.kp T.b__law_taken .nil pass0 (pa_cons (pv 1) (pa_cons (pv 3) pa_nil))))) pa_nil))))
      (Evl.pss_cut (ps_if (pt_cmpR op_eq (pe_call (ok__law_taken T) (hr.mono (by decide)) rfl T.g__law_taken T.F__law_taken.kp T.b__law_taken .nil pass0 (pa_cons (pv 1) (pa_cons pe_int pa_nil))) pe_int (nomark _)) (pss_one (ps_set (i := 6) sc_law.nd rfl (Or.inl rfl) (pe_op op_catA (pv 6) (pe_callTy call_tuple_of (by rfl) T.n_tuple (by decide +kernel) (pa_cons (pe_lc (own := [("_law_k", 9)]) (g := gName 9) (tt := tYes) rfl sc_law.nd (pi_range1 (by rfl) T.n_range (pa_cons (pe_op op_sub pe_int (pe_callB call_len_seq (by rfl) T.n_len (by decide +kernel) (pa_cons (pv 6) pa_nil))) pa_nil)) (blkOk_by (own := [("_law_k", 9)]) (N := ["_law_script", "_law_row", "_law_turn", "_law_base", "_law_n", "_law_told", "_law_more", "_law_due", "_law_figure", "_law_k"]) (sc := defScope s_law) (by decide +kernel)) (fun _ _ _ _ _ => pg_name (i := 9) sc_law.nd rfl (Or.inl rfl)) (fun _ _ _ _ _ => pts_nil) (fun _ _ _ _ _ => (pe_call (ok__law_taken T) (hr.mono (by decide)) rfl T.g__law_taken T.F__law_taken.kp T.b__law_taken .nil pass0 (pa_cons (pv 1) (pa_cons (pv 3) pa_nil))))) pa_nil))))) pss_nil)
      (Evl.pss_cut (ps_set (i := 7) sc_law.nd rfl (Or.inl rfl) pe_int)
      (Evl.pss_cut (ps_for PassesOwn.never rfl (pi_tup (pv 6)) (pg_name (i := 8) sc_law.nd rfl (Or.inl rfl)) (pss_one (ps_set (i := 7) sc_law.nd rfl (Or.inl rfl) (pe_op op_add (pe_op op_mul (pv 7) (pv 3)) (pv 8)))))
      (pss_one (ps_if (pt_cmpR op_ne (pe_call (ok_number T) (hr.mono (by decide)) rfl T.g_number T.F_number.kp T.b_number .nil passL (pa_cons (pv 6) (pa_cons (pv 3) pa_nil))) (pv 7) (nomark _)) (pss_one (ps_ret pe_bl)) pss_nil))))))))))
      (pss_one (ps_ret pe_bl)))), ?_⟩
    refine ⟨fun σ H1 => ∃ r, RowAt K H1 r a ns ∧ σ = [some (.ref a), some (.ref r), none, none, none, none, none, none, none, none], ?_, ?_⟩
    · exact ⟨_, rfl, by show 4 ≤ sizeLine; decide, fun r hr0 => ⟨r, RowAt.start hr0 hS hlen (by decide) (by decide), rfl⟩⟩
    clear hS
    rintro σ H1 ⟨r, R1, rfl⟩
    refine ⟨6, rfl, by decide, by decide, ?_⟩
    refine for_range (lo := 0) (n := 6) (fun _ σ H2 => ∃ x2 x3 x4 x5 x6 x7 x8 x9 : Option V, RowAt K H2 r a ns ∧ σ = [some (.ref a), some (.ref r), x2, x3, x4, x5, x6, x7, x8, x9]) ⟨none, none, none, none, none, none, none, none, R1, rfl⟩ ?_ (fun σ H2 _ => k _)
    clear R1
    rintro turn σ H1 hi ⟨x2, x3, x4, x5, x6, x7, x8, x9, R1, rfl⟩
    -- base and number
    refine ⟨fun σ H2 => ∃ b n : Nat, 2 ≤ b ∧ b ≤ 16 ∧ n ≤ 10 ^ 40 ∧ RowAt K H2 r a ns ∧ σ = [some (.ref a), some (.ref r), some (.int (0 + (turn : Int))), some (.int (b : Int)), some (.int (n : Int)), x5, x6, x7, x8, x9], ?_, ?_⟩
    · refine ⟨_, rfl, r, a, ns, _, rfl, by decide, by decide, R1, fun v H2 v0 v1 R2 B2 => ?_⟩
      refine ⟨_, _, rfl, rfl, _, rfl, r, a, ns, rfl, R2, fun m H3 m1 m2 R3 B3 => ?_⟩
      refine ⟨m, rfl, by show 2 ≤ sizeLine; decide, fun z hz => ⟨z, _, rfl, SqT.of upd_same, rfl, _, _, rfl, _, _, rfl, rfl, (2 + v).toNat, m.natAbs, by omega, by omega, by omega, R3.new hz, ?_⟩⟩
      have e1 : (((2 + v).toNat : Nat) : Int) = 2 + v := by omega
      have e2 : ((m.natAbs : Nat) : Int) = if m < 0 then -m else m := by
        by_cases c : m < 0
        · rw [if_pos c]; omega
        · rw [if_neg c]; omega
      rw [e1, e2]
      rfl
    clear R1
    rintro σ H1 ⟨b, n, b1, b2, n2, R1, rfl⟩
    have ib : intIn (.int (b : Int)) 2 16 = true := intIn_of (by omega) (by omega)
    have inn : intIn (.int (n : Int)) 0 (10 ^ 40) = true := intIn_of (by omega) (by omega)
    have no : ∀ {v : V} {lo hi : Int} {G : Prop}, intIn v lo hi = true → intIn v lo hi = false → G := fun p q => Bool.noConfusion (p.symm.trans q)
    -- its figures
    refine ⟨fun σ H2 => ∃ p : Addr, RowAt K H2 r a ns ∧ H2 p = some (.tup (lowV b n).reverse) ∧ σ = [some (.ref a), some (.ref r), some (.int (0 + (turn : Int))), some (.int (b : Int)), some (.int (n : Int)), some (.ref p), x6, x7, x8, x9], ?_, ?_⟩
    · refine ⟨_, rfl, _, rfl, _, _, rfl, .int _, .int _, fun z => no inn z, fun _ z => no ib z, fun n' b' e1 e2 h1 h2 h3 H2 p S2 e => ?_⟩
      have q1 : n' = n := by injection e1 with z; omega
      have q2 : b' = b := by injection e2 with z; omega
      subst q1 q2
      exact ⟨p, R1.same S2, e, rfl⟩
    clear R1
    rintro σ H1 ⟨p, R1, hp, rfl⟩
    obtain ⟨L1, L2, L3⟩ := lows_lt b1 133 n (by omega)
    have eF : (lowV b n).reverse = (((lows b n).map fun (d : Nat) => (d : Int)).reverse).map V.int := by
      unfold lowV
      rw [List.map_reverse, List.map_map]
      rfl
    -- there and back
    refine ⟨fun σ H2 => RowAt K H2 r a ns ∧ σ = [some (.ref a), some (.ref r), some (.int (0 + (turn : Int))), some (.int (b : Int)), some (.int (n : Int)), some (.ref p), x6, x7, x8, x9], ?_, ?_⟩
    · have hf : ∀ f ∈ ((lows b n).map fun (d : Nat) => (d : Int)).reverse, 0 ≤ f ∧ f ≤ (b : Int) - 1 := fun f hf => by
        obtain ⟨d, hd, rfl⟩ := List.mem_map.mp (List.mem_reverse.mp hf)
        have := L3 d hd
        omega
      have eN := valOf_low b1 n n (Nat.le_refl _)
      rw [eF] at hp eN
      have lf : ((lows b n).map fun (d : Nat) => (d : Int)).reverse.length = (lows b n).length := by rw [List.length_reverse, List.length_map]
      refine ⟨_, rfl, _, rfl, _, rfl, n, b, rfl, n2, b1, b2, fun H2 q S2 e => ?_⟩
      rw [eF] at e
      refine ⟨_, _, dp_tints (SqT.of (S2 _ _ hp)), dp_tints (SqT.of e), shaped_tints _, shaped_tints _, _, rfl, ?_⟩
      rw [eqv_tints, decide_eq_true rfl]
      refine iteF ?_
      refine ⟨_, rfl, _, rfl, .ref p, _, rfl, .int _, no ib, fun b' e2 _ _ => ?_⟩
      cases e2
      refine figs_ok (S2 _ _ hp) (by rw [lf]; exact L2) (by rw [lf]; omega) hf fun H3 S3 => ?_
      rw [eN]
      refine ⟨_, rfl, rfl, _, rfl, ?_⟩
      rw [dec_i, decide_eq_true rfl]
      exact iteF ⟨(R1.same S2).same S3, rfl⟩
    clear R1 hp
    rintro σ H1 ⟨R1, rfl⟩
    -- figures, noughts ahead
    refine ⟨fun σ H2 => ∃ (q : Addr) (fs : List Int) (y9 : Option V), RowAt K H2 r a ns ∧ H2 q = some (.tup (fs.map V.int)) ∧ q ≠ r ∧ 1 ≤ fs.length ∧ fs.length ≤ 144 ∧ (∀ f ∈ fs, 0 ≤ f ∧ f ≤ (b : Int) - 1) ∧ σ = [some (.ref a), some (.ref r), some (.int (0 + (turn : Int))), some (.int (b : Int)), some (.int (n : Int)), some (.ref p), some (.ref q), x7, x8, y9], ?_, ?_⟩
    · refine ⟨by show 1 ≤ sizeLine; decide, fun p1 hp1 => ?_⟩
      refine ⟨_, rfl, r, a, ns, _, rfl, by decide, by decide, R1.new hp1, fun v H2 v0 v1 R2 B2 => ?_⟩
      have g1 := B2 _ _ upd_same (R1.ne hp1)
      have v4 : v ≤ 4 := by omega
      refine ⟨p1, v, [.int 0], rfl, rfl, SqT.of g1, fun e => (nomatch e), v0, by omega, by decide, fun e => ?_, fun ne p2 hp2 => ?_⟩
      · have hc : H2 p1 = some (.tup (([0] : List Int).map V.int)) := g1
        have zl : ([0] : List Int).length ≤ 4 := by decide
        have z0 : ∀ f ∈ ([0] : List Int), f = 0 := fun f hf => List.mem_singleton.mp hf
        have ncr := R1.ne hp1
        have R3 := R2
        generalize ([0] : List Int) = zs at hc zl z0
        refine ⟨_, rfl, r, a, ns, _, rfl, by decide, by decide, R3, fun u H5 u0 u1 R5 B5 => ?_⟩
        have hc5 := B5 _ _ hc ncr
        refine ⟨_, _, rfl, rfl, _, rfl, by omega, by omega, fun D hD => ?_⟩
        have nDr := R5.ne hD
        refine lc_range (lo := 0) (n := (1 + u).toNat) (fun i H4 => RowAt K H4 r a ns ∧ H4 p1 = some (.tup (zs.map V.int)) ∧ ∃ gs : List Int, H4 D = some (.lst (gs.map V.int)) ∧ gs.length = i ∧ ∀ f ∈ gs, 0 ≤ f ∧ f ≤ (b : Int) - 1) ⟨R5.new hD, same_upd hD _ _ hc5, [], upd_same, rfl, fun f hf => nomatch hf⟩ ?_ ?_
        · rintro i H4 hi4 ⟨R4, hc4, gs, hL, g1, g2⟩
          refine ⟨rfl, _, rfl, _, rfl, r, a, ns, _, rfl, by omega, by omega, R4, fun w' H6 w0 w1 R6 B6 => ?_⟩
          have hL6 := B6 _ _ hL nDr
          have nDc : p1 ≠ D := fun z => by rw [z, hL] at hc4; cases hc4
          refine ⟨_, hL6, by rw [List.length_map]; exact small1000 (by omega), R6.put hL6 nDr, ?_, gs ++ [w'], ?_, by rw [List.length_append, g1]; rfl, fun f hf => ?_⟩
          · rw [upd_ne nDc]
            exact B6 _ _ hc4 ncr
          · rw [upd_same, List.map_append]
            rfl
          · rcases List.mem_append.mp hf with q | q
            · exact g2 f q
            · rw [List.mem_singleton.mp q]
              exact ⟨w0, by omega⟩
        · rintro H4 ⟨R4, hc4, gs, hL, g1, g2⟩
          refine ⟨D, _, rfl, .inl ⟨SqL.of hL, fun q1 hq1 => ?_⟩⟩
          have R7 := R4.new (o := .tup (gs.map V.int)) hq1
          have hc7 := same_upd (o := .tup (gs.map V.int)) hq1 _ _ hc4
          have hq7 : upd H4 q1 (.tup (gs.map V.int)) q1 = some (.tup (gs.map V.int)) := upd_same
          have n7 := R4.ne hq1
          generalize upd H4 q1 (.tup (gs.map V.int)) = H7 at R7 hc7 hq7 ⊢
          have l8 : 1 ≤ (zs ++ gs).length ∧ (zs ++ gs).length ≤ 144 := by
            rw [List.length_append]
            omega
          have f8 : ∀ f ∈ zs ++ gs, 0 ≤ f ∧ f ≤ (b : Int) - 1 := fun f hf => by
            rcases List.mem_append.mp hf with q | q
            · rw [z0 f q]
              omega
            · exact g2 f q
          refine ⟨p1, q1, zs.map V.int, gs.map V.int, rfl, rfl, SqT.of hc7, SqT.of hq7, ?_, fun e => ?_, fun _ e => ?_, fun _ _ p8 hp8 => ?_⟩
          · rw [List.length_map, List.length_map]
            have h2 : (1000 : Nat) ≤ sizeLine := by decide
            omega
          · exact ⟨q1, zs ++ gs, _, R7, (by rw [List.map_append, e]; exact hq7), n7, l8.1, l8.2, f8, rfl⟩
          · exact ⟨p1, zs ++ gs, _, R7, (by rw [List.map_append, e, List.append_nil]; exact hc7), ncr, l8.1, l8.2, f8, rfl⟩
          · exact ⟨p8, zs ++ gs, _, (R7.new hp8), (by rw [List.map_append]; exact upd_same), (R7.ne hp8), l8.1, l8.2, f8, rfl⟩
      · rw [flat_rep]
        have hc : upd H2 p2 (.tup ((List.replicate v.toNat (0 : Int)).map V.int)) p2 = some (.tup ((List.replicate v.toNat (0 : Int)).map V.int)) := upd_same
        have zl : (List.replicate v.toNat (0 : Int)).length ≤ 4 := by rw [List.length_replicate]; omega
        have z0 : ∀ f ∈ List.replicate v.toNat (0 : Int), f = 0 := fun f hf => (List.mem_replicate.mp hf).2
        have ncr := R2.ne hp2
        have R3 := R2.new (o := .tup ((List.replicate v.toNat (0 : Int)).map V.int)) hp2
        generalize List.replicate v.toNat (0 : Int) = zs at hc zl z0 R3 ⊢
        generalize upd H2 p2 (.tup (zs.map V.int)) = H3 at hc R3 ⊢
        refine ⟨_, rfl, r, a, ns, _, rfl, by decide, by decide, R3, fun u H5 u0 u1 R5 B5 => ?_⟩
        have hc5 := B5 _ _ hc ncr
        refine ⟨_, _, rfl, rfl, _, rfl, by omega, by omega, fun D hD => ?_⟩
        have nDr := R5.ne hD
        refine lc_range (lo := 0) (n := (1 + u).toNat) (fun i H4 => RowAt K H4 r a ns ∧ H4 p2 = some (.tup (zs.map V.int)) ∧ ∃ gs : List Int, H4 D = some (.lst (gs.map V.int)) ∧ gs.length = i ∧ ∀ f ∈ gs, 0 ≤ f ∧ f ≤ (b : Int) - 1) ⟨R5.new hD, same_upd hD _ _ hc5, [], upd_same, rfl, fun f hf => nomatch hf⟩ ?_ ?_
        · rintro i H4 hi4 ⟨R4, hc4, gs, hL, g1, g2⟩
          refine ⟨rfl, _, rfl, _, rfl, r, a, ns, _, rfl, by omega, by omega, R4, fun w' H6 w0 w1 R6 B6 => ?_⟩
          have hL6 := B6 _ _ hL nDr
          have nDc : p2 ≠ D := fun z => by rw [z, hL] at hc4; cases hc4
          refine ⟨_, hL6, by rw [List.length_map]; exact small1000 (by omega), R6.put hL6 nDr, ?_, gs ++ [w'], ?_, by rw [List.length_append, g1]; rfl, fun f hf => ?_⟩
          · rw [upd_ne nDc]
            exact B6 _ _ hc4 ncr
          · rw [upd_same, List.map_append]
            rfl
          · rcases List.mem_append.mp hf with q | q
            · exact g2 f q
            · rw [List.mem_singleton.mp q]
              exact ⟨w0, by omega⟩
        · rintro H4 ⟨R4, hc4, gs, hL, g1, g2⟩
          refine ⟨D, _, rfl, .inl ⟨SqL.of hL, fun q1 hq1 => ?_⟩⟩
          have R7 := R4.new (o := .tup (gs.map V.int)) hq1
          have hc7 := same_upd (o := .tup (gs.map V.int)) hq1 _ _ hc4
          have hq7 : upd H4 q1 (.tup (gs.map V.int)) q1 = some (.tup (gs.map V.int)) := upd_same
          have n7 := R4.ne hq1
          generalize upd H4 q1 (.tup (gs.map V.int)) = H7 at R7 hc7 hq7 ⊢
          have l8 : 1 ≤ (zs ++ gs).length ∧ (zs ++ gs).length ≤ 144 := by
            rw [List.length_append]
            omega
          have f8 : ∀ f ∈ zs ++ gs, 0 ≤ f ∧ f ≤ (b : Int) - 1 := fun f hf => by
            rcases List.mem_append.mp hf with q | q
            · rw [z0 f q]
              omega
            · exact g2 f q
          refine ⟨p2, q1, zs.map V.int, gs.map V.int, rfl, rfl, SqT.of hc7, SqT.of hq7, ?_, fun e => ?_, fun _ e => ?_, fun _ _ p8 hp8 => ?_⟩
          · rw [List.length_map, List.length_map]
            have h2 : (1000 : Nat) ≤ sizeLine := by decide
            omega
          · exact ⟨q1, zs ++ gs, _, R7, (by rw [List.map_append, e]; exact hq7), n7, l8.1, l8.2, f8, rfl⟩
          · exact ⟨p2, zs ++ gs, _, R7, (by rw [List.map_append, e, List.append_nil]; exact hc7), ncr, l8.1, l8.2, f8, rfl⟩
          · exact ⟨p8, zs ++ gs, _, (R7.new hp8), (by rw [List.map_append]; exact upd_same), (R7.ne hp8), l8.1, l8.2, f8, rfl⟩
    clear R1
    rintro σ H1 ⟨q, fs, y9, R1, hq, nqr, f1, f2, hf, rfl⟩
    refine ⟨fun σ H2 => ∃ (q : Addr) (fs : List Int) (y9 : Option V), RowAt K H2 r a ns ∧ H2 q = some (.tup (fs.map V.int)) ∧ q ≠ r ∧ 1 ≤ fs.length ∧ fs.length ≤ 150 ∧ (∀ f ∈ fs, 0 ≤ f ∧ f ≤ (b : Int) - 1) ∧ σ = [some (.ref a), some (.ref r), some (.int (0 + (turn : Int))), some (.int (b : Int)), some (.int (n : Int)), some (.ref p), some (.ref q), x7, x8, y9], ?_, ?_⟩
    · refine ⟨_, rfl, r, a, ns, _, rfl, by decide, by decide, R1, fun v H2 v0 v1 R2 B2 => ?_⟩
      have hq2 := B2 _ _ hq nqr
      refine ⟨rfl, _, rfl, ?_⟩
      refine ite2 (fun g => ?_) (fun g => ?_)
      · refine ⟨_, rfl, _, rfl, q, _, rfl, .inr (SqT.of hq2), _, _, rfl, rfl, _, rfl, by rw [List.length_map]; omega, by rw [List.length_map]; omega, fun D hD => ?_⟩
        rw [List.length_map]
        have nDr := R2.ne hD
        refine lc_range (lo := 0) (n := (150 - (fs.length : Int)).toNat) (fun i H4 => RowAt K H4 r a ns ∧ H4 q = some (.tup (fs.map V.int)) ∧ ∃ gs : List Int, H4 D = some (.lst (gs.map V.int)) ∧ gs.length = i ∧ ∀ f ∈ gs, 0 ≤ f ∧ f ≤ (b : Int) - 1) ⟨R2.new hD, same_upd hD _ _ hq2, [], upd_same, rfl, fun f hf => nomatch hf⟩ ?_ ?_
        · rintro i H4 hi4 ⟨R4, hc4, gs, hL, g1, g2⟩
          refine ⟨rfl, _, rfl, _, rfl, r, a, ns, _, rfl, by omega, by omega, R4, fun w' H6 w0 w1 R6 B6 => ?_⟩
          have hL6 := B6 _ _ hL nDr
          have nDc : q ≠ D := fun z => by rw [z, hL] at hc4; cases hc4
          refine ⟨_, hL6, by rw [List.length_map]; exact small1000 (by omega), R6.put hL6 nDr, ?_, gs ++ [w'], ?_, by rw [List.length_append, g1]; rfl, fun f hf => ?_⟩
          · rw [upd_ne nDc]
            exact B6 _ _ hc4 nqr
          · rw [upd_same, List.map_append]
            rfl
          · rcases List.mem_append.mp hf with z | z
            · exact g2 f z
            · rw [List.mem_singleton.mp z]
              exact ⟨w0, by omega⟩
        · rintro H4 ⟨R4, hc4, gs, hL, g1, g2⟩
          refine ⟨D, _, rfl, .inl ⟨SqL.of hL, fun q1 hq1 => ?_⟩⟩
          have R7 := R4.new (o := .tup (gs.map V.int)) hq1
          have hc7 := same_upd (o := .tup (gs.map V.int)) hq1 _ _ hc4
          have hq7 : upd H4 q1 (.tup (gs.map V.int)) q1 = some (.tup (gs.map V.int)) := upd_same
          have n7 := R4.ne hq1
          generalize upd H4 q1 (.tup (gs.map V.int)) = H7 at R7 hc7 hq7 ⊢
          have l8 : 1 ≤ (fs ++ gs).length ∧ (fs ++ gs).length ≤ 150 := by
            rw [List.length_append]
            omega
          have f8 : ∀ f ∈ fs ++ gs, 0 ≤ f ∧ f ≤ (b : Int) - 1 := fun f hf8 => by
            rcases List.mem_append.mp hf8 with z | z
            · exact hf f z
            · exact g2 f z
          refine ⟨q, q1, fs.map V.int, gs.map V.int, rfl, rfl, SqT.of hc7, SqT.of hq7, ?_, fun e => ?_, fun _ e => ?_, fun _ _ p8 hp8 => ?_⟩
          · rw [List.length_map, List.length_map]
            have h2 : (1000 : Nat) ≤ sizeLine := by decide
            omega
          · exact ⟨q1, fs ++ gs, _, R7, (by rw [List.map_append, e]; exact hq7), n7, l8.1, l8.2, f8, rfl⟩
          · exact ⟨q, fs ++ gs, _, R7, (by rw [List.map_append, e, List.append_nil]; exact hc7), nqr, l8.1, l8.2, f8, rfl⟩
          · exact ⟨p8, fs ++ gs, _, (R7.new hp8), (by rw [List.map_append]; exact upd_same), (R7.ne hp8), l8.1, l8.2, f8, rfl⟩
      · exact ⟨q, fs, _, R2, hq2, nqr, f1, by omega, hf, rfl⟩
    clear R1 hq nqr f1 f2 hf
    rintro σ H1 ⟨q, fs, y9, R1, hq, nqr, f1, f2, hf, rfl⟩
    -- what is due
    refine ⟨fun σ H2 => H2 = H1 ∧ σ = [some (.ref a), some (.ref r), some (.int (0 + (turn : Int))), some (.int (b : Int)), some (.int (n : Int)), some (.ref p), some (.ref q), some (.int 0), x8, y9], ⟨rfl, rfl⟩, ?_⟩
    rintro σ H2 ⟨rfl, rfl⟩
    refine ⟨fun σ H3 => ∃ y8 : Option V, H3 = H2 ∧ σ = [some (.ref a), some (.ref r), some (.int (0 + (turn : Int))), some (.int (b : Int)), some (.int (n : Int)), some (.ref p), some (.ref q), some (.int (valOf (b : Int) (fs.map V.int))), y8, y9], ?_, ?_⟩
    · refine ⟨_, rfl, q, rfl, ⟨fs.map V.int, SqT.of hq⟩, ?_⟩
      refine for_it (walk_tup (a := q) (xs := fs.map V.int)) (fun i σ H4 => ∃ y8 : Option V, H4 = H2 ∧ σ = [some (.ref a), some (.ref r), some (.int (0 + (turn : Int))), some (.int (b : Int)), some (.int (n : Int)), some (.ref p), some (.ref q), some (.int (valOf (b : Int) ((fs.map V.int).take i))), y8, y9]) ⟨x8, rfl, rfl⟩ (fun i σ H4 _ ⟨_, e4, _⟩ => by rw [e4]; exact SqT.of hq) ?_ ?_
      · rintro i x' σ H4 H5 hi5 ⟨y8, rfl, rfl⟩ ⟨rfl, hy⟩
        have hy2 := hy
        rw [List.getElem?_map] at hy2
        cases e3 : fs[i]? with
        | none => rw [e3] at hy2; cases hy2
        | some f =>
          rw [e3] at hy2
          cases hy2
          refine ⟨_, rfl, _, rfl, _, _, rfl, rfl, .inr ⟨by omega, by omega⟩, _, rfl, _, _, rfl, rfl, ?_⟩
          rw [take_snoc hy, valOf_snoc]
          exact ⟨_, rfl, rfl⟩
      · rintro σ H4 ⟨y8, rfl, rfl⟩
        rw [List.take_length]
        exact ⟨_, rfl, rfl⟩
    rintro σ H3 ⟨y8, rfl, rfl⟩
    refine ⟨_, rfl, _, rfl, .ref q, _, rfl, .int _, no ib, fun b' e2 _ _ => ?_⟩
    cases e2
    refine figs_ok hq f1 f2 hf fun H4 S4 => ?_
    refine ⟨_, rfl, rfl, _, rfl, ?_⟩
    rw [dec_i, decide_eq_true rfl]
    exact iteF ⟨_, _, _, _, _, _, _, _, R1.same S4, rfl⟩

end
/-! ### the end -/
theorem all_mk {l : PySem.W.OpenLaw} {w : World} {K : PySem.W.Frag} {h : Heap} {mg : Str → Option Value} {fa : Addr} (X : K.In h) (G : h.Ns mainGlobals mg) (hfa : mg "law" = some (.ref fa))
    {C_TrickError : Addr}
    {C_BadBase : Addr}
    {C_BadNumber : Addr}
    {C_BadFigures : Addr}
    {tk_GREATEST_NUMBER : Tok}
    {tk_LEAST_BASE : Tok}
    {tk_GREATEST_BASE : Tok}
    {tk_MOST_FIGURES : Tok}
    {a_is_integer : Addr} {od_is_integer an_is_integer : Option Addr} {sl_is_integer : Array (Option Value)} {oc_is_integer kV_is_integer dc_is_integer pm_is_integer cd_is_integer ct_is_integer : Value}
    {a_is_tuple : Addr} {od_is_tuple an_is_tuple : Option Addr} {sl_is_tuple : Array (Option Value)} {oc_is_tuple kV_is_tuple dc_is_tuple pm_is_tuple cd_is_tuple ct_is_tuple : Value}
    {a_first_wrong : Addr} {od_first_wrong an_first_wrong : Option Addr} {sl_first_wrong : Array (Option Value)} {oc_first_wrong kV_first_wrong dc_first_wrong pm_first_wrong cd_first_wrong ct_first_wrong : Value}
    {a_check_base : Addr} {od_check_base an_check_base : Option Addr} {sl_check_base : Array (Option Value)} {oc_check_base kV_check_base dc_check_base pm_check_base cd_check_base ct_check_base : Value}
    {a_check_stretch : Addr} {od_check_stretch an_check_stretch : Option Addr} {sl_check_stretch : Array (Option Value)} {oc_check_stretch kV_check_stretch dc_check_stretch pm_check_stretch cd_check_stretch ct_check_stretch : Value}
    {a_figures : Addr} {od_figures an_figures : Option Addr} {sl_figures : Array (Option Value)} {oc_figures kV_figures dc_figures pm_figures cd_figures ct_figures : Value}
    {a_number : Addr} {od_number an_number : Option Addr} {sl_number : Array (Option Value)} {oc_number kV_number dc_number pm_number cd_number ct_number : Value}
    {a_check_figures : Addr} {od_check_figures an_check_figures : Option Addr} {sl_check_figures : Array (Option Value)} {oc_check_figures kV_check_figures dc_check_figures pm_check_figures cd_check_figures ct_check_figures : Value}
    {a__law_taken : Addr} {od__law_taken an__law_taken : Option Addr} {sl__law_taken : Array (Option Value)} {oc__law_taken kV__law_taken dc__law_taken pm__law_taken cd__law_taken ct__law_taken : Value}
    {a__law_number : Addr} {od__law_number an__law_number : Option Addr} {sl__law_number : Array (Option Value)} {oc__law_number kV__law_number dc__law_number pm__law_number cd__law_number ct__law_number : Value}
    {a__law_figures : Addr} {od__law_figures an__law_figures : Option Addr} {sl__law_figures : Array (Option Value)} {oc__law_figures kV__law_figures dc__law_figures pm__law_figures cd__law_figures ct__law_figures : Value}
    {a_law : Addr} {od_law an_law : Option Addr} {sl_law : Array (Option Value)} {oc_law kV_law dc_law pm_law cd_law ct_law : Value}
    {a_BadNumber___init__ cda_BadNumber___init__ cc_BadNumber___init__ N_BadNumber___init__ : Addr} {od_BadNumber___init__ an_BadNumber___init__ cdd_BadNumber___init__ cld_BadNumber___init__ dd_BadNumber___init__ : Option Addr} {sl_BadNumber___init__ ccs_BadNumber___init__ csl_BadNumber___init__ : Array (Option Value)} {oc_BadNumber___init__ dc_BadNumber___init__ pm_BadNumber___init__ ct_BadNumber___init__ ccl_BadNumber___init__ cl_BadNumber___init__ : Value} {vs_BadNumber___init__ : Array Value} {file_BadNumber___init__ nm_BadNumber___init__ qn_BadNumber___init__ : Str} {tf_BadNumber___init__ : Tok} {bs_BadNumber___init__ bm_BadNumber___init__ sub_BadNumber___init__ : List Value} {sn_BadNumber___init__ : List Str} {ab_BadNumber___init__ : Bool} {col_BadNumber___init__ : Option Bool} {k0_BadNumber___init__ k1_BadNumber___init__ k2_BadNumber___init__ k3_BadNumber___init__ k5_BadNumber___init__ : Option Value}
    {a_BadFigures___init__ cda_BadFigures___init__ cc_BadFigures___init__ N_BadFigures___init__ : Addr} {od_BadFigures___init__ an_BadFigures___init__ cdd_BadFigures___init__ cld_BadFigures___init__ dd_BadFigures___init__ : Option Addr} {sl_BadFigures___init__ ccs_BadFigures___init__ csl_BadFigures___init__ : Array (Option Value)} {oc_BadFigures___init__ dc_BadFigures___init__ pm_BadFigures___init__ ct_BadFigures___init__ ccl_BadFigures___init__ cl_BadFigures___init__ : Value} {vs_BadFigures___init__ : Array Value} {file_BadFigures___init__ nm_BadFigures___init__ qn_BadFigures___init__ : Str} {tf_BadFigures___init__ : Tok} {bs_BadFigures___init__ bm_BadFigures___init__ sub_BadFigures___init__ : List Value} {sn_BadFigures___init__ : List Str} {ab_BadFigures___init__ : Bool} {col_BadFigures___init__ : Option Bool} {k0_BadFigures___init__ k1_BadFigures___init__ k2_BadFigures___init__ k3_BadFigures___init__ k5_BadFigures___init__ : Option Value}
    (gx_TrickError : PySem.W.nsIn K mainGlobals "TrickError" = some (some (.ref C_TrickError)))
    (x_TrickError : PySem.W.excIn K C_TrickError [.type "ValueError", .type "Exception", .type "BaseException", .type "object"] "ValueError.__new__" = true)
    (k_TrickError : PySem.W.keepIn K (.ref C_TrickError) = true)
    (s_TrickError : PySem.W.subIn K (.ref C_TrickError) (.type "BaseException") = some true)
    (t_TrickError : PySem.W.typeIn K (.ref C_TrickError) = some (.type "type"))
    (gx_BadBase : PySem.W.nsIn K mainGlobals "BadBase" = some (some (.ref C_BadBase)))
    (x_BadBase : PySem.W.excIn K C_BadBase [.type "ValueError", .type "Exception", .type "BaseException", .type "object"] "ValueError.__new__" = true)
    (k_BadBase : PySem.W.keepIn K (.ref C_BadBase) = true)
    (s_BadBase : PySem.W.subIn K (.ref C_BadBase) (.type "BaseException") = some true)
    (t_BadBase : PySem.W.typeIn K (.ref C_BadBase) = some (.type "type"))
    (gx_BadNumber : PySem.W.nsIn K mainGlobals "BadNumber" = some (some (.ref C_BadNumber)))
    (k_BadNumber : PySem.W.keepIn K (.ref C_BadNumber) = true)
    (s_BadNumber : PySem.W.subIn K (.ref C_BadNumber) (.type "BaseException") = some true)
    (t_BadNumber : PySem.W.typeIn K (.ref C_BadNumber) = some (.type "type"))
    (gx_BadFigures : PySem.W.nsIn K mainGlobals "BadFigures" = some (some (.ref C_BadFigures)))
    (k_BadFigures : PySem.W.keepIn K (.ref C_BadFigures) = true)
    (s_BadFigures : PySem.W.subIn K (.ref C_BadFigures) (.type "BaseException") = some true)
    (t_BadFigures : PySem.W.typeIn K (.ref C_BadFigures) = some (.type "type"))
    (cx_GREATEST_NUMBER : PySem.W.nsIn K mainGlobals "GREATEST_NUMBER" = some (some (.int 10000000000000000000000000000000000000000 tk_GREATEST_NUMBER)))
    (cx_LEAST_BASE : PySem.W.nsIn K mainGlobals "LEAST_BASE" = some (some (.int 2 tk_LEAST_BASE)))
    (cx_GREATEST_BASE : PySem.W.nsIn K mainGlobals "GREATEST_BASE" = some (some (.int 16 tk_GREATEST_BASE)))
    (cx_MOST_FIGURES : PySem.W.nsIn K mainGlobals "MOST_FIGURES" = some (some (.int 150 tk_MOST_FIGURES)))
    (gf_is_integer : PySem.W.nsIn K mainGlobals "is_integer" = some (some (.ref a_is_integer)))
    (l_is_integer : K.lookup a_is_integer = some ⟨oc_is_integer, od_is_integer, .func (PySem.W.fnOf "is_integer" "is_integer" (defArgs s_is_integer) (defBody s_is_integer) (defScope s_is_integer) .none kV_is_integer dc_is_integer pm_is_integer an_is_integer cd_is_integer ct_is_integer), sl_is_integer⟩)
    (c_is_integer : PySem.W.codeIn K cd_is_integer "is_integer" = true)
    (kp_is_integer : PySem.W.keepIn K (.ref a_is_integer) = true)
    (gf_is_tuple : PySem.W.nsIn K mainGlobals "is_tuple" = some (some (.ref a_is_tuple)))
    (l_is_tuple : K.lookup a_is_tuple = some ⟨oc_is_tuple, od_is_tuple, .func (PySem.W.fnOf "is_tuple" "is_tuple" (defArgs s_is_tuple) (defBody s_is_tuple) (defScope s_is_tuple) .none kV_is_tuple dc_is_tuple pm_is_tuple an_is_tuple cd_is_tuple ct_is_tuple), sl_is_tuple⟩)
    (c_is_tuple : PySem.W.codeIn K cd_is_tuple "is_tuple" = true)
    (kp_is_tuple : PySem.W.keepIn K (.ref a_is_tuple) = true)
    (gf_first_wrong : PySem.W.nsIn K mainGlobals "first_wrong" = some (some (.ref a_first_wrong)))
    (l_first_wrong : K.lookup a_first_wrong = some ⟨oc_first_wrong, od_first_wrong, .func (PySem.W.fnOf "first_wrong" "first_wrong" (defArgs s_first_wrong) (defBody s_first_wrong) (defScope s_first_wrong) .none kV_first_wrong dc_first_wrong pm_first_wrong an_first_wrong cd_first_wrong ct_first_wrong), sl_first_wrong⟩)
    (c_first_wrong : PySem.W.codeIn K cd_first_wrong "first_wrong" = true)
    (kp_first_wrong : PySem.W.keepIn K (.ref a_first_wrong) = true)
    (gf_check_base : PySem.W.nsIn K mainGlobals "check_base" = some (some (.ref a_check_base)))
    (l_check_base : K.lookup a_check_base = some ⟨oc_check_base, od_check_base, .func (PySem.W.fnOf "check_base" "check_base" (defArgs s_check_base) (defBody s_check_base) (defScope s_check_base) .none kV_check_base dc_check_base pm_check_base an_check_base cd_check_base ct_check_base), sl_check_base⟩)
    (c_check_base : PySem.W.codeIn K cd_check_base "check_base" = true)
    (kp_check_base : PySem.W.keepIn K (.ref a_check_base) = true)
    (gf_check_stretch : PySem.W.nsIn K mainGlobals "check_stretch" = some (some (.ref a_check_stretch)))
    (l_check_stretch : K.lookup a_check_stretch = some ⟨oc_check_stretch, od_check_stretch, .func (PySem.W.fnOf "check_stretch" "check_stretch" (defArgs s_check_stretch) (defBody s_check_stretch) (defScope s_check_stretch) .none kV_check_stretch dc_check_stretch pm_check_stretch an_check_stretch cd_check_stretch ct_check_stretch), sl_check_stretch⟩)
    (c_check_stretch : PySem.W.codeIn K cd_check_stretch "check_stretch" = true)
    (kp_check_stretch : PySem.W.keepIn K (.ref a_check_stretch) = true)
    (gf_figures : PySem.W.nsIn K mainGlobals "figures" = some (some (.ref a_figures)))
    (l_figures : K.lookup a_figures = some ⟨oc_figures, od_figures, .func (PySem.W.fnOf "figures" "figures" (defArgs s_figures) (defBody s_figures) (defScope s_figures) .none kV_figures dc_figures pm_figures an_figures cd_figures ct_figures), sl_figures⟩)
    (c_figures : PySem.W.codeIn K cd_figures "figures" = true)
    (kp_figures : PySem.W.keepIn K (.ref a_figures) = true)
    (gf_number : PySem.W.nsIn K mainGlobals "number" = some (some (.ref a_number)))
    (l_number : K.lookup a_number = some ⟨oc_number, od_number, .func (PySem.W.fnOf "number" "number" (defArgs s_number) (defBody s_number) (defScope s_number) .none kV_number dc_number pm_number an_number cd_number ct_number), sl_number⟩)
    (c_number : PySem.W.codeIn K cd_number "number" = true)
    (kp_number : PySem.W.keepIn K (.ref a_number) = true)
    (gf_check_figures : PySem.W.nsIn K mainGlobals "check_figures" = some (some (.ref a_check_figures)))
    (l_check_figures : K.lookup a_check_figures = some ⟨oc_check_figures, od_check_figures, .func (PySem.W.fnOf "check_figures" "check_figures" (defArgs s_check_figures) (defBody s_check_figures) (defScope s_check_figures) .none kV_check_figures dc_check_figures pm_check_figures an_check_figures cd_check_figures ct_check_figures), sl_check_figures⟩)
    (c_check_figures : PySem.W.codeIn K cd_check_figures "check_figures" = true)
    (kp_check_figures : PySem.W.keepIn K (.ref a_check_figures) = true)
    (gf__law_taken : PySem.W.nsIn K mainGlobals "_law_taken" = some (some (.ref a__law_taken)))
    (l__law_taken : K.lookup a__law_taken = some ⟨oc__law_taken, od__law_taken, .func (PySem.W.fnOf "_law_taken" "_law_taken" (defArgs s__law_taken) (defBody s__law_taken) (defScope s__law_taken) .none kV__law_taken dc__law_taken pm__law_taken an__law_taken cd__law_taken ct__law_taken), sl__law_taken⟩)
    (c__law_taken : PySem.W.codeIn K cd__law_taken "_law_taken" = true)
    (kp__law_taken : PySem.W.keepIn K (.ref a__law_taken) = true)
    (gf__law_number : PySem.W.nsIn K mainGlobals "_law_number" = some (some (.ref a__law_number)))
    (l__law_number : K.lookup a__law_number = some ⟨oc__law_number, od__law_number, .func (PySem.W.fnOf "_law_number" "_law_number" (defArgs s__law_number) (defBody s__law_number) (defScope s__law_number) .none kV__law_number dc__law_number pm__law_number an__law_number cd__law_number ct__law_number), sl__law_number⟩)
    (c__law_number : PySem.W.codeIn K cd__law_number "_law_number" = true)
    (kp__law_number : PySem.W.keepIn K (.ref a__law_number) = true)
    (gf__law_figures : PySem.W.nsIn K mainGlobals "_law_figures" = some (some (.ref a__law_figures)))
    (l__law_figures : K.lookup a__law_figures = some ⟨oc__law_figures, od__law_figures, .func (PySem.W.fnOf "_law_figures" "_law_figures" (defArgs s__law_figures) (defBody s__law_figures) (defScope s__law_figures) .none kV__law_figures dc__law_figures pm__law_figures an__law_figures cd__law_figures ct__law_figures), sl__law_figures⟩)
    (c__law_figures : PySem.W.codeIn K cd__law_figures "_law_figures" = true)
    (kp__law_figures : PySem.W.keepIn K (.ref a__law_figures) = true)
    (gf_law : PySem.W.nsIn K mainGlobals "law" = some (some (.ref a_law)))
    (l_law : K.lookup a_law = some ⟨oc_law, od_law, .func (PySem.W.fnOf "law" "law" (defArgs s_law) (defBody s_law) (defScope s_law) .none kV_law dc_law pm_law an_law cd_law ct_law), sl_law⟩)
    (c_law : PySem.W.codeIn K cd_law "law" = true)
    (kp_law : PySem.W.keepIn K (.ref a_law) = true)
    (z_int : PySem.W.nsIn K mainGlobals "int" = some none)
    (z_bool : PySem.W.nsIn K mainGlobals "bool" = some none)
    (z_len : PySem.W.nsIn K mainGlobals "len" = some none)
    (z_range : PySem.W.nsIn K mainGlobals "range" = some none)
    (z_isinstance : PySem.W.nsIn K mainGlobals "isinstance" = some none)
    (z_tuple : PySem.W.nsIn K mainGlobals "tuple" = some none)
    (z_reversed : PySem.W.nsIn K mainGlobals "reversed" = some none)
    (z_enumerate : PySem.W.nsIn K mainGlobals "enumerate" = some none)
    (z_abs : PySem.W.nsIn K mainGlobals "abs" = some none)
    (z_super : PySem.W.nsIn K mainGlobals "super" = some none)
    (z_ValueError : PySem.W.nsIn K mainGlobals "ValueError" = some none)
    (xl_BadNumber___init__ : K.lookup C_BadNumber = some (PySem.excClassObj nm_BadNumber___init__ qn_BadNumber___init__ C_BadNumber N_BadNumber___init__ bs_BadNumber___init__ bm_BadNumber___init__ true sn_BadNumber___init__ sub_BadNumber___init__ ab_BadNumber___init__ col_BadNumber___init__ dd_BadNumber___init__ k0_BadNumber___init__ k1_BadNumber___init__ k2_BadNumber___init__ k3_BadNumber___init__ k5_BadNumber___init__ "ValueError.__new__"))
    (xrb_BadNumber___init__ : PySem.HandSPX.refsVE bm_BadNumber___init__ = true)
    (xsa_BadNumber___init__ : PySem.W.findIn K (.ref C_BadNumber) "__setattr__" = some (some (.builtin "object.__setattr__")))
    (xga_BadNumber___init__ : PySem.W.findIn K (.ref C_BadNumber) "__getattribute__" = some (some (.builtin "BaseException.__getattribute__")))
    (xgg_BadNumber___init__ : PySem.W.findIn K (.ref C_BadNumber) "__getattr__" = some none)
    (xnf_BadNumber___init__ : PySem.W.findIn K (.ref C_BadNumber) "n" = some none)
    (xic_BadNumber___init__ : PySem.W.findIn K (.ref C_BadNumber) "__init__" = some (some (.ref a_BadNumber___init__)))
    (xtc_BadNumber___init__ : PySem.W.typeIn K (.ref a_BadNumber___init__) = some (.type "function"))
    (xhd_BadNumber___init__ : PySem.W.hasDictIn K C_BadNumber = true)
    (xup_BadNumber___init__ : PySem.W.ks_superIn K C_BadNumber C_BadNumber "__init__" = some (some (.builtin "ValueError.__init__")))
    (xan_BadNumber___init__ : PySem.W.nsIn K PySem.cStatics "thirdparty.any" = some none)
    (xve_BadNumber___init__ : PySem.W.subIn K (.ref C_BadNumber) (.type "ValueError") = some true)
    (xow_BadNumber___init__ : PySem.W.mroIn K C_BadNumber (.ref C_BadNumber) = some true)
    (rmn_BadNumber___init__ : (l.prog.main.scope.names.lookup ("super" : Str)).isSome = false)
    (xfn_BadNumber___init__ : K.lookup a_BadNumber___init__ = some ⟨oc_BadNumber___init__, od_BadNumber___init__, .func (PySem.W.ksFn "__init__" "BadNumber.__init__" (defArgs s_BadNumber___init__) (defBody s_BadNumber___init__) (defScope s_BadNumber___init__) .none .none dc_BadNumber___init__ pm_BadNumber___init__ an_BadNumber___init__ (.ref cda_BadNumber___init__) ct_BadNumber___init__ cc_BadNumber___init__), sl_BadNumber___init__⟩)
    (xco_BadNumber___init__ : PySem.W.codeIn K (.ref cda_BadNumber___init__) "BadNumber.__init__" = true)
    (xcd_BadNumber___init__ : K.lookup cda_BadNumber___init__ = some ⟨ccl_BadNumber___init__, cdd_BadNumber___init__, .fields vs_BadNumber___init__, ccs_BadNumber___init__⟩)
    (rvs_BadNumber___init__ : vs_BadNumber___init__[2]? = some (.str file_BadNumber___init__ tf_BadNumber___init__))
    (rfi_BadNumber___init__ : ((l.prog.main.file : Str) == file_BadNumber___init__) = true)
    (xcc_BadNumber___init__ : K.lookup cc_BadNumber___init__ = some ⟨cl_BadNumber___init__, cld_BadNumber___init__, .cell (some (.ref C_BadNumber)), csl_BadNumber___init__⟩)
    (xl_BadFigures___init__ : K.lookup C_BadFigures = some (PySem.excClassObj nm_BadFigures___init__ qn_BadFigures___init__ C_BadFigures N_BadFigures___init__ bs_BadFigures___init__ bm_BadFigures___init__ true sn_BadFigures___init__ sub_BadFigures___init__ ab_BadFigures___init__ col_BadFigures___init__ dd_BadFigures___init__ k0_BadFigures___init__ k1_BadFigures___init__ k2_BadFigures___init__ k3_BadFigures___init__ k5_BadFigures___init__ "ValueError.__new__"))
    (xrb_BadFigures___init__ : PySem.HandSPX.refsVE bm_BadFigures___init__ = true)
    (xsa_BadFigures___init__ : PySem.W.findIn K (.ref C_BadFigures) "__setattr__" = some (some (.builtin "object.__setattr__")))
    (xga_BadFigures___init__ : PySem.W.findIn K (.ref C_BadFigures) "__getattribute__" = some (some (.builtin "BaseException.__getattribute__")))
    (xgg_BadFigures___init__ : PySem.W.findIn K (.ref C_BadFigures) "__getattr__" = some none)
    (xnf_BadFigures___init__ : PySem.W.findIn K (.ref C_BadFigures) "index" = some none)
    (xic_BadFigures___init__ : PySem.W.findIn K (.ref C_BadFigures) "__init__" = some (some (.ref a_BadFigures___init__)))
    (xtc_BadFigures___init__ : PySem.W.typeIn K (.ref a_BadFigures___init__) = some (.type "function"))
    (xhd_BadFigures___init__ : PySem.W.hasDictIn K C_BadFigures = true)
    (xup_BadFigures___init__ : PySem.W.ks_superIn K C_BadFigures C_BadFigures "__init__" = some (some (.builtin "ValueError.__init__")))
    (xan_BadFigures___init__ : PySem.W.nsIn K PySem.cStatics "thirdparty.any" = some none)
    (xve_BadFigures___init__ : PySem.W.subIn K (.ref C_BadFigures) (.type "ValueError") = some true)
    (xow_BadFigures___init__ : PySem.W.mroIn K C_BadFigures (.ref C_BadFigures) = some true)
    (rmn_BadFigures___init__ : (l.prog.main.scope.names.lookup ("super" : Str)).isSome = false)
    (xfn_BadFigures___init__ : K.lookup a_BadFigures___init__ = some ⟨oc_BadFigures___init__, od_BadFigures___init__, .func (PySem.W.ksFn "__init__" "BadFigures.__init__" (defArgs s_BadFigures___init__) (defBody s_BadFigures___init__) (defScope s_BadFigures___init__) .none .none dc_BadFigures___init__ pm_BadFigures___init__ an_BadFigures___init__ (.ref cda_BadFigures___init__) ct_BadFigures___init__ cc_BadFigures___init__), sl_BadFigures___init__⟩)
    (xco_BadFigures___init__ : PySem.W.codeIn K (.ref cda_BadFigures___init__) "BadFigures.__init__" = true)
    (xcd_BadFigures___init__ : K.lookup cda_BadFigures___init__ = some ⟨ccl_BadFigures___init__, cdd_BadFigures___init__, .fields vs_BadFigures___init__, ccs_BadFigures___init__⟩)
    (rvs_BadFigures___init__ : vs_BadFigures___init__[2]? = some (.str file_BadFigures___init__ tf_BadFigures___init__))
    (rfi_BadFigures___init__ : ((l.prog.main.file : Str) == file_BadFigures___init__) = true)
    (xcc_BadFigures___init__ : K.lookup cc_BadFigures___init__ = some ⟨cl_BadFigures___init__, cld_BadFigures___init__, .cell (some (.ref C_BadFigures)), csl_BadFigures___init__⟩)
    : ∃ fd : FuncData, (∀ (s : Shared) (v : Value), BindsTo s fd ⟨[v], []⟩ [("_law_script", v)]) ∧ ∀ base : Heap, K.In base → base.Ns mainGlobals mg → FnOk l.prog w K mg base CX0 lv_law fa fd ["_law_script"] (sp_law K) := by
  have e := hfa.symm.trans (PySem.W.mg_of X G gf_law)
  have e2 : a_law = fa := by cases e; rfl
  subst e2
  refine ⟨PySem.W.fnOf "law" "law" (defArgs s_law) (defBody s_law) (defScope s_law) .none kV_law dc_law pm_law an_law cd_law ct_law, fun s v => .of_eq rfl, fun base _ _ => ?_⟩
  exact ok_law (T :=
    { C_TrickError := C_TrickError,
      g_TrickError := PySem.W.mg_of X G gx_TrickError,
      x_TrickError := x_TrickError,
      k_TrickError := k_TrickError,
      s_TrickError := s_TrickError,
      t_TrickError := t_TrickError,
      C_BadBase := C_BadBase,
      g_BadBase := PySem.W.mg_of X G gx_BadBase,
      x_BadBase := x_BadBase,
      k_BadBase := k_BadBase,
      s_BadBase := s_BadBase,
      t_BadBase := t_BadBase,
      C_BadNumber := C_BadNumber,
      g_BadNumber := PySem.W.mg_of X G gx_BadNumber,
      k_BadNumber := k_BadNumber,
      s_BadNumber := s_BadNumber,
      t_BadNumber := t_BadNumber,
      C_BadFigures := C_BadFigures,
      g_BadFigures := PySem.W.mg_of X G gx_BadFigures,
      k_BadFigures := k_BadFigures,
      s_BadFigures := s_BadFigures,
      t_BadFigures := t_BadFigures,
      t_c_GREATEST_NUMBER := tk_GREATEST_NUMBER,
      c_GREATEST_NUMBER := PySem.W.mg_of X G cx_GREATEST_NUMBER,
      t_c_LEAST_BASE := tk_LEAST_BASE,
      c_LEAST_BASE := PySem.W.mg_of X G cx_LEAST_BASE,
      t_c_GREATEST_BASE := tk_GREATEST_BASE,
      c_GREATEST_BASE := PySem.W.mg_of X G cx_GREATEST_BASE,
      t_c_MOST_FIGURES := tk_MOST_FIGURES,
      c_MOST_FIGURES := PySem.W.mg_of X G cx_MOST_FIGURES,
      a_is_integer := a_is_integer,
      d_is_integer := _,
      F_is_integer := fun_mk (st := s_is_integer) l_is_integer c_is_integer kp_is_integer,
      b_is_integer := (fun_mk (st := s_is_integer) l_is_integer c_is_integer kp_is_integer).binds (ps := ["told", "low", "high"]) fun _ _ _ _ _ _ us hl => match us, hl with | [_, _, _], _ => rfl,
      g_is_integer := PySem.W.mg_of X G gf_is_integer,
      a_is_tuple := a_is_tuple,
      d_is_tuple := _,
      F_is_tuple := fun_mk (st := s_is_tuple) l_is_tuple c_is_tuple kp_is_tuple,
      b_is_tuple := (fun_mk (st := s_is_tuple) l_is_tuple c_is_tuple kp_is_tuple).binds (ps := ["told", "fewest", "most"]) fun _ _ _ _ _ _ us hl => match us, hl with | [_, _, _], _ => rfl,
      g_is_tuple := PySem.W.mg_of X G gf_is_tuple,
      a_first_wrong := a_first_wrong,
      d_first_wrong := _,
      F_first_wrong := fun_mk (st := s_first_wrong) l_first_wrong c_first_wrong kp_first_wrong,
      b_first_wrong := (fun_mk (st := s_first_wrong) l_first_wrong c_first_wrong kp_first_wrong).binds (ps := ["told", "low", "high"]) fun _ _ _ _ _ _ us hl => match us, hl with | [_, _, _], _ => rfl,
      g_first_wrong := PySem.W.mg_of X G gf_first_wrong,
      a_check_base := a_check_base,
      d_check_base := _,
      F_check_base := fun_mk (st := s_check_base) l_check_base c_check_base kp_check_base,
      b_check_base := (fun_mk (st := s_check_base) l_check_base c_check_base kp_check_base).binds (ps := ["base"]) fun _ _ _ _ _ _ us hl => match us, hl with | [_], _ => rfl,
      g_check_base := PySem.W.mg_of X G gf_check_base,
      a_check_stretch := a_check_stretch,
      d_check_stretch := _,
      F_check_stretch := fun_mk (st := s_check_stretch) l_check_stretch c_check_stretch kp_check_stretch,
      b_check_stretch := (fun_mk (st := s_check_stretch) l_check_stretch c_check_stretch kp_check_stretch).binds (ps := ["n", "low", "high"]) fun _ _ _ _ _ _ us hl => match us, hl with | [_, _, _], _ => rfl,
      g_check_stretch := PySem.W.mg_of X G gf_check_stretch,
      a_figures := a_figures,
      d_figures := _,
      F_figures := fun_mk (st := s_figures) l_figures c_figures kp_figures,
      b_figures := (fun_mk (st := s_figures) l_figures c_figures kp_figures).binds (ps := ["n", "base"]) fun _ _ _ _ _ _ us hl => match us, hl with | [_, _], _ => rfl,
      g_figures := PySem.W.mg_of X G gf_figures,
      a_number := a_number,
      d_number := _,
      F_number := fun_mk (st := s_number) l_number c_number kp_number,
      b_number := (fun_mk (st := s_number) l_number c_number kp_number).binds (ps := ["told", "base"]) fun _ _ _ _ _ _ us hl => match us, hl with | [_, _], _ => rfl,
      g_number := PySem.W.mg_of X G gf_number,
      a_check_figures := a_check_figures,
      d_check_figures := _,
      F_check_figures := fun_mk (st := s_check_figures) l_check_figures c_check_figures kp_check_figures,
      b_check_figures := (fun_mk (st := s_check_figures) l_check_figures c_check_figures kp_check_figures).binds (ps := ["told", "base", "fewest"]) fun _ _ _ _ _ _ us hl => match us, hl with | [_, _, _], _ => rfl,
      g_check_figures := PySem.W.mg_of X G gf_check_figures,
      a__law_taken := a__law_taken,
      d__law_taken := _,
      F__law_taken := fun_mk (st := s__law_taken) l__law_taken c__law_taken kp__law_taken,
      b__law_taken := (fun_mk (st := s__law_taken) l__law_taken c__law_taken kp__law_taken).binds (ps := ["_law_row", "_law_many"]) fun _ _ _ _ _ _ us hl => match us, hl with | [_, _], _ => rfl,
      g__law_taken := PySem.W.mg_of X G gf__law_taken,
      a__law_number := a__law_number,
      d__law_number := _,
      F__law_number := fun_mk (st := s__law_number) l__law_number c__law_number kp__law_number,
      b__law_number := (fun_mk (st := s__law_number) l__law_number c__law_number kp__law_number).binds (ps := ["_law_row"]) fun _ _ _ _ _ _ us hl => match us, hl with | [_], _ => rfl,
      g__law_number := PySem.W.mg_of X G gf__law_number,
      a__law_figures := a__law_figures,
      d__law_figures := _,
      F__law_figures := fun_mk (st := s__law_figures) l__law_figures c__law_figures kp__law_figures,
      b__law_figures := (fun_mk (st := s__law_figures) l__law_figures c__law_figures kp__law_figures).binds (ps := ["_law_n", "_law_base"]) fun _ _ _ _ _ _ us hl => match us, hl with | [_, _], _ => rfl,
      g__law_figures := PySem.W.mg_of X G gf__law_figures,
      a_law := a_law,
      d_law := _,
      F_law := fun_mk (st := s_law) l_law c_law kp_law,
      b_law := (fun_mk (st := s_law) l_law c_law kp_law).binds (ps := ["_law_script"]) fun _ _ _ _ _ _ us hl => match us, hl with | [_], _ => rfl,
      g_law := PySem.W.mg_of X G gf_law,
      n_int := PySem.W.mg_none_of X G z_int,
      n_bool := PySem.W.mg_none_of X G z_bool,
      n_len := PySem.W.mg_none_of X G z_len,
      n_range := PySem.W.mg_none_of X G z_range,
      n_isinstance := PySem.W.mg_none_of X G z_isinstance,
      n_tuple := PySem.W.mg_none_of X G z_tuple,
      n_reversed := PySem.W.mg_none_of X G z_reversed,
      n_enumerate := PySem.W.mg_none_of X G z_enumerate,
      n_abs := PySem.W.mg_none_of X G z_abs,
      n_super := PySem.W.mg_none_of X G z_super,
      n_ValueError := PySem.W.mg_none_of X G z_ValueError,
      a_BadNumber___init__ := a_BadNumber___init__,
      x_BadNumber := { gC := PySem.W.mg_of X G gx_BadNumber, cls := ⟨_, _, _, _, _, _, _, _, _, _, _, _, _, _, _, xl_BadNumber___init__, xrb_BadNumber___init__⟩, sa := xsa_BadNumber___init__, ga := xga_BadNumber___init__, gg := xgg_BadNumber___init__, noF := xnf_BadNumber___init__, iC := xic_BadNumber___init__, tC := xtc_BadNumber___init__, kC := k_BadNumber, exC := s_BadNumber, tyC := t_BadNumber, hdC := xhd_BadNumber___init__, up := xup_BadNumber___init__, any := xan_BadNumber___init__, ve := xve_BadNumber___init__, own := xow_BadNumber___init__, sup := PySem.W.mg_none_of X G z_super, main := rmn_BadNumber___init__, fn := ⟨_, _, _, _, _, _, _, _, _, _, _, _, _, _, _, _, _, _, _, xfn_BadNumber___init__, xco_BadNumber___init__, xcd_BadNumber___init__, rvs_BadNumber___init__, rfi_BadNumber___init__, xcc_BadNumber___init__⟩, text := ⟨_, _, _, _, _, _, _, _, _, _, _, rfl, rfl, fun _ => rfl⟩, kS := rfl, kK := rfl, k0 := rfl, kF := rfl, nF := by decide, nD := by decide, noCell := by decide +kernel, bind := fun _ _ _ _ _ _ _ _ _ => rfl, plain := fun _ => rfl, knd := rfl, co := rfl, gen := rfl },
      a_BadFigures___init__ := a_BadFigures___init__,
      x_BadFigures := { gC := PySem.W.mg_of X G gx_BadFigures, cls := ⟨_, _, _, _, _, _, _, _, _, _, _, _, _, _, _, xl_BadFigures___init__, xrb_BadFigures___init__⟩, sa := xsa_BadFigures___init__, ga := xga_BadFigures___init__, gg := xgg_BadFigures___init__, noF := xnf_BadFigures___init__, iC := xic_BadFigures___init__, tC := xtc_BadFigures___init__, kC := k_BadFigures, exC := s_BadFigures, tyC := t_BadFigures, hdC := xhd_BadFigures___init__, up := xup_BadFigures___init__, any := xan_BadFigures___init__, ve := xve_BadFigures___init__, own := xow_BadFigures___init__, sup := PySem.W.mg_none_of X G z_super, main := rmn_BadFigures___init__, fn := ⟨_, _, _, _, _, _, _, _, _, _, _, _, _, _, _, _, _, _, _, xfn_BadFigures___init__, xco_BadFigures___init__, xcd_BadFigures___init__, rvs_BadFigures___init__, rfi_BadFigures___init__, xcc_BadFigures___init__⟩, text := ⟨_, _, _, _, _, _, _, _, _, _, _, rfl, rfl, fun _ => rfl⟩, kS := rfl, kK := rfl, k0 := rfl, kF := rfl, nF := by decide, nD := by decide, noCell := by decide +kernel, bind := fun _ _ _ _ _ _ _ _ _ => rfl, plain := fun _ => rfl, knd := rfl, co := rfl, gen := rfl } })
theorem walk {l : PySem.W.OpenLaw} {q : Program} {loose : List Str} {XP : (Str → Option Value) → Heap → Prop} {YP : World → Heap → Prop} {d : DefRec} {K : Params → PySem.W.Frag} (hn : l.most = some 63) (hdf : d.params.defaults = [])
    (hY : ∀ (w : World) (h : Heap), YP w h → (K w.params).In h)
    (F : ∀ (w : World) (mg : Str → Option Value) (fa : Addr) (h : Heap), (K w.params).In h → h.Ns mainGlobals mg → mg d.name = some (.ref fa) →
      ∃ fd : FuncData, (∀ (s : Shared) (u : Value), BindsTo s fd ⟨[u], []⟩ [("_law_script", u)]) ∧ ∀ base : Heap, (K w.params).In base → base.Ns mainGlobals mg → FnOk l.prog w (K w.params) mg base CX0 lv_law fa fd ["_law_script"] (sp_law (K w.params))) :
    PySem.W.WalkO q loose XP YP l.row.toRowW d [] (fun f vs => PySem.call f vs) :=
  L2.walk_of (n := 63) (k := lv_law) (x := "_law_script") (CX := fun _ => CX0) (sp := fun w => sp_law (K w.params)) hn (by decide) hdf ⟨rfl, by decide, by decide⟩ hY F (fun _ _ a ns hl hO hS => ⟨a, ns, rfl, scr_of hO hS, hl, fun _ => rfl⟩) fun _ _ _ _ _ z => z
end Rt
open PySem PySem.W PyProof.Rows
set_option maxRecDepth 100000 in
set_option maxHeartbeats 0 in
theorem PySem.Challenge.cw_resttricks_k01_whole_figures_holds : PySem.Challenge.rw_resttricks_k01_whole_figures.Holds := by
  w_on; o_law; k_head; (case hw => w_witness2)
  k_fill
  refine Rt.walk (l := PySem.Challenge.rw_resttricks_k01_whole_figures) rfl rfl (fun w h Y => PySem.W.kIn_of Y) ?F
  case F =>
    intro w mg fa h KX G hmg
    refine' Rt.all_mk KX G hmg ?gx_TrickError ?x_TrickError ?k_TrickError ?s_TrickError ?t_TrickError ?gx_BadBase ?x_BadBase ?k_BadBase ?s_BadBase ?t_BadBase ?gx_BadNumber ?k_BadNumber ?s_BadNumber ?t_BadNumber ?gx_BadFigures ?k_BadFigures ?s_BadFigures ?t_BadFigures ?cx_GREATEST_NUMBER ?cx_LEAST_BASE ?cx_GREATEST_BASE ?cx_MOST_FIGURES ?gf_is_integer ?l_is_integer ?c_is_integer ?kp_is_integer ?gf_is_tuple ?l_is_tuple ?c_is_tuple ?kp_is_tuple ?gf_first_wrong ?l_first_wrong ?c_first_wrong ?kp_first_wrong ?gf_check_base ?l_check_base ?c_check_base ?kp_check_base ?gf_check_stretch ?l_check_stretch ?c_check_stretch ?kp_check_stretch ?gf_figures ?l_figures ?c_figures ?kp_figures ?gf_number ?l_number ?c_number ?kp_number ?gf_check_figures ?l_check_figures ?c_check_figures ?kp_check_figures ?gf__law_taken ?l__law_taken ?c__law_taken ?kp__law_taken ?gf__law_number ?l__law_number ?c__law_number ?kp__law_number ?gf__law_figures ?l__law_figures ?c__law_figures ?kp__law_figures ?gf_law ?l_law ?c_law ?kp_law ?z_int ?z_bool ?z_len ?z_range ?z_isinstance ?z_tuple ?z_reversed ?z_enumerate ?z_abs ?z_super ?z_ValueError ?xl_BadNumber___init__ ?xrb_BadNumber___init__ ?xsa_BadNumber___init__ ?xga_BadNumber___init__ ?xgg_BadNumber___init__ ?xnf_BadNumber___init__ ?xic_BadNumber___init__ ?xtc_BadNumber___init__ ?xhd_BadNumber___init__ ?xup_BadNumber___init__ ?xan_BadNumber___init__ ?xve_BadNumber___init__ ?xow_BadNumber___init__ ?rmn_BadNumber___init__ ?xfn_BadNumber___init__ ?xco_BadNumber___init__ ?xcd_BadNumber___init__ ?rvs_BadNumber___init__ ?rfi_BadNumber___init__ ?xcc_BadNumber___init__ ?xl_BadFigures___init__ ?xrb_BadFigures___init__ ?xsa_BadFigures___init__ ?xga_BadFigures___init__ ?xgg_BadFigures___init__ ?xnf_BadFigures___init__ ?xic_BadFigures___init__ ?xtc_BadFigures___init__ ?xhd_BadFigures___init__ ?xup_BadFigures___init__ ?xan_BadFigures___init__ ?xve_BadFigures___init__ ?xow_BadFigures___init__ ?rmn_BadFigures___init__ ?xfn_BadFigures___init__ ?xco_BadFigures___init__ ?xcd_BadFigures___init__ ?rvs_BadFigures___init__ ?rfi_BadFigures___init__ ?xcc_BadFigures___init__
    (case gx_TrickError => k_is)
    (case x_TrickError => k_exc)
    (case k_TrickError => k_is)
    (case s_TrickError => k_is)
    (case t_TrickError => k_is)
    (case gx_BadBase => k_is)
    (case x_BadBase => k_exc)
    (case k_BadBase => k_is)
    (case s_BadBase => k_is)
    (case t_BadBase => k_is)
    (case gx_BadNumber => k_is)
    (case k_BadNumber => k_is)
    (case s_BadNumber => k_is)
    (case t_BadNumber => k_is)
    (case gx_BadFigures => k_is)
    (case k_BadFigures => k_is)
    (case s_BadFigures => k_is)
    (case t_BadFigures => k_is)
    (case cx_GREATEST_NUMBER => k_is)
    (case cx_LEAST_BASE => k_is)
    (case cx_GREATEST_BASE => k_is)
    (case cx_MOST_FIGURES => k_is)
    (case gf_is_integer => k_is)
    (case l_is_integer => k_is)
    (case c_is_integer => k_is)
    (case kp_is_integer => k_is)
    (case gf_is_tuple => k_is)
    (case l_is_tuple => k_is)
    (case c_is_tuple => k_is)
    (case kp_is_tuple => k_is)
    (case gf_first_wrong => k_is)
    (case l_first_wrong => k_is)
    (case c_first_wrong => k_is)
    (case kp_first_wrong => k_is)
    (case gf_check_base => k_is)
    (case l_check_base => k_is)
    (case c_check_base => k_is)
    (case kp_check_base => k_is)
    (case gf_check_stretch => k_is)
    (case l_check_stretch => k_is)
    (case c_check_stretch => k_is)
    (case kp_check_stretch => k_is)
    (case gf_figures => k_is)
    (case l_figures => k_is)
    (case c_figures => k_is)
    (case kp_figures => k_is)
    (case gf_number => k_is)
    (case l_number => k_is)
    (case c_number => k_is)
    (case kp_number => k_is)
    (case gf_check_figures => k_is)
    (case l_check_figures => k_is)
    (case c_check_figures => k_is)
    (case kp_check_figures => k_is)
    (case gf__law_taken => k_is)
    (case l__law_taken => k_is)
    (case c__law_taken => k_is)
    (case kp__law_taken => k_is)
    (case gf__law_number => k_is)
    (case l__law_number => k_is)
    (case c__law_number => k_is)
    (case kp__law_number => k_is)
    (case gf__law_figures => k_is)
    (case l__law_figures => k_is)
    (case c__law_figures => k_is)
    (case kp__law_figures => k_is)
    (case gf_law => k_is)
    (case l_law => k_is)
    (case c_law => k_is)
    (case kp_law => k_is)
    (case z_int => k_is)
    (case z_bool => k_is)
    (case z_len => k_is)
    (case z_range => k_is)
    (case z_isinstance => k_is)
    (case z_tuple => k_is)
    (case z_reversed => k_is)
    (case z_enumerate => k_is)
    (case z_abs => k_is)
    (case z_super => k_is)
    (case z_ValueError => k_is)
    (case xl_BadNumber___init__ => k_is)
    (case xrb_BadNumber___init__ => first | rfl | decide +kernel)
    (case xsa_BadNumber___init__ => k_is)
    (case xga_BadNumber___init__ => k_is)
    (case xgg_BadNumber___init__ => k_is)
    (case xnf_BadNumber___init__ => k_is)
    (case xic_BadNumber___init__ => k_is)
    (case xtc_BadNumber___init__ => k_is)
    (case xhd_BadNumber___init__ => k_is)
    (case xup_BadNumber___init__ => ks_is)
    (case xan_BadNumber___init__ => k_is)
    (case xve_BadNumber___init__ => k_is)
    (case xow_BadNumber___init__ => k_is)
    (case rmn_BadNumber___init__ => first | rfl | decide +kernel)
    (case xfn_BadNumber___init__ => k_is)
    (case xco_BadNumber___init__ => k_is)
    (case xcd_BadNumber___init__ => k_is)
    (case rvs_BadNumber___init__ => first | rfl | decide +kernel)
    (case rfi_BadNumber___init__ => first | rfl | decide +kernel)
    (case xcc_BadNumber___init__ => k_is)
    (case xl_BadFigures___init__ => k_is)
    (case xrb_BadFigures___init__ => first | rfl | decide +kernel)
    (case xsa_BadFigures___init__ => k_is)
    (case xga_BadFigures___init__ => k_is)
    (case xgg_BadFigures___init__ => k_is)
    (case xnf_BadFigures___init__ => k_is)
    (case xic_BadFigures___init__ => k_is)
    (case xtc_BadFigures___init__ => k_is)
    (case xhd_BadFigures___init__ => k_is)
    (case xup_BadFigures___init__ => ks_is)
    (case xan_BadFigures___init__ => k_is)
    (case xve_BadFigures___init__ => k_is)
    (case xow_BadFigures___init__ => k_is)
    (case rmn_BadFigures___init__ => first | rfl | decide +kernel)
    (case xfn_BadFigures___init__ => k_is)
    (case xco_BadFigures___init__ => k_is)
    (case xcd_BadFigures___init__ => k_is)
    (case rvs_BadFigures___init__ => first | rfl | decide +kernel)
    (case rfi_BadFigures___init__ => first | rfl | decide +kernel)
    (case xcc_BadFigures___init__ => k_is)
#print axioms PySem.Challenge.cw_resttricks_k01_whole_figures_holds
