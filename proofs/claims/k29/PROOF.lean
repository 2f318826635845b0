import PyProof.Rows.All
import Wide.All
import OpenK.AllK
import Wide.FinOn
import HandS.ForMost
import HandS.Exc
import HandS.TryOnly
import HandS.ExcOwn
import HandS.WordsExc
import HandS.TryMany
import HandS.IsInst
import HandS.Property
import HandS.Wide
import HandS.SortInts
import HandS.Conv
import HandS.Evl
import HandS.NoneIn
import HandS.ExcIs
import HandS.ExcSuper
import KE.KExcSuper
import KE.KExcInit
import KE.GoesMore
import HandS.Rev
import HandS.FStr
import HandS.Walk
import HandS.WideMore
import HandS.TupAny
import HandS.TupMul
import HandS.Style
import HandS.SetFor
import HandS.Strs
import HandS.Defaults
import HandS.RaiseMore
import HandS.Zip
import PySem.Challenge.RW_resttricks_k29_whole_good_divisors
set_option Elab.async false
set_option linter.all false
set_option maxRecDepth 100000
set_option maxHeartbeats 2000000
namespace Rt
open PySem L2 PySem.Spec PyProof.Rows
/-! ### the text by places -/
def topS (i : Nat) : Stmt := PySem.Challenge.pw_resttricks_k29_whole_good_divisors.main.body.getD i (.Pass ⟨0, 0, 0, 0⟩)
abbrev s_is_integer : Stmt := topS 9
abbrev s_check_base : Stmt := topS 10
abbrev s_check_divisor : Stmt := topS 11
abbrev s_check_stretch : Stmt := topS 12
abbrev s_slip : Stmt := topS 15
abbrev s_swap : Stmt := topS 16
abbrev s_good_divisors : Stmt := topS 17
abbrev s_check_length : Stmt := topS 18
abbrev s_least_unseen : Stmt := topS 19
abbrev s__law_taken : Stmt := topS 21
abbrev s_law : Stmt := topS 22
abbrev s_BadNumber___init__ : Stmt := inClass (topS 3) 0
theorem sc_is_integer : FnScope ["told", "low", "high"] ["told", "low", "high"] (defScope s_is_integer) := ⟨rfl, rfl, rfl, by decide +kernel, rfl, by decide +kernel, by decide +kernel⟩
abbrev lv_is_integer : Nat := 1
theorem sc_check_base : FnScope ["base"] ["base"] (defScope s_check_base) := ⟨rfl, rfl, rfl, by decide +kernel, rfl, by decide +kernel, by decide +kernel⟩
abbrev lv_check_base : Nat := 2
theorem sc_check_divisor : FnScope ["d", "greatest"] ["d", "greatest"] (defScope s_check_divisor) := ⟨rfl, rfl, rfl, by decide +kernel, rfl, by decide +kernel, by decide +kernel⟩
abbrev lv_check_divisor : Nat := 2
theorem sc_check_stretch : FnScope ["n", "low", "high"] ["n", "low", "high"] (defScope s_check_stretch) := ⟨rfl, rfl, rfl, by decide +kernel, rfl, by decide +kernel, by decide +kernel⟩
abbrev lv_check_stretch : Nat := 3
theorem sc_slip : FnScope ["base", "d", "length"] ["base", "d", "length"] (defScope s_slip) := ⟨rfl, rfl, rfl, by decide +kernel, rfl, by decide +kernel, by decide +kernel⟩
abbrev lv_slip : Nat := 5
theorem sc_swap : FnScope ["base", "d", "length", "far", "power", "_"] ["base", "d", "length", "far"] (defScope s_swap) := ⟨rfl, rfl, rfl, by decide +kernel, rfl, by decide +kernel, by decide +kernel⟩
abbrev lv_swap : Nat := 5
theorem sc_good_divisors : FnScope ["base", "length", "most", "d"] ["base", "length", "most"] (defScope s_good_divisors) := ⟨rfl, rfl, rfl, by decide +kernel, rfl, by decide +kernel, by decide +kernel⟩
abbrev lv_good_divisors : Nat := 6
theorem sc_check_length : FnScope ["length"] ["length"] (defScope s_check_length) := ⟨rfl, rfl, rfl, by decide +kernel, rfl, by decide +kernel, by decide +kernel⟩
abbrev lv_check_length : Nat := 4
theorem sc_least_unseen : FnScope ["base", "d", "places", "change", "rest", "place", "difference"] ["base", "d", "places", "change"] (defScope s_least_unseen) := ⟨rfl, rfl, rfl, by decide +kernel, rfl, by decide +kernel, by decide +kernel⟩
abbrev lv_least_unseen : Nat := 1
theorem sc__law_taken : FnScope ["_law_row", "_law_many", "_law_found", "_law_cell"] ["_law_row", "_law_many"] (defScope s__law_taken) := ⟨rfl, rfl, rfl, by decide +kernel, rfl, by decide +kernel, by decide +kernel⟩
abbrev lv__law_taken : Nat := 1
theorem sc_law : FnScope ["_law_script", "_law_line", "_law_base", "_law_length", "_law_most", "_law_due", "_law_d"] ["_law_script"] (defScope s_law) := ⟨rfl, rfl, rfl, by decide +kernel, rfl, by decide +kernel, by decide +kernel⟩
abbrev lv_law : Nat := 8
/-! ### what is known of the top behind its run -/
/-! ### an own error whose __init__ says super().__init__(text); self.F = F -/
end Rt
namespace ErrX
open PySem PySem.W PySem.Calls PyProof.Rows PySem.HandSPX
/-- what the written part says of such a class at C, its field F, its __init__ at fI -/
structure ErrTxt (P : Program) (K : Frag) (mg : Str → Option Value) (x fld : Str) (C fI : Addr) (ae : PySem.Expr) (st : Stmt) : Prop where
  gC : mg x = some (.ref C)
  cls : ∃ nm q N bs bm sn sub ab col dd k0 k1 k2 k3 k5, K.lookup C = some (excClassObj nm q C N bs bm true sn sub ab col dd k0 k1 k2 k3 k5 "ValueError.__new__") ∧ refsVE bm = true
  sa : findIn K (.ref C) "__setattr__" = some (some (.builtin "object.__setattr__"))
  ga : findIn K (.ref C) "__getattribute__" = some (some (.builtin "BaseException.__getattribute__"))
  gg : findIn K (.ref C) "__getattr__" = some none
  noF : findIn K (.ref C) fld = some none
  iC : findIn K (.ref C) "__init__" = some (some (.ref fI))
  tC : typeIn K (.ref fI) = some (.type "function")
  kC : keepIn K (.ref C) = true
  exC : subIn K (.ref C) (.type "BaseException") = some true
  tyC : typeIn K (.ref C) = some (.type "type")
  hdC : hasDictIn K C = true
  up : ks_superIn K C C "__init__" = some (some (.builtin "ValueError.__init__"))
  any : nsIn K cStatics "thirdparty.any" = some none
  ve : subIn K (.ref C) (.type "ValueError") = some true
  own : mroIn K C (.ref C) = some true
  sup : mg "super" = none
  main : (P.main.scope.names.lookup ("super" : Str)).isSome = false
  fn : ∃ (oc : Value) (od : Option Addr) (doc pm : Value) (an : Option Addr) (cda : Addr) (ct : Value) (osl : Array (Option Value)) (cc : Addr) (vs : Array Value) (file : Str) (tf : Tok) (ccl cl : Value) (cdd cld : Option Addr) (ccs csl : Array (Option Value)) (qual : Str),
    K.lookup fI = some ⟨oc, od, .func (ksFn "__init__" qual (L2.defArgs st) (L2.defBody st) (L2.defScope st) .none .none doc pm an (.ref cda) ct cc), osl⟩ ∧ codeIn K (.ref cda) qual = true ∧
    K.lookup cda = some ⟨ccl, cdd, .fields vs, ccs⟩ ∧ vs[2]? = some (.str file tf) ∧ ((P.main.file : Str) == file) = true ∧ K.lookup cc = some ⟨cl, cld, .cell (some (.ref C)), csl⟩
  text : ∃ (p0 p1 p2 p3 p4 q1 q2 q3 q4 a1 a2 : Pos), L2.defBody st = [.Expr (.Call (.Attribute (.Call (.Name "super" p0) [] [] p1) "__init__" p2) [ae] [] p3) p4, .Assign [.Attribute (.Name "self" q1) fld q2] (.Name fld q3) q4] ∧
    L2.defArgs st = { posonlyargs := [], args := [{ arg := "self", annotation := none, pos := a1 }, { arg := fld, annotation := none, pos := a2 }], vararg := none, kwonlyargs := [], kw_defaults := [], kwarg := none, defaults := [] } ∧
    ∀ env : Env, eval (.Call (.Attribute (.Call (.Name "super" p0) [] [] p1) "__init__" p2) [ae] [] p3) env = (do
      let ov ← attributeBase (.Call (.Name "super" p0) [] [] p1) "__init__" env (eval (.Call (.Name "super" p0) [] [] p1) env)
      standAt p2.atName
      let (f, first) ← holding [ov] (getMethod ov "__init__" (do return (← importBound (.Call (.Name "super" p0) [] [] p1) env).getD true))
      callWith p3 f first (backTo p3 (starEach [ae] env)) [])
  kS : (L2.defScope st).names.lookup ("super" : Str) = some .globalImplicit
  kK : (L2.defScope st).names.lookup ("__class__" : Str) = some .free
  k0 : (L2.defScope st).names.lookup ("self" : Str) = some .local
  kF : (L2.defScope st).names.lookup fld = some .local
  nF : (("self" : Str) == fld) = false
  nD : (fld == ("__debug__" : Str)) = false
  noCell : ∀ y ∈ (L2.defScope st).names, y.2 ≠ .cell
  bind : ∀ (qual : Str) (doc pm : Value) (an : Option Addr) (cda : Addr) (ct : Value) (cc : Addr) (u v : Value), bindArgs (ksFn "__init__" qual (L2.defArgs st) (L2.defBody st) (L2.defScope st) .none .none doc pm an (.ref cda) ct cc) ⟨[u, v], []⟩ = pure [(("self" : Str), u), (fld, v)]
  plain : ∀ env : Env, starEach (ae :: []) env = (false, eval ae env) :: starEach [] env
  knd : (L2.defScope st).kind = .function
  co : (L2.defScope st).isCoroutine = false
  gen : (L2.defScope st).isGenerator = false
/-- what __init__ leaves of a fresh error at x -/
structure EndOf (h h' : Heap) (x C dx t1 : Addr) (fld : Str) (v : Value) : Prop where
  keep : ∀ b o, b ≠ x → h.get? b = some o → h'.get? b = some o
  obj : h'.get? x = some { cls := .ref C, dict := some dx, data := .fields #[.ref t1, .none, .none, .none, .bool false, .none] }
  dbig : h.objs.size ≤ dx
  dne : dx ≠ x
  ns : h'.Ns1 dx (fun y => if y = fld then some v else none)
/-- the argument of super().__init__ is a text, whatever the field is -/
def ArgOk (prog : Program) (w : World) (ae : PySem.Expr) (fld : Str) (v : Value) : Prop := ∀ (env : Env) (m : Str → Option Value) (A : Around) (Q : Value → Shared → Prop) (E : Value → Shared → Prop) (s : Shared), s.heap.Ns env.locals m → m fld = some v → env.scope.kind = .function → env.kindOf fld = some .local →
  (∀ z t tk, Q (.str z t) { s with toks := tk }) → wpAny (model prog w) A (eval ae env) Q E s
theorem argOk_const {prog : Program} {w : World} {ae : PySem.Expr} {fld : Str} {v : Value} {z : Str} {k : Nat} {pos : Pos} (h : ae = .Constant (.str z) k pos) : ArgOk prog w ae fld v := by
  intro env m A Q E s _ _ _ _ hq
  rw [h]
  exact wpAny_Constant_str (hq _ _ _)
/-- None, or an int whose text is short -/
def NoneInt (v : L2.V) : Prop := v = .non ∨ ∃ i : Int, v = .int i ∧ i.natAbs.log2 < 1920
theorem argOk_f {prog : Program} {w : World} {ae : PySem.Expr} {fld : Str} {v : L2.V} {u : Value} {z : Str} {k : Nat} {p1 p2 p3 p4 : Pos} (n : NoneInt v) (r : L2.RelV v u)
    (h : ae = .JoinedStr [.Constant (.str z) k p1, .FormattedValue (.Name fld p2) (-1) none p3] p4 := by rfl) (hz : z.length ≤ 1000 := by decide) (hd : (fld == ("__debug__" : Str)) = false := by decide) : ArgOk prog w ae fld u := by
  intro env m A Q E s hn hv hk hl hq
  rw [h]
  have e0 : evalEach [.Constant (.str z) k p1, .FormattedValue (.Name fld p2) (-1) none p3] env = [eval (.Constant (.str z) k p1) env, eval (.FormattedValue (.Name fld p2) (-1) none p3) env] := by first | rfl | simp [evalEach]
  refine wpAny_JoinedStr ?_
  rw [e0]
  refine wpAny_Constant_str ?_
  have l0 : (Str.empty ++ z).length ≤ 1000 := by
    rw [Str.length_append]
    exact Nat.le_trans (Nat.le_of_eq (Nat.zero_add _)) hz
  refine ⟨z, _, rfl, Nat.le_trans l0 (by rw [sizeLine_eq]; decide), ?_⟩
  refine wpAny_FormattedValue_plain (wpAny_Name (wpAny_loadName_local hk hl hn hv ?_) hd)
  rcases n with rfl | ⟨i, rfl, hi⟩
  · cases r
    refine wpAny_formatField_none ⟨"None", _, rfl, ?_, ?_⟩
    · rw [Str.length_append, sizeLine_eq]
      have e : ("None" : Str).length = 4 := by decide
      omega
    · refine ⟨?_, hq _ _ _⟩
      rw [Str.length_append, sizeLine_eq]
      have e : ("None" : Str).length = 4 := by decide
      omega
  · obtain ⟨t, rfl⟩ := r
    refine wpAny_formatField_int hi ⟨_, _, rfl, ?_, ?_⟩
    · rw [Str.length_append, sizeLine_eq]
      have e := int_text_length_le (k := 1920) (by decide) hi
      have e2 : (Str.ofString (toString i)).length = (toString i).length := PySem.ofString_length _
      omega
    · refine ⟨?_, hq _ _ _⟩
      rw [Str.length_append, sizeLine_eq]
      have e := int_text_length_le (k := 1920) (by decide) hi
      have e2 : (Str.ofString (toString i)).length = (toString i).length := PySem.ofString_length _
      omega
/-- the argument of super().__init__ in the text of an __init__ -/
def aeOf (st : Stmt) : PySem.Expr := match L2.defBody st with
  | .Expr (.Call _ (a :: _) _ _) _ :: _ => a
  | _ => .Name "self" ⟨0, 0, 0, 0⟩
section
variable {prog : Program} {w : World} {A : Around} {E : Value → Shared → Prop} {hp : Heap} {g : Array GenState} {d : Drawn} {tk : Nat} {os : OsState}
/-- the bound __init__ of the base, called: the args are laid anew -/
theorem base_init {nm q : Str} {C N u e t0 : Addr} {bs bm : List Value} {sn : List Str} {sub : List Value} {ab : Bool} {col : Option Bool} {dd : Option Addr} {k0 k1 k2 k3 k5 : Option Value} {rest : List Value} {Q : Value → Shared → Prop}
    (hC : hp.get? C = some (excClassObj nm q C N bs bm true sn sub ab col dd k0 k1 k2 k3 k5 "ValueError.__new__")) (he : hp.get? e = some (excO C t0)) (hu : hp.get? u = some (kxs_mw "ValueError.__init__" e)) (hz : rest.length ≤ sizeLine)
    (k : ∀ h' t1, (∀ b o, b ≠ e → hp.get? b = some o → h'.get? b = some o) → h'.get? e = some (excO C t1) → Q .none ⟨h', g, d, tk, os⟩) : wpAny (model prog w) A (call (.ref u) rest) Q E ⟨hp, g, d, tk, os⟩ := by
  refine wpAny_call (codeAny_of_tree ?_)
  show wpAny _ A.in1 (callAny (.ref u) { pos := rest }) _ _ _
  unfold callAny
  refine wpAny_bind (wpAny_load hu ?_)
  have c1 : (Value.type "method-wrapper" == Value.type "method" || Value.type "method-wrapper" == Value.type "builtin_function_or_method" ||
    Value.type "method-wrapper" == Value.type "method-wrapper") = true := by decide
  simp only [kxs_mw, c1, if_true]
  refine KFB.if_so (by decide) (wpAny_bind (ESX.check_bound F.excBase_ValueError hC he rfl (wpAny_bind (wpAny_pure (wpAny_pure ?_)))))
  have FB := F.excBase_ValueError
  refine ⟨plainId_quiet FB.init.plain _, codeAny_builtin FB.initEntry ?_⟩
  rw [Around.under_plainId FB.init.plain _]
  wp_walk
  refine k _ hp.objs.size (fun b o n z => ?_) ?_
  · rw [Heap.get?_update_other _ _ (Ne.symm n)]
    exact Heap.get?_push_of_some _ z
  · rw [Heap.get?_update_self _ (Heap.get?_push_of_some _ he) rfl]
    rfl
theorem call_bound1 {M : Model} {s : Shared} {pos : Pos} {u b : Addr} {env : Env} {ae : PySem.Expr} {i : String} {Q : Value → Shared → Prop} (hpl : starEach (ae :: []) env = (false, eval ae env) :: starEach [] env)
    (h : wpAny M A (eval ae env) (fun v s₁ => KxsAt i u b s₁.heap ∧ wpAny M A (call (.ref u) [v]) Q E s₁) E s) : wpAny M A (callWith pos (.ref u) [] (backTo pos (starEach [ae] env)) []) Q E s := by
  have q : wpAny M A (spliced (backTo pos (starEach (ae :: []) env))) (fun vs s₁ => KxsAt i u b s₁.heap ∧ wpAny M A (call (.ref u) vs) Q E s₁) E s := args_cons (he := hpl) (wpAny_mono h (fun v s₁ z => wpAny_of_eq rfl z) fun _ _ z => z)
  rw [hpl] at q ⊢
  exact kxs_callWith (x := b) rfl (evalArgs_plain q)
theorem err_init {R : Result → Shared → Prop} {K : Frag} {mg mb : Str → Option Value} {x fld : Str} {C fI e t0 : Addr} {ae : PySem.Expr} {st : Stmt} {v : Value} (T : ErrTxt prog K mg x fld C fI ae st) (hA : ArgOk prog w ae fld v)
    (X : K.In hp) (hlim : hp.NoLimit) (hg : hp.Ns mainGlobals mg) (hb : hp.Ns builtinsNs mb) (hbb : ∀ y : Str, y ≠ "__name__" → mb y = bootBuiltins y) (he : hp.get? e = some (excO C t0)) (hne : K.lookup e = none) (hroom : A.depth < recursionLimit)
    (hq : ∀ h' tk dx t1, EndOf hp h' e C dx t1 fld v → R (.ok (.ret .none)) ⟨h', g, d, tk, os⟩) : codeAny (model prog w) A (.call (.ref fI) ⟨[.ref e, v], []⟩) R ⟨hp, g, d, tk, os⟩ := by
  obtain ⟨oc, od, doc, pm, an, cda, ct, osl, cc, vs, file, tf, ccl, cl, cdd, cld, ccs, csl, qual, lf, lc, lda, lvs, lfile, lcc⟩ := T.fn
  obtain ⟨p0, p1, p2, p3, p4, q1, q2, q3, q4, a1, a2, hB, hArgs, hcallE⟩ := T.text
  obtain ⟨nm, qn, N, bs, bm, sn, sub, ab, col, dd, k0, k1, k2, k3, k5, lC, hbm⟩ := T.cls
  have hcl : clsIn K C = some { name := nm, bases := bs, mro := .ref C :: bm, ns := N, qualname := qn, hasDict := true, slotNames := sn, subclasses := sub, abstract := ab, collection := col, hasDel := false } := by
    unfold clsIn
    rw [lC]
    all_goals rfl
  have hbind := T.bind qual doc pm an cda ct cc (.ref e) v
  rw [hB, hArgs] at lf hbind
  have neC : e ≠ C := fun z => by
    rw [z, lC] at hne
    cases hne
  refine ks_codeAny_call_defAt (binds := [("self", .ref e), (fld, v)]) hroom (X _ _ lf) rfl hlim (codeRec_of X lc) rfl (BindsTo.of_eq hbind) T.noCell ?_ (fun h1 hns keep => ?_) T.co T.gen T.knd
  · intro y hy
    rcases List.mem_cons.mp hy with z | hy
    · rw [z]; exact T.k0
    · rcases List.mem_cons.mp hy with z | hy
      · rw [z]; exact T.kF
      · cases hy
  have hint : ∀ env : Env, env.scope = L2.defScope st → interactive env = false := fun env z => by
    unfold interactive
    rw [z, T.knd]
    rfl
  have X1 : K.In h1 := X.keeps keep
  have he1 := keep _ _ he
  have m0 : ([("self", Value.ref e), (fld, v)] : List (Str × Value)).reverse.lookup ("self" : Str) = some (.ref e) := by
    show List.lookup ("self" : Str) [(fld, v), (("self" : Str), Value.ref e)] = some (.ref e)
    rw [List.lookup_cons, T.nF]
    rfl
  have mF : ([("self", Value.ref e), (fld, v)] : List (Str × Value)).reverse.lookup fld = some v := by
    show List.lookup fld [(fld, v), (("self" : Str), Value.ref e)] = some v
    rw [List.lookup_cons, beq_self_eq_true]
  obtain ⟨oD, hD1, hD2⟩ : ∃ oD : Obj, h1.get? C = some oD ∧ oD.data = .cls { name := nm, bases := bs, mro := .ref C :: bm, ns := N, qualname := qn, hasDict := true, slotNames := sn, subclasses := sub, abstract := ab, collection := col, hasDel := false } := ⟨_, X1 _ _ lC, rfl⟩
  refine ks_wpAt_execs_cons (ks_wpAt_Expr_any (hi := hint _ rfl) (ks_wpAt_MethodCall (he := hcallE _) (ks_wpAt_super_base T.kS T.kK (by decide) rfl (X1 _ _ lf) rfl rfl rfl (X1 _ _ lda) rfl lvs lfile T.main ?_)))
  refine ks_loadName_global T.knd T.kS (Calls.loadGlobal_builtin (hg.keeps keep) T.sup (hb.keeps keep) ((hbb _ (by decide +kernel)).trans (show bootBuiltins "super" = some (.type "super") by kernel_rfl)) ⟨rfl, ?_⟩)
  refine wpAny_loadName_free T.knd T.kK rfl ⟨_, X1 _ _ lcc, rfl⟩ ?_
  refine wpAny_loadName_local T.knd T.k0 hns m0 ?_
  refine ks_wpAny_isType_cls hD1 hD2 ⟨rfl, ?_⟩
  refine ks_wpAny_call_super hD1 hD2 he1 rfl (fun c z => by cases z) (looks_mroIn X1 T.own) (fun h2 hso k2 => ?_)
  have X2 : K.In h2 := X1.keeps k2
  have he2 := k2 _ _ he1
  have hup : alongIn K "__init__" (List.drop 1 (List.dropWhile (fun (z : Value) => z != Value.ref C) (.ref C :: bm))) = some (some (.builtin "ValueError.__init__")) := by
    have z := T.up
    unfold ks_superIn at z
    rw [hcl] at z
    exact z
  have I2 : InstAt h2 e (excO C t0) C none := ⟨he2, rfl, rfl, trivial⟩
  refine kxs_getMethod kxs_ValueError hso (looks_opaque X2 T.any) (l₀ := .ref C :: bm) (fun A Q E s k q => wpAny_bind ((looks_clsIn X2 hcl) A _ E s k (wpAny_pure q))) rfl X2 hup (I2.type.andThen (looks_subIn X2 T.ve)) neC (by decide) ?_
  have k3 : ∀ b o, h2.get? b = some o → (h2.push (kxs_mw "ValueError.__init__" e)).get? b = some o := fun b o z => Heap.get?_push_of_some _ z
  have k13 : ∀ b o, h1.get? b = some o → (h2.push (kxs_mw "ValueError.__init__" e)).get? b = some o := fun b o z => k3 _ _ (k2 _ _ z)
  have hn3 := hns.keeps k13
  refine call_bound1 (i := "ValueError.__init__") (b := e) (T.plain _) ?_
  refine hA _ _ _ _ _ _ hn3 mF T.knd T.kF fun z t tk => ⟨Heap.get?_push_at rfl rfl, ?_⟩
  refine base_init (X2.keeps k3 _ _ lC) (k3 _ _ he2) (Heap.get?_push_at rfl rfl) (by rw [sizeLine_eq]; exact Nat.le_of_ble_eq_true rfl) fun h4 t1 k4 he4 => ?_
  have X4 : K.In h4 := fun b o z => k4 _ _ (fun y => by rw [y, hne] at z; cases z) (X2.keeps k3 b o z)
  have hLe : hp.objs.size ≠ e := Nat.ne_of_gt (Heap.lt_size he)
  have hn4 : h4.Ns hp.objs.size (fun y => List.lookup y ([(("self" : Str), Value.ref e), (fld, v)] : List (Str × Value)).reverse) := by
    obtain ⟨oL, es, ep, hL, r⟩ := hn3
    exact ⟨oL, es, ep, k4 _ _ hLe hL, r⟩
  -- self.F = F
  refine wpAt_of_wpAny (wpAny_execs_cons (plainObj_wpAny_Assign_Attribute ?_))
  refine ESX.ldL hn4 mF (ESX.ldL hn4 m0 ?_ T.knd T.k0) T.knd T.kF T.nD
  refine set_plain X4 (ox := excO C t1) (od := none) ⟨he4, rfl, rfl, trivial⟩ T.sa ?_
  refine exc_osa X4 he4 hcl (show refsVE (.ref C :: bm) = true from hbm) rfl T.noF (fun h5 tk5 dx k5' dn dne he5 hn5 => ?_)
  have z : hp.objs.size ≤ dx := Nat.le_trans (Nat.le_of_lt (Nat.lt_of_lt_of_le hn4.lt (Nat.le_refl _))) dn
  exact wpAny_execs_nil (hq h5 tk5 dx t1 ⟨fun b o hbe y => k5' b o hbe (k4 b o hbe (k3 b o (k2 b o (keep b o y)))), he5, z, dne, hn5⟩)
/-- a made error -/
structure Made (h h' : Heap) (e C d : Addr) (fld : Str) (v : Value) : Prop where
  keep : ∀ b o, h.get? b = some o → h'.get? b = some o
  new : h.objs.size ≤ e
  obj : ∃ oe vs, h'.get? e = some oe ∧ oe.cls = .ref C ∧ oe.dict = some d ∧ oe.data = .fields vs ∧ vs[1]? = some .none
  dbig : h.objs.size ≤ d
  dne : d ≠ e
  ns : h'.Ns1 d (fun y => if y = fld then some v else none)
theorem err_made {R : Result → Shared → Prop} {K : Frag} {mg mb : Str → Option Value} {x fld : Str} {C fI : Addr} {ae : PySem.Expr} {st : Stmt} {v : Value} (T : ErrTxt prog K mg x fld C fI ae st) (hA : ArgOk prog w ae fld v)
    (X : K.In hp) (hlim : hp.NoLimit) (hg : hp.Ns mainGlobals mg) (hb : hp.Ns builtinsNs mb) (hbb : ∀ y : Str, y ≠ "__name__" → mb y = bootBuiltins y) (hroom : A.depth + 1 < recursionLimit)
    (hq : ∀ h' tk e dx, Made hp h' e C dx fld v → R (.ok (.ret (.ref e))) ⟨h', g, d, tk, os⟩) : codeAny (model prog w) A (.call (.ref C) ⟨[v], []⟩) R ⟨hp, g, d, tk, os⟩ := by
  obtain ⟨nm, qn, N, bs, bm, sn, sub, ab, col, dd, k0, k1, k2, k3, k5, lC, hbm⟩ := T.cls
  have k : ∀ b o, hp.get? b = some o → ((hp.push (kdv_tup [v])).push (excO C hp.objs.size)).get? b = some o := fun b o z => Heap.get?_push_of_some _ (Heap.get?_push_of_some _ z)
  have hget : ((hp.push (kdv_tup [v])).push (excO C hp.objs.size)).get? (hp.objs.size + 1) = some (excO C hp.objs.size) := by heap_get
  have hnx : K.lookup (hp.objs.size + 1) = none := by
    cases z : K.lookup (hp.objs.size + 1) with
    | none => rfl
    | some o => exact absurd (Nat.lt_of_succ_lt (Heap.lt_size (X _ _ z))) (Nat.lt_irrefl _)
  refine call_own F.excBase_ValueError (fun X => refsVE_contains X bm hbm) (X _ _ lC) (looks_findIn X T.iC) (fun self => bind_fn X self T.tC) (by rw [sizeLine_eq]; exact Nat.le_of_ble_eq_true rfl) ?_
  refine err_init T hA (X.keeps k) (hlim.keeps k) (hg.keeps k) (hb.keeps k) hbb hget hnx ?_ fun h' tk' dx t1 M => ?_
  · show A.depth + 1 < recursionLimit
    exact hroom
  · have old : ∀ b o, hp.get? b = some o → h'.get? b = some o := fun b o z => M.keep b o (Nat.ne_of_lt (Nat.lt_succ_of_lt (Heap.lt_size z))) (k b o z)
    have z : hp.objs.size + 1 + 1 ≤ dx := by
      have q := M.dbig
      rw [Heap.size_push, Heap.size_push] at q
      exact q
    exact ⟨rfl, hq h' tk' (hp.objs.size + 1) dx ⟨old, Nat.le_succ _, ⟨_, _, M.obj, rfl, rfl, rfl, rfl⟩, Nat.le_trans (Nat.le_trans (Nat.le_succ _) (Nat.le_succ _)) z, M.dne, M.ns⟩⟩
end
end ErrX
namespace L2
open PySem PySem.Spec PyProof.Rows ErrX
theorem relO_fld {v : V} {v' : Value} (fld : Str) (r : RelV v v') (f : Str) : RelO (List.lookup f [(fld, v)]) (if f = fld then some v' else none) := by
  by_cases hw : f = fld
  · subst hw
    rw [if_pos rfl]
    have q : List.lookup f [(f, v)] = some v := by simp [List.lookup]
    rw [q]
    exact r
  · rw [if_neg hw]
    have qw : (f == fld) = false := by simpa using hw
    have q2 : List.lookup f [(fld, v)] = none := by simp [List.lookup, qw]
    rw [q2]
    trivial
section
variable {X : Cx} {C fI : Addr} {x fld : Str} {ae : PySem.Expr} {st : Stmt}
/-- Bad(e) -/
def tMkErr (C : Addr) (fld : Str) (ok : V → Prop) (ta : TA) : L2.St → Hp → XK → Prop := fun σ H Q => ta σ H fun vs H1 => ∃ v, vs = [v] ∧ ok v ∧ ∀ d, H1 d = none → Q (.ref C) (some d) (upd H1 d (.xd [(fld, v)]))
theorem pmk_err {ok : V → Prop} {a : PySem.Expr} {ta : TA} {p pos : Pos} {k : Nat} (T : ErrTxt X.prog X.K X.mg x fld C fI ae st) (hA : ∀ v u, ok v → RelV v u → ArgOk X.prog X.w ae fld u) (hr : Room k X.A) (ha : PA X [a] ta) (hg : Gl X x) (hdb : (x == ("__debug__" : Str)) = false)
    (he : starEach (a :: []) X.env = (false, eval a X.env) :: starEach [] X.env) (hpl : (backTo pos (starEach [] X.env)).any (·.1) = false) :
    PMk X (.Call (.Name x p) [a] [] pos) (tMkErr C fld ok ta) := by
  intro pins s σ H Q I h
  refine wpAny_Call_Name_kw (ld_glob I hg T.gC ?_ hdb)
  refine PySem.W.callWith_K (h₀ := X.base) I.ok.mod.kin T.kC (thn (ha.run pos pins s σ H _ I h) fun us s1 hh => ?_) he hpl
  obtain ⟨vs, H1, I1, r1, v, ev, okv, q1⟩ := hh
  subst ev
  refine ⟨I1.kIn, ?_⟩
  cases r1 with
  | cons rv rn =>
    rename_i v' us'
    cases rn
    show wpAny _ _ (call (.ref C) [v']) _ _ _
    have hlim := I1.nolimit
    obtain ⟨mb, hb1, hb2⟩ := I1.mod.blt
    have hgN := I1.mod.glob.keeps I1.bk
    have hbN := hb1.keeps I1.bk
    obtain ⟨hp, g, dr, tk, os⟩ := s1
    refine wpAny_call (err_made T (hA v v' okv rv) I1.kIn hlim hgN hbN hb2 (by have := hr.dp; omega) fun h' tk' e d M => ?_)
    show MkP X pins σ Q (.ref e) ⟨h', g, dr, tk', os⟩
    obtain ⟨oe, fv, hoe, hc, hd, hdat, h1⟩ := M.obj
    have hns := M.ns
    obtain ⟨G', g1, g2⟩ := restrict h' fun b => decide (b ≠ e)
    have gk : ∀ b, b ≠ e → G'.get? b = h'.get? b := fun b hb => g1 b (decide_eq_true hb)
    have ge : G'.get? e = none := g2 e (by simp)
    have old : ∀ b o, hp.get? b = some o → G'.get? b = some o := fun b o q => (gk b (Nat.ne_of_lt (Nat.lt_of_lt_of_le (Heap.lt_size q) M.new))).trans (M.keep b o q)
    have ob : ObjOk X.prog X.w (upd H1 d (.xd [(fld, v)])) G' d (.xd [(fld, v)]) := ⟨_, hns.at (fun o q => (gk d M.dne).trans q), fun f => relO_fld fld rv f⟩
    have J : Inv X pins σ (upd H1 d (.xd [(fld, v)])) ⟨G', g, dr, tk', os⟩ := I1.laid (t' := tk') old M.dbig ob
    refine ⟨e, oe, fv, ⟨G', g, dr, tk', os⟩, _, .ref C, some d, rfl, J, fun b o q => ?_, ge, hoe, ⟨hc, hd⟩, hdat, h1, ?_, rfl, I1.bare, raises_own T.exC T.tyC, q1 d (I1.hok.fresh M.dbig)⟩
    · by_cases hb : b = e
      · have q' : G'.get? b = some o := q
        rw [hb, ge] at q'
        cases q'
      · exact (gk b hb).symm.trans q
    · rw [upd_ne (Ne.symm M.dne)]
      exact I1.hok.fresh M.new
/-- raise Bad(e) -/
def tRaiseF (C : Addr) (fld : Str) (ok : V → Prop) (W : WX) (ta : TA) : TS := fun _ σ H => tMkErr C fld ok ta σ H fun cls d H' => W cls d σ H'
theorem ps_raiseF {ok : V → Prop} {a : PySem.Expr} {ta : TA} {W : WX} {p pos pos2 : Pos} {k : Nat} (T : ErrTxt X.prog X.K X.mg x fld C fI ae st) (hA : ∀ v u, ok v → RelV v u → ArgOk X.prog X.w ae fld u) (hc : X.calm = true) (hr : Room k X.A) (tk : Takes X W) (ha : PA X [a] ta) (hg : Gl X x := by rfl)
    (hdb : (x == ("__debug__" : Str)) = false := by decide) (he : starEach (a :: []) X.env = (false, eval a X.env) :: starEach [] X.env := by rfl) (hpl : (backTo pos (starEach [] X.env)).any (·.1) = false := by rfl) :
    PS X (.Raise (some (.Call (.Name x p) [a] [] pos)) none pos2) (tRaiseF C fld ok W ta) := ps_raise hc tk (pmk_err T hA hr ha hg hdb he hpl)
/-- e.F, e the error that the suite holds (at a; its class cls, its dict d) -/
def tErrF (C : Addr) (fld : Str) (a : Addr) (cls : Value) (d : Option Addr) (te : TE) : TE := fun σ H Q => te σ H fun y H1 => y = .ref a ∧ cls = .ref C ∧ ∃ (dd : Addr) (v : V), d = some dd ∧ H1 dd = some (.xd [(fld, v)]) ∧ Q v H1
theorem pe_errF {P : Program} {a : Addr} {oe : Obj} {cls : Value} {d : Option Addr} {pn : List (Addr × Obj)} {e : PySem.Expr} {te : TE} {pos : Pos} (T : ErrTxt P X.K X.mg x fld C fI ae st) (hz : Zc cls d oe) (hf : ∃ vs, oe.data = .fields vs) (he : PE (X.suite a ((a, oe) :: pn)) e te)
    (hb : attributeBase e fld X.env (eval e X.env) = eval e X.env := by rfl) : PE (X.suite a ((a, oe) :: pn)) (.Attribute e fld pos) (tErrF C fld a cls d te) := by
  refine ⟨fun pins s σ H Q I h => ?_⟩
  refine attr_of hb (thn (he.run pins s σ H _ I h) fun u s1 hh => ?_)
  obtain ⟨y, H1, I1, rx, ex, ec, dd, v, ed, ea, q⟩ := hh
  subst ex
  obtain rfl : u = Value.ref a := rx
  subst ec
  subst ed
  obtain ⟨ha, _⟩ := I1.pin (a, oe) (List.mem_append_left _ List.mem_cons_self)
  obtain ⟨vs, hd⟩ := hf
  have hx : ObjOk X.prog X.w H1 s1.heap dd (.xd [(fld, v)]) := I1.hok dd _ ea
  obtain ⟨mA, hns, hr⟩ := hx
  obtain ⟨od, ho, hl⟩ := lookIn_ns hns
  have l : List.lookup fld [(fld, v)] = some v := by simp [List.lookup]
  obtain ⟨u, hu, ru⟩ := RelO.some_of (v := v) (o := mA fld) (by rw [← l]; exact hr fld)
  have J : PySem.W.InstAt s1.heap a oe C (some od) := ⟨ha, hz.1, by unfold PySem.W.notCls; rw [hd] <;> rfl, by rw [hz.2]; exact ho⟩
  exact HandSPX.exc_get I1.kIn J T.ga T.gg T.exC (PySem.W.findObj_own T.hdC T.noF rfl (by rw [hl, hu])) (handed_of ru) ⟨v, H1, I1.tok _, ru, q⟩
end
end L2
namespace Rt
open PySem L2 PySem.Spec PyProof.Rows

structure Tx (P : Program) (K : PySem.W.Frag) (mg : Str → Option Value) : Type where
  C_TrickError : Addr
  g_TrickError : mg "TrickError" = some (.ref C_TrickError)
  x_TrickError : PySem.W.excIn K C_TrickError [.type "ValueError", .type "Exception", .type "BaseException", .type "object"] "ValueError.__new__" = true
  k_TrickError : PySem.W.keepIn K (.ref C_TrickError) = true
  s_TrickError : PySem.W.subIn K (.ref C_TrickError) (.type "BaseException") = some true
  t_TrickError : PySem.W.typeIn K (.ref C_TrickError) = some (.type "type")
  C_BadBase : Addr
  g_BadBase : mg "BadBase" = some (.ref C_BadBase)
  x_BadBase : PySem.W.excIn K C_BadBase [.type "ValueError", .type "Exception", .type "BaseException", .type "object"] "ValueError.__new__" = true
  k_BadBase : PySem.W.keepIn K (.ref C_BadBase) = true
  s_BadBase : PySem.W.subIn K (.ref C_BadBase) (.type "BaseException") = some true
  t_BadBase : PySem.W.typeIn K (.ref C_BadBase) = some (.type "type")
  C_BadDivisor : Addr
  g_BadDivisor : mg "BadDivisor" = some (.ref C_BadDivisor)
  x_BadDivisor : PySem.W.excIn K C_BadDivisor [.type "ValueError", .type "Exception", .type "BaseException", .type "object"] "ValueError.__new__" = true
  k_BadDivisor : PySem.W.keepIn K (.ref C_BadDivisor) = true
  s_BadDivisor : PySem.W.subIn K (.ref C_BadDivisor) (.type "BaseException") = some true
  t_BadDivisor : PySem.W.typeIn K (.ref C_BadDivisor) = some (.type "type")
  C_BadNumber : Addr
  g_BadNumber : mg "BadNumber" = some (.ref C_BadNumber)
  k_BadNumber : PySem.W.keepIn K (.ref C_BadNumber) = true
  s_BadNumber : PySem.W.subIn K (.ref C_BadNumber) (.type "BaseException") = some true
  t_BadNumber : PySem.W.typeIn K (.ref C_BadNumber) = some (.type "type")
  t_c_LEAST_BASE : Tok
  c_LEAST_BASE : mg "LEAST_BASE" = some (.int 2 t_c_LEAST_BASE)
  t_c_GREATEST_BASE : Tok
  c_GREATEST_BASE : mg "GREATEST_BASE" = some (.int 16 t_c_GREATEST_BASE)
  t_c_GREATEST_DIVISOR : Tok
  c_GREATEST_DIVISOR : mg "GREATEST_DIVISOR" = some (.int 100 t_c_GREATEST_DIVISOR)
  t_c_GREATEST_LENGTH : Tok
  c_GREATEST_LENGTH : mg "GREATEST_LENGTH" = some (.int 40 t_c_GREATEST_LENGTH)
  a_is_integer : Addr
  d_is_integer : FuncData
  F_is_integer : Fun K "is_integer" "is_integer" s_is_integer a_is_integer d_is_integer
  b_is_integer : Binds K d_is_integer ["told", "low", "high"] []
  g_is_integer : mg "is_integer" = some (.ref a_is_integer)
  a_check_base : Addr
  d_check_base : FuncData
  F_check_base : Fun K "check_base" "check_base" s_check_base a_check_base d_check_base
  b_check_base : Binds K d_check_base ["base"] []
  g_check_base : mg "check_base" = some (.ref a_check_base)
  a_check_divisor : Addr
  d_check_divisor : FuncData
  F_check_divisor : FunD K "check_divisor" "check_divisor" (defArgs s_check_divisor) (defBody s_check_divisor) (defScope s_check_divisor) [.int 100] [] a_check_divisor d_check_divisor
  b_check_divisor : Binds K d_check_divisor ["d", "greatest"] []
  ds_check_divisor : List Value
  rd_check_divisor : Vals [.int 100] ds_check_divisor
  bd_check_divisor : Binds K d_check_divisor ["d", "greatest"] ds_check_divisor
  g_check_divisor : mg "check_divisor" = some (.ref a_check_divisor)
  a_check_stretch : Addr
  d_check_stretch : FuncData
  F_check_stretch : Fun K "check_stretch" "check_stretch" s_check_stretch a_check_stretch d_check_stretch
  b_check_stretch : Binds K d_check_stretch ["n", "low", "high"] []
  g_check_stretch : mg "check_stretch" = some (.ref a_check_stretch)
  a_slip : Addr
  d_slip : FuncData
  F_slip : Fun K "slip" "slip" s_slip a_slip d_slip
  b_slip : Binds K d_slip ["base", "d", "length"] []
  g_slip : mg "slip" = some (.ref a_slip)
  a_swap : Addr
  d_swap : FuncData
  F_swap : Fun K "swap" "swap" s_swap a_swap d_swap
  b_swap : Binds K d_swap ["base", "d", "length", "far"] []
  g_swap : mg "swap" = some (.ref a_swap)
  a_good_divisors : Addr
  d_good_divisors : FuncData
  F_good_divisors : Fun K "good_divisors" "good_divisors" s_good_divisors a_good_divisors d_good_divisors
  b_good_divisors : Binds K d_good_divisors ["base", "length", "most"] []
  g_good_divisors : mg "good_divisors" = some (.ref a_good_divisors)
  a_check_length : Addr
  d_check_length : FuncData
  F_check_length : Fun K "check_length" "check_length" s_check_length a_check_length d_check_length
  b_check_length : Binds K d_check_length ["length"] []
  g_check_length : mg "check_length" = some (.ref a_check_length)
  a_least_unseen : Addr
  d_least_unseen : FuncData
  F_least_unseen : Fun K "least_unseen" "least_unseen" s_least_unseen a_least_unseen d_least_unseen
  b_least_unseen : Binds K d_least_unseen ["base", "d", "places", "change"] []
  g_least_unseen : mg "least_unseen" = some (.ref a_least_unseen)
  a__law_taken : Addr
  d__law_taken : FuncData
  F__law_taken : Fun K "_law_taken" "_law_taken" s__law_taken a__law_taken d__law_taken
  b__law_taken : Binds K d__law_taken ["_law_row", "_law_many"] []
  g__law_taken : mg "_law_taken" = some (.ref a__law_taken)
  a_law : Addr
  d_law : FuncData
  F_law : Fun K "law" "law" s_law a_law d_law
  b_law : Binds K d_law ["_law_script"] []
  g_law : mg "law" = some (.ref a_law)
  n_int : mg "int" = none
  n_bool : mg "bool" = none
  n_len : mg "len" = none
  n_range : mg "range" = none
  n_isinstance : mg "isinstance" = none
  n_super : mg "super" = none
  n_ValueError : mg "ValueError" = none
  a_BadNumber___init__ : Addr
  x_BadNumber : ErrX.ErrTxt P K mg "BadNumber" "n" C_BadNumber a_BadNumber___init__ (ErrX.aeOf s_BadNumber___init__) s_BadNumber___init__
/-! ### the program's own classes (no errors) -/
def OwnT {P : Program} {K : PySem.W.Frag} {mg : Str → Option Value} (T : Tx P K mg) (C : Addr) : Prop := False
theorem OwnT.ty {P : Program} {K : PySem.W.Frag} {mg : Str → Option Value} {T : Tx P K mg} {C : Addr} (t : OwnT T C) {H : Hp} {a dx : Addr} {fs : List (Str × V)} (e : H a = some (.ins C dx fs)) : TyOf K H (.ref a) (.ref C) := t.elim
theorem OwnT.nint {P : Program} {K : PySem.W.Frag} {mg : Str → Option Value} {T : Tx P K mg} {C : Addr} (t : OwnT T C) : PySem.W.kitOne K (.ref C) (.type "int") = some false := t.elim
theorem OwnT.nbool {P : Program} {K : PySem.W.Frag} {mg : Str → Option Value} {T : Tx P K mg} {C : Addr} (t : OwnT T C) : PySem.W.kitOne K (.ref C) (.type "bool") = some false := t.elim
theorem ar_BadNumber {P : Program} {w : World} : ∀ (v : V) (u : Value), True → RelV v u → ErrX.ArgOk P w (ErrX.aeOf s_BadNumber___init__) "n" u := fun _ _ _ _ => ErrX.argOk_const rfl
section
variable {P : Program} {w : World} {K : PySem.W.Frag} {mg : Str → Option Value} {base : Heap}
/-! ### heaps -/
/-- all but what stands at r is as it was -/
def But (r : Addr) (H H' : Hp) : Prop := ∀ b o, H b = some o → b ≠ r → H' b = some o
theorem But.refl (r : Addr) (H : Hp) : But r H H := fun _ _ e _ => e
theorem But.trans {r : Addr} {H H1 H2 : Hp} (a : But r H H1) (b : But r H1 H2) : But r H H2 := fun c o e n => b c o (a c o e n) n
theorem Same.but {r : Addr} {H H' : Hp} (a : Same H H') : But r H H' := fun c o e _ => a c o e
theorem But.put {r : Addr} {H : Hp} {o : HO} : But r H (upd H r o) := fun b _ e n => by rw [upd_ne n]; exact e
theorem But.seq {K : PySem.W.Frag} {r a : Addr} {H H' : Hp} {xs : List V} (e : But r H H') (n : a ≠ r) (h : SqL K H a xs) : SqL K H' a xs := by
  rcases h with (h | ⟨o, h⟩) | h
  · exact .inl (.inl (e _ _ h n))
  · exact .inl (.inr ⟨o, e _ _ h n⟩)
  · exact .inr h
theorem same_upd {H : Hp} {p : Addr} {o : HO} (h : H p = none) : Same H (upd H p o) := fun b x e => by
  rw [upd_ne (ne_of_none e h)]
  exact e
/-- any value of the document's point 1 -/
inductive AnyV (T : Addr → Prop) (H : Hp) : V → Prop where
  | non : AnyV T H .non
  | bl (b : Bool) : AnyV T H (.bl b)
  | int (i : Int) : AnyV T H (.int i)
  | str (x : Str) : AnyV T H (.str x)
  | lst {a : Addr} {xs : List V} (e : H a = some (.lst xs)) : AnyV T H (.ref a)
  | tup {a : Addr} {xs : List V} (e : H a = some (.tup xs)) : AnyV T H (.ref a)
  | dct {a : Addr} {kvs : List (Key × V)} (e : H a = some (.dK kvs)) : AnyV T H (.ref a)
  | ins {a C dx : Addr} {fs : List (Str × V)} (t : T C) (e : H a = some (.ins C dx fs)) : AnyV T H (.ref a)
/-- it is an integer from lo to hi -/
def intIn (x : V) (lo hi : Int) : Bool := match x with | .int i => decide (lo ≤ i) && decide (i ≤ hi) | _ => false
theorem intIn_of {i lo hi : Int} (h1 : lo ≤ i) (h2 : i ≤ hi) : intIn (.int i) lo hi = true := by
  show (decide (lo ≤ i) && decide (i ≤ hi)) = true
  rw [decide_eq_true h1, decide_eq_true h2]
  all_goals rfl
theorem small5 {n : Nat} (h : n ≤ 100000) : n < sizeLine := Nat.lt_of_le_of_lt h (by decide)
theorem dec_i (i j : Int) : decide (V.int i = V.int j) = decide (i = j) := by
  rw [Bool.eq_iff_iff]
  simp
theorem AnyV.mono {T : Addr → Prop} {H H' : Hp} {v : V} (a : AnyV T H v) (s : Same H H') : AnyV T H' v := by
  cases a with
  | non => exact .non
  | bl b => exact .bl b
  | int i => exact .int i
  | str x => exact .str x
  | lst e => exact .lst (s _ _ e)
  | tup e => exact .tup (s _ _ e)
  | dct e => exact .dct (s _ _ e)
  | ins t e => exact .ins t (s _ _ e)
theorem intIn_int' {x : V} {lo hi : Int} (h : intIn x lo hi = true) : ∃ i, x = .int i ∧ lo ≤ i ∧ i ≤ hi := by
  cases x with
  | int i =>
    have h2 : (decide (lo ≤ i) && decide (i ≤ hi)) = true := h
    rw [Bool.and_eq_true, decide_eq_true_iff, decide_eq_true_iff] at h2
    exact ⟨i, rfl, h2⟩
  | _ => cases h

/-! ### lists of ints -/
theorem dpAll_ints {H : Hp} : ∀ ns : List Int, DpAll K H (ns.map V.int) (ns.map PyData.int)
  | [] => .nil
  | n :: ns => .cons (.int n) (dpAll_ints ns)
theorem dp_ints {H : Hp} {a : Addr} {ns : List Int} (h : SqL K H a (ns.map V.int)) : Dp K H (.ref a) (.list (ns.map PyData.int)) := .lst h (dpAll_ints ns)
theorem dp_tints {H : Hp} {a : Addr} {ns : List Int} (h : SqT K H a (ns.map V.int)) : Dp K H (.ref a) (.tuple (ns.map PyData.int)) := .tup h (dpAll_ints ns)
theorem eqvAll_ints : ∀ ns ms : List Int, PyData.eqvAll (ns.map PyData.int) (ms.map PyData.int) = decide (ns = ms)
  | [], [] => rfl
  | [], _ :: _ => rfl
  | _ :: _, [] => rfl
  | n :: ns, m :: ms => by
    show (PyData.eqv (.int n) (.int m) && PyData.eqvAll (ns.map PyData.int) (ms.map PyData.int)) = _
    rw [eqvAll_ints ns ms]
    show ((n == m) && decide (ns = ms)) = _
    by_cases h1 : n = m
    · by_cases h2 : ns = ms
      · simp [h1, h2]
      · simp [h1, h2]
    · simp [h1]
theorem eqv_ints (ns ms : List Int) : PyData.eqv (.list (ns.map PyData.int)) (.list (ms.map PyData.int)) = decide (ns = ms) := eqvAll_ints ns ms
theorem eqv_tints (ns ms : List Int) : PyData.eqv (.tuple (ns.map PyData.int)) (.tuple (ms.map PyData.int)) = decide (ns = ms) := eqvAll_ints ns ms
theorem shaped_lints (ns : List Int) : SeqAt.shaped (.list (ns.map PyData.int)) = true := PySem.W.shaped_ints ns
/-- an item of a written list at a drawn place -/
theorem at_some (Pr : Int → Prop) {ns : List Int} (h : ∀ z ∈ ns, Pr z) {i : Int} (h0 : 0 ≤ i) (h1 : i < ns.length) : ∃ z, Pr z ∧ atI (ns.map V.int) i = some (V.int z) := by
  obtain ⟨z, hz⟩ : ∃ z, ns[i.toNat]? = some z := ⟨ns[i.toNat]'(by omega), List.getElem?_eq_getElem (by omega)⟩
  refine ⟨z, h z (List.mem_of_getElem? hz), at_of (j := i.toNat) (by omega) (by rw [List.getElem?_map, hz]; rfl)⟩
theorem sorted_ext {l m : List Int} (p : l.Perm m) (h1 : l.Pairwise (· ≤ ·)) (h2 : m.Pairwise (· ≤ ·)) : l = m :=
  p.eq_of_pairwise (fun a b _ _ x y => Int.le_antisymm x y) h1 h2
/-- reading an item within a comprehension: the written part said aloud -/
theorem ix_lK {X : Cx} (h : X.K = K) : IxR X (rIxL K) := by
  subst h
  exact ix_list
/-- the same of a tuple -/
theorem ix_tK {X : Cx} (h : X.K = K) : IxR X (rIxT K) := by
  subst h
  exact ix_tup
/-- name op= e, by the operation in place -/
theorem ip_op {X : Cx} {op : Operator} {r : R2} (ho : OpR X (inplaceOp op) r) : PIp X op r := fun pins s σ H x y v u Q I r1 r2 h => ho pins s σ H x y v u Q I r1 r2 h

/-! ### what is shallow enough to be compared -/
theorem lays_map {α : Type} (f : α → PyData) (k : Nat) (h : ∀ x, PyData.canLay0 (f x) = true ∧ PyData.depth (f x) ≤ k) : ∀ l : List α, PyData.canLayAll0 (l.map f) = true ∧ PyData.depthAll (l.map f) ≤ k
  | [] => ⟨by simp [PyData.canLayAll0], by simp [PyData.depthAll]⟩
  | x :: l => by
    have h1 := lays_map f k h l
    have h2 := h x
    refine ⟨by simp [PyData.canLayAll0, h1.1, h2.1], ?_⟩
    simp only [List.map_cons, PyData.depthAll]
    omega
theorem shaped_of {ds : List PyData} {k : Nat} (h : PyData.canLayAll0 ds = true ∧ PyData.depthAll ds ≤ k) (hk : k ≤ 60) : SeqAt.shaped (.list ds) = true ∧ SeqAt.shaped (.tuple ds) = true := by
  have e1 : PyData.depth (.list ds) ≤ 64 := by simp only [PyData.depth]; omega
  have e2 : PyData.depth (.tuple ds) ≤ 64 := by simp only [PyData.depth]; omega
  refine ⟨?_, ?_⟩
  · show (PyData.canLay0 (.list ds) && decide (PyData.depth (.list ds) ≤ 64)) = true
    rw [Bool.and_eq_true]
    exact ⟨by simp only [PyData.canLay0]; exact h.1, decide_eq_true e1⟩
  · show (PyData.canLay0 (.tuple ds) && decide (PyData.depth (.tuple ds) ≤ 64)) = true
    rw [Bool.and_eq_true]
    exact ⟨by simp only [PyData.canLay0]; exact h.1, decide_eq_true e2⟩
theorem lay_int (i : Int) : PyData.canLay0 (.int i) = true ∧ PyData.depth (.int i) ≤ 1 := ⟨by simp [PyData.canLay0], by simp [PyData.depth]⟩
theorem shaped_tints (ns : List Int) : SeqAt.shaped (.tuple (ns.map PyData.int)) = true := (shaped_of (lays_map PyData.int 1 lay_int ns) (by decide)).2

/-! ### is_integer, and the checks -/
def spIsInt (T : Tx P K mg) : Sp := fun vs H Q _ => ∃ (x : V) (lo hi : Int), vs = [x, .int lo, .int hi] ∧ AnyV (OwnT T) H x ∧ Q (.bl (intIn x lo hi)) H
theorem isi_int (T : Tx P K mg) {H : Hp} {x : V} (a : AnyV (OwnT T) H x) : ∃ t, TyX K H x t ∧ (∃ b, PySem.W.kitOne K t (.type "int") = some b ∧ (b = false → ∀ lo hi, intIn x lo hi = false) ∧ ∃ c, PySem.W.kitOne K t (.type "bool") = some c ∧ (c = true → ∀ lo hi, intIn x lo hi = false) ∧ (b = true → c = false → ∃ i, x = .int i)) := by
  cases a with
  | non => exact ⟨_, .base .non, false, kit_ty (by decide +kernel), fun _ _ _ => rfl, false, kit_ty (by decide +kernel), fun _ _ _ => rfl, fun z => nomatch z⟩
  | bl b => exact ⟨_, .base (.bl b), true, kit_ty (by decide +kernel), fun _ _ _ => rfl, true, kit_ty (by decide +kernel), fun _ _ _ => rfl, fun _ z => nomatch z⟩
  | int i => exact ⟨.type "int", .base (.int i), true, kit_ty (by decide +kernel), fun z => Bool.noConfusion z, false, kit_ty (by decide +kernel), fun z => Bool.noConfusion z, fun _ _ => ⟨i, rfl⟩⟩
  | str x => exact ⟨_, .base (.str x), false, kit_ty (by decide +kernel), fun _ _ _ => rfl, false, kit_ty (by decide +kernel), fun _ _ _ => rfl, fun z => nomatch z⟩
  | lst e => exact ⟨_, .base (.lst e), false, kit_ty (by decide +kernel), fun _ _ _ => rfl, false, kit_ty (by decide +kernel), fun _ _ _ => rfl, fun z => nomatch z⟩
  | tup e => exact ⟨_, .base (.tup e), false, kit_ty (by decide +kernel), fun _ _ _ => rfl, false, kit_ty (by decide +kernel), fun _ _ _ => rfl, fun z => nomatch z⟩
  | dct e => exact ⟨_, .base (.dK e), false, kit_ty (by decide +kernel), fun _ _ _ => rfl, false, kit_ty (by decide +kernel), fun _ _ _ => rfl, fun z => nomatch z⟩
  | ins t e => exact ⟨_, .base (t.ty e), false, t.nint, fun _ _ _ => rfl, false, t.nbool, fun _ _ _ => rfl, fun z => nomatch z⟩
theorem ok_is_integer (T : Tx P K mg) : FnOk P w K mg base CX0 lv_is_integer T.a_is_integer T.d_is_integer ["told", "low", "high"] (spIsInt T) := by
  refine T.F_is_integer.ok sc_is_integer (fun vs H Q E h => ?_) (fun cdv A outer s H vs Q E hr h => ?_)
  · obtain ⟨x, lo, hi, rfl, _⟩ := h
    rfl
  · obtain ⟨x, lo, hi, rfl, a, k⟩ := h
    refine ⟨_, (pss_one (ps_ret (pe_and (pe_callB call_isi (by rfl) T.n_isinstance (by decide +kernel) (pa_cons (pv 0) (pa_cons (pe_bltn (v := .ty "int") rfl T.n_int (by decide +kernel) rfl) pa_nil))) (pe_and (pe_not (pe_callB call_isi (by rfl) T.n_isinstance (by decide +kernel) (pa_cons (pv 0) (pa_cons (pe_bltn (v := .ty "bool") rfl T.n_bool (by decide +kernel) rfl) pa_nil)))) (pe_one (pe_chain op_le op_le (pv 1) (pv 0) (pv 2))))))), ?_⟩
    obtain ⟨t, ty, b, e1, h1, c, e2, h2, h3⟩ := isi_int T a
    refine ⟨_, rfl, _, _, _, _, b, rfl, .ty _, ty, e1, b, rfl, ?_⟩
    cases b with
    | false => exact iteF (by rw [h1 rfl lo hi] at k; exact k)
    | true =>
      refine iteT ?_
      refine ⟨_, rfl, _, _, _, _, c, rfl, .ty _, ty, e2, c, rfl, _, rfl, ?_⟩
      cases c with
      | true => exact iteF (by rw [h2 rfl lo hi] at k; exact k)
      | false =>
        refine iteT ?_
        obtain ⟨i, rfl⟩ := h3 rfl rfl
        refine ⟨_, rfl, _, rfl, _, _, rfl, rfl, _, rfl, ?_⟩
        have ke : Q (V.bl (decide (lo ≤ i) && decide (i ≤ hi))) H := k
        refine ite2 (fun c1 => ?_) (fun c1 => ?_)
        · rw [c1] at ke
          exact ⟨_, rfl, _, _, rfl, rfl, ke⟩
        · rw [show decide (lo ≤ i) = false from by simpa using c1] at ke
          exact ke
/-- base, take and the like: a value in the range, or the error of the class C -/
def spChk (T : Tx P K mg) (C : Addr) (lo hi : Int) : Sp := fun vs H Q E => ∃ x : V, vs = [x] ∧ AnyV (OwnT T) H x ∧ (intIn x lo hi = true → Q .non H) ∧ (intIn x lo hi = false → E (.ref C) none H)

theorem ok_check_base (T : Tx P K mg) : FnOk P w K mg base (L2.CX P w) lv_check_base T.a_check_base T.d_check_base ["base"] (spChk T T.C_BadBase 2 16) := by
  refine T.F_check_base.okX sc_check_base (fun vs H Q E h => ?_) (fun cdv A outer s H vs Q E hr h => ?_)
  · obtain ⟨x, rfl, _⟩ := h
    rfl
  · obtain ⟨x, rfl, a, k1, k2⟩ := h
    refine ⟨_, (pss_one (ps_if (pt_not (pt_val (pe_call (ok_is_integer T) (hr.mono (by decide)) rfl T.g_is_integer T.F_is_integer.kp T.b_is_integer .nil pass0 (pa_cons (pv 0) (pa_cons (pe_glob (v := .int 2) rfl T.c_LEAST_BASE ⟨_, rfl⟩) (pa_cons (pe_glob (v := .int 16) rfl T.c_GREATEST_BASE ⟨_, rfl⟩) pa_nil)))))) (pss_one (ps_raise rfl (takes_of rfl rfl rfl rfl) (pmk_own PySem.F.excBase_ValueError T.x_BadBase T.g_BadBase T.k_BadBase (raises_own T.s_BadBase T.t_BadBase) rfl))) pss_nil)), ?_⟩
    refine ⟨_, rfl, _, _, _, rfl, a, _, rfl, ?_⟩
    cases e : intIn x 2 16 with
    | true => exact iteF (k1 e)
    | false => exact iteT (k2 e)

/-! ### divisors up to a greatest one -/
def spDivisor (T : Tx P K mg) : Sp := fun vs H Q E => ∃ (x : V) (g : Int), vs = [x, .int g] ∧ 1 ≤ g ∧ g ≤ 100 ∧ AnyV (OwnT T) H x ∧ (intIn x 1 g = true → Q .non H) ∧ (intIn x 1 g = false → E (.ref T.C_BadDivisor) none H)
theorem ok_check_divisor (T : Tx P K mg) : FnOk P w K mg base (L2.CX P w) lv_check_divisor T.a_check_divisor T.d_check_divisor ["d", "greatest"] (spDivisor T) := by
  refine FunD.ok T.F_check_divisor sc_check_divisor (fun vs H Q E h => ?_) (fun cdv A outer s H vs Q E hr h => ?_)
  · obtain ⟨x, g, rfl, _⟩ := h
    rfl
  · obtain ⟨x, g, rfl, g1, g2, a, k1, k2⟩ := h
    refine ⟨_, (pss_one (ps_if (pt_not (pt_val (pe_call (ok_is_integer T) (hr.mono (by decide)) rfl T.g_is_integer T.F_is_integer.kp T.b_is_integer .nil pass0 (pa_cons (pv 0) (pa_cons pe_int (pa_cons (pv 1) pa_nil)))))) (pss_one (ps_raise rfl (takes_of rfl rfl rfl rfl) (SkE.pmk_own1 PySem.F.excBase_ValueError T.x_BadDivisor T.g_BadDivisor T.k_BadDivisor (raises_own T.s_BadDivisor T.t_BadDivisor) rfl (pe_joined (PJ.cons pe_str (PJ.cons (pe_fmt (pv 1)) PJ.nil)))))) pss_nil)), ?_⟩
    refine ⟨_, rfl, _, rfl, _, _, _, rfl, a, _, rfl, ?_⟩
    cases e : intIn x 1 g with
    | true => exact iteF (k1 e)
    | false =>
      have sm : g.natAbs.log2 < 1920 := Nat.lt_of_le_of_lt (Nat.log2_le_self _) (by omega)
      refine iteT ⟨_, rfl, (by rw [Str.length_append, sizeLine_eq]; exact Nat.le_trans (Nat.add_le_add (Nat.zero_le 0) (show ("no integer from 1 to " : Str).length ≤ 21 by decide)) (by decide)), _, rfl, .inr ⟨g, rfl, sm, _, rfl, ?_, k2 e⟩⟩
      rw [Str.length_append, Str.length_append, sizeLine_eq]
      have e0 := int_text_length_le (k := 1920) (by decide) sm
      have e2 : (Str.ofString (toString g)).length = (toString g).length := PySem.ofString_length _
      have e3 : ("no integer from 1 to " : Str).length ≤ 21 := by decide
      have e4 : Str.empty.length = 0 := rfl
      have e5 : ((toString g : Str)).length = (Str.ofString (toString g)).length := rfl
      omega

/-! ### numbers in a stretch, or the error -/
def spStretchX (T : Tx P K mg) : Sp := fun vs H Q E => ∃ (x : V) (lo hi : Int), vs = [x, .int lo, .int hi] ∧ AnyV (OwnT T) H x ∧ (intIn x lo hi = true → Q .non H) ∧ (intIn x lo hi = false → ∀ d, H d = none → E (.ref T.C_BadNumber) (some d) (upd H d (.xd [(("n" : Str), x)])))
theorem ok_check_stretch (T : Tx P K mg) : FnOk P w K mg base (L2.CX P w) lv_check_stretch T.a_check_stretch T.d_check_stretch ["n", "low", "high"] (spStretchX T) := by
  refine T.F_check_stretch.okX sc_check_stretch (fun vs H Q E h => ?_) (fun cdv A outer s H vs Q E hr h => ?_)
  · obtain ⟨x, lo, hi, rfl, _⟩ := h
    rfl
  · obtain ⟨x, lo, hi, rfl, a, k1, k2⟩ := h
    refine ⟨_, (pss_one (ps_if (pt_not (pt_val (pe_call (ok_is_integer T) (hr.mono (by decide)) rfl T.g_is_integer T.F_is_integer.kp T.b_is_integer .nil pass0 (pa_cons (pv 0) (pa_cons (pv 1) (pa_cons (pv 2) pa_nil)))))) (pss_one (ps_raiseF T.x_BadNumber ar_BadNumber rfl hr (takes_of rfl rfl rfl rfl) (pa_cons (pv 0) pa_nil))) pss_nil)), ?_⟩
    refine ⟨_, rfl, _, rfl, _, rfl, _, _, _, rfl, a, _, rfl, ?_⟩
    cases e : intIn x lo hi with
    | true => exact iteF (k1 e)
    | false => exact iteT ⟨_, rfl, _, rfl, trivial, fun d hd => k2 e d hd⟩

/-! ### the law's draws: what is drawn lies in its range; nothing but the row of the draws changes -/
theorem fmod_bd (x : Int) {m : Int} (h : 0 < m) : 0 ≤ x.fmod m ∧ x.fmod m < m := by
  rw [Int.fmod_eq_emod_of_nonneg x (by omega)]
  exact ⟨Int.emod_nonneg x (by omega), Int.emod_lt_of_pos x h⟩
abbrev rowL (a : Addr) (i s c : Int) : List V := [.ref a, .int i, .int s, .int c]
/-- the script at a: locked, or of the top's own -/
def Scr (K : PySem.W.Frag) (H : Hp) (a : Addr) (xs : List V) : Prop := (∃ o, H a = some (.frz o (.lst xs))) ∨ SqL K (fun _ => none) a xs
theorem scr_of {H : Hp} {a : Addr} {xs : List V} (hO : ∀ b, H b = none ∨ ∃ o xs, H b = some (.frz o (.lst xs))) (h : SqL K H a xs) : Scr K H a xs := by
  rcases h with (h | h) | h
  · rcases hO a with z | ⟨o, ys, z⟩
    · rw [z] at h; cases h
    · rw [z] at h; cases h
  · exact .inl h
  · exact .inr (.inr h)
theorem Scr.seq {H : Hp} {a : Addr} {xs : List V} (h : Scr K H a xs) : SqL K H a xs := by
  rcases h with h | (h | ⟨o, h⟩) | h
  · exact .inl (.inr h)
  · cases h
  · cases h
  · exact .inr h
theorem Scr.mono {H H' : Hp} {a : Addr} {xs : List V} (h : Scr K H a xs) (k : ∀ b o u, H b = some (.frz o u) → H' b = some (.frz o u)) : Scr K H' a xs := by
  rcases h with ⟨o, h⟩ | h
  · exact .inl ⟨o, k _ _ _ h⟩
  · exact .inr h
/-- at r the row of the draws over the script at a -/
def RowAt (K : PySem.W.Frag) (H : Hp) (r a : Addr) (ns : List Int) : Prop := ∃ i s c : Int, H r = some (.lst (rowL a i s c)) ∧ 0 ≤ i ∧ 0 ≤ c ∧ Scr K H a (ns.map V.int) ∧ ns.length ≤ 63
theorem RowAt.same {H H' : Hp} {r a : Addr} {ns : List Int} (h : RowAt K H r a ns) (e : Same H H') : RowAt K H' r a ns :=
  let ⟨i, s, c, h1, h2, h3, h4, h5⟩ := h
  ⟨i, s, c, e _ _ h1, h2, h3, h4.mono fun _ _ _ z => e _ _ z, h5⟩
/-- another list is changed -/
theorem RowAt.put {H : Hp} {r a q : Addr} {ns : List Int} {ys : List V} {o : HO} (h : RowAt K H r a ns) (hq : H q = some (.lst ys)) (n : q ≠ r) : RowAt K (upd H q o) r a ns :=
  let ⟨i, s, c, h1, h2, h3, h4, h5⟩ := h
  ⟨i, s, c, by rw [upd_ne (Ne.symm n)]; exact h1, h2, h3, h4.mono fun b o' u z => by rw [upd_ne (ne_of z hq (by intro y; cases y))]; exact z, h5⟩
/-- the row as the law lays it -/
theorem RowAt.start {H : Hp} {r a : Addr} {ns : List Int} {i s c : Int} (hr : H r = none) (hS : Scr K H a (ns.map V.int)) (hl : ns.length ≤ 63) (hi : 0 ≤ i) (hc : 0 ≤ c) : RowAt K (upd H r (.lst (rowL a i s c))) r a ns :=
  ⟨i, s, c, upd_same, hi, hc, hS.mono fun b o u z => by rw [upd_ne (ne_of_none z hr)]; exact z, hl⟩
def spTaken (K : PySem.W.Frag) : Sp := fun vs H Q _ => ∃ (r a : Addr) (ns : List Int) (m : Int), vs = [.ref r, .int m] ∧ 0 < m ∧ m ≤ 10 ^ 41 ∧ RowAt K H r a ns ∧
  ∀ (v : Int) (H' : Hp), 0 ≤ v → v < m → RowAt K H' r a ns → But r H H' → Q (.int v) H'
theorem ok__law_taken (T : Tx P K mg) : FnOk P w K mg base CX0 lv__law_taken T.a__law_taken T.d__law_taken ["_law_row", "_law_many"] (spTaken K) := by
  refine T.F__law_taken.ok sc__law_taken (fun vs H Q E h => ?_) (fun cdv A outer s H vs Q E hr h => ?_)
  · obtain ⟨r, a, ns, m, rfl, _⟩ := h
    rfl
  · obtain ⟨r, a, ns, m, rfl, m0, m1, ⟨i, s, c, hR, i0, c0, hK, hlen⟩, k⟩ := h
    have hKB : ∀ H', But r H H' → Scr K H' a (ns.map V.int) := fun H' b => hK.mono fun c o u z => b c _ z (ne_of z hR (by intro y; cases y))
    have hdv : ∀ x : Int, CDivW x m := fun x => wide_div m0 (b := 140) (by omega) (by decide) (by decide)
    have back : ∀ (v : Int) (i' s' c' : Int) (H' : Hp), 0 ≤ v → v < m → 0 ≤ i' → 0 ≤ c' → H' r = some (.lst (rowL a i' s' c')) → But r H H' → Q (.int v) H' := fun v i' s' c' H' v0 v1 z1 z2 e b =>
      k v H' v0 v1 ⟨i', s', c', e, z1, z2, hKB _ b, hlen⟩ b
    refine ⟨_, (pss_cons (ps_if (pt_cmpR op_gt (pe_ix ix_list (pv 0) pe_int (fun _ _ => rfl)) pe_int (nomark _)) (pss_cons (ps_set (i := 2) sc__law_taken.nd rfl (Or.inl rfl) (pe_op op_modN (pe_callTy call_int1 (by rfl) T.n_int (by decide +kernel) (pa_cons (pe_ix ix_list (pv 0) pe_int (fun _ _ => rfl)) pa_nil)) (pv 1)))
      (pss_cons (ps_asg (pe_op op_fdivW (pe_ix ix_list (pv 0) pe_int (fun _ _ => rfl)) (pv 1)) (pg_sub (pv 0) pe_int set_list))
      (pss_one (ps_ret (pv 2))))) pss_nil)
      (pss_cons (ps_asg (pe_op op_add (pe_ix ix_list (pv 0) pe_int (fun _ _ => rfl)) pe_int) (pg_sub (pv 0) pe_int set_list))
      (pss_cons (ps_if (pt_cmpR op_gt (pe_ix ix_list (pv 0) pe_int (fun _ _ => rfl)) (pe_callB call_len_seq (by rfl) T.n_len (by decide +kernel) (pa_cons (pe_ix ix_list (pv 0) pe_int (fun _ _ => rfl)) pa_nil)) (nomark _)) (pss_cons (ps_asg (pe_op op_modN (pe_callTy call_int1 (by rfl) T.n_int (by decide +kernel) (pa_cons (pe_op op_add (pe_op op_mul (pe_ix ix_list (pv 0) pe_int (fun _ _ => rfl)) pe_int) pe_int) pa_nil)) pe_int) (pg_sub (pv 0) pe_int set_list))
      (pss_one (ps_ret (pe_op op_modN (pe_callTy call_int1 (by rfl) T.n_int (by decide +kernel) (pa_cons (pe_op op_fdivW (pe_ix ix_list (pv 0) pe_int (fun _ _ => rfl)) pe_int) pa_nil)) (pv 1))))) pss_nil)
      (pss_cons (ps_set (i := 3) sc__law_taken.nd rfl (Or.inl rfl) (pe_ix ix_list (pe_ix ix_list (pv 0) pe_int (fun _ _ => rfl)) (pe_op op_sub (pe_ix ix_list (pv 0) pe_int (fun _ _ => rfl)) pe_int) (fun _ _ => rfl)))
      (pss_cons (ps_asg (pe_op op_modN (pe_callTy call_int1 (by rfl) T.n_int (by decide +kernel) (pa_cons (pe_op op_add (pe_op op_add (pe_op op_mul (pe_ix ix_list (pv 0) pe_int (fun _ _ => rfl)) pe_int) (pv 3)) pe_int) pa_nil)) pe_int) (pg_sub (pv 0) pe_int set_list))
      (pss_cons (ps_if (pt_cmpR op_ge (pv 3) (pe_op op_pow pe_int pe_int) (nomark _)) (pss_one (ps_asg (pe_op op_fdivW (pv 3) (pv 1)) (pg_sub (pv 0) pe_int set_list))) pss_nil)
      (pss_one (ps_ret (pe_op op_modN (pe_callTy call_int1 (by rfl) T.n_int (by decide +kernel) (pa_cons (pv 3) pa_nil)) (pv 1)))))))))), ?_⟩
    refine ⟨_, rfl, r, _, _, _, rfl, rfl, SqL.of hR, rfl, _, _, rfl, rfl, _, rfl, ?_⟩
    refine ite2 (fun g => ?_) (fun g => ?_)
    · -- a great cell's digits
      obtain ⟨v0, v1⟩ := fmod_bd c m0
      refine ⟨_, rfl, r, _, _, _, rfl, rfl, SqL.of hR, rfl, .inl ⟨_, rfl, _, rfl, _, _, rfl, rfl, by omega, ?_⟩⟩
      refine ⟨_, rfl, r, _, _, _, rfl, rfl, SqL.of hR, rfl, _, rfl, _, _, rfl, rfl, hdv c, _, rfl, r, _, _, _, rfl, rfl, hR, rfl, ?_⟩
      exact ⟨_, rfl, back _ i s (c / m) _ v0 v1 i0 (Int.ediv_nonneg c0 (by omega)) upd_same But.put⟩
    · refine ⟨_, rfl, r, _, _, _, rfl, rfl, SqL.of hR, rfl, _, _, rfl, rfl, _, rfl, r, _, _, _, rfl, rfl, hR, rfl, ?_⟩
      -- behind the script's end?
      have hR1 : upd H r (.lst (rowL a (i + 1) s c)) r = some (.lst (rowL a (i + 1) s c)) := upd_same
      have hB1 : But r H (upd H r (.lst (rowL a (i + 1) s c))) := But.put
      have hS1 : SqL K (upd H r (.lst (rowL a (i + 1) s c))) a (ns.map V.int) := (hKB _ hB1).seq
      refine ⟨_, rfl, r, _, _, _, rfl, rfl, SqL.of hR1, rfl, _, rfl, r, _, _, _, rfl, rfl, SqL.of hR1, rfl, a, _, rfl, .inl hS1, _, _, rfl, rfl, _, rfl, ?_⟩
      refine ite2 (fun g2 => ?_) (fun g2 => ?_)
      · refine ⟨_, rfl, r, _, _, _, rfl, rfl, SqL.of hR1, rfl, _, _, rfl, rfl, .inr ⟨by decide, by decide⟩, _, _, rfl, rfl, .inl ⟨_, rfl, _, _, rfl, rfl, (show (2147483647 : Int) ≠ 0 by decide), ?_⟩⟩
        refine ⟨_, rfl, r, _, _, _, rfl, rfl, hR1, rfl, ?_⟩
        refine ⟨_, rfl, r, _, _, _, rfl, rfl, SqL.of upd_same, rfl, _, _, rfl, rfl, wide_div (by decide) (b := 3) (by decide) (by decide) (by decide), .inl ⟨_, rfl, _, rfl, _, _, rfl, rfl, by omega, ?_⟩⟩
        obtain ⟨v0, v1⟩ := fmod_bd ((s * 48271 + 11).fmod 2147483647 / 7) m0
        exact back _ (i + 1) _ c _ v0 v1 (by omega) c0 upd_same (hB1.trans But.put)
      · have g3 : i + 1 ≤ (ns.length : Int) := by
          simp only [decide_eq_true_eq, List.length_map] at g2
          omega
        obtain ⟨z, hz⟩ : ∃ z, ns[i.toNat]? = some z := ⟨ns[i.toNat]'(by omega), List.getElem?_eq_getElem (by omega)⟩
        have hz1 : atI (ns.map V.int) (i + 1 - 1) = some (V.int z) := at_of (j := i.toNat) (by omega) (by rw [List.getElem?_map, hz]; rfl)
        refine ⟨_, rfl, r, _, _, _, rfl, rfl, SqL.of hR1, rfl, _, rfl, r, _, _, _, rfl, rfl, SqL.of hR1, rfl, _, _, rfl, rfl, a, _, _, _, rfl, rfl, hS1, hz1, ?_⟩
        refine ⟨_, rfl, r, _, _, _, rfl, rfl, SqL.of hR1, rfl, _, _, rfl, rfl, .inr ⟨by decide, by decide⟩, _, rfl, _, _, rfl, rfl, _, _, rfl, rfl, .inl ⟨_, rfl, _, _, rfl, rfl, (show (2147483647 : Int) ≠ 0 by decide), ?_⟩⟩
        refine ⟨_, rfl, r, _, _, _, rfl, rfl, hR1, rfl, ?_⟩
        have hR2 : upd (upd H r (.lst (rowL a (i + 1) s c))) r (.lst (rowL a (i + 1) ((s * 48271 + z + 11).fmod 2147483647) c)) r = some (.lst (rowL a (i + 1) ((s * 48271 + z + 11).fmod 2147483647) c)) := upd_same
        have hB2 : But r H (upd (upd H r (.lst (rowL a (i + 1) s c))) r (.lst (rowL a (i + 1) ((s * 48271 + z + 11).fmod 2147483647) c))) := hB1.trans But.put
        obtain ⟨v0, v1⟩ := fmod_bd z m0
        refine ⟨_, rfl, _, _, rfl, rfl, ⟨by decide, by decide, by decide⟩, _, _, rfl, rfl, _, rfl, ?_⟩
        refine ite2 (fun g4 => ?_) (fun g4 => ?_)
        · refine ⟨_, rfl, _, rfl, _, _, rfl, rfl, hdv z, _, rfl, r, _, _, _, rfl, rfl, hR2, rfl, ?_⟩
          have z0 : 0 ≤ z := by
            have g5 : (10 : Int) ^ 18 ≤ z := by simpa using g4
            exact Int.le_trans (by decide) g5
          refine ⟨_, rfl, .inl ⟨_, rfl, _, rfl, _, _, rfl, rfl, by omega, ?_⟩⟩
          exact back _ (i + 1) _ (z / m) _ v0 v1 (by omega) (Int.ediv_nonneg z0 (by omega)) upd_same (hB2.trans But.put)
        · refine ⟨_, rfl, .inl ⟨_, rfl, _, rfl, _, _, rfl, rfl, by omega, ?_⟩⟩
          exact back _ (i + 1) _ c _ v0 v1 (by omega) c0 hR2 hB2

/-! ### a menu: an item of a written list at a drawn place -/
theorem RowAt.new {H : Hp} {r a p : Addr} {ns : List Int} {o : HO} (h : RowAt K H r a ns) (hp : H p = none) : RowAt K (upd H p o) r a ns := h.same (same_upd hp)
theorem RowAt.ne {H : Hp} {r a p : Addr} {ns : List Int} (h : RowAt K H r a ns) (hp : H p = none) : p ≠ r :=
  let ⟨_, _, _, h1, _⟩ := h
  (ne_of_none h1 hp).symm
theorem But.new {H H1 : Hp} {r p : Addr} {o : HO} (b : But r H H1) (hp : H1 p = none) : But r H (upd H1 p o) := b.trans (Same.but (same_upd hp))
theorem But.free {H H1 : Hp} {r p : Addr} (b : But r H H1) (n : p ≠ r) (hp : H1 p = none) : H p = none := by
  cases q : H p with
  | none => rfl
  | some o =>
    rw [b p o q n] at hp
    cases hp
/-- an item of the list laid at p, at a place that is drawn -/
theorem menu {H1 : Hp} {r a p : Addr} {ns items : List Int} {m : Int} (Pr : Int → Prop) (hP : ∀ z ∈ items, Pr z) (hl : (items.length : Int) = m) (R1 : RowAt K H1 r a ns) (hp : H1 p = none) {Q : VK}
    (k : ∀ (z : Int) (H2 : Hp), Pr z → RowAt K H2 r a ns → But r H1 H2 → H2 p = some (.lst (items.map V.int)) → Q (.int z) H2) (h0 : 0 < m) (h1 : m ≤ 10 ^ 41) :
    spTaken K ([.ref r, .int m] ++ []) (upd H1 p (.lst (items.map V.int))) (fun y H2 => rIxL K (.ref p) y H2 Q) E0 := by
  refine ⟨r, a, ns, m, rfl, h0, h1, R1.new hp, fun w H2 w0 w1 R2 B2 => ?_⟩
  obtain ⟨z, hz, he⟩ := at_some Pr hP w0 (by omega)
  have npr := R1.ne hp
  exact ⟨p, _, _, _, rfl, rfl, SqL.of (B2 _ _ upd_same npr), he, k z H2 hz R2 ((Same.but (same_upd hp)).trans B2) (B2 _ _ upd_same npr)⟩
theorem at_someV (Pr : V → Prop) {xs : List V} (h : ∀ z ∈ xs, Pr z) {i : Int} (h0 : 0 ≤ i) (h1 : i < xs.length) : ∃ z, Pr z ∧ atI xs i = some z := by
  obtain ⟨z, hz⟩ : ∃ z, xs[i.toNat]? = some z := ⟨xs[i.toNat]'(by omega), List.getElem?_eq_getElem (by omega)⟩
  exact ⟨z, h z (List.mem_of_getElem? hz), at_of (j := i.toNat) (by omega) hz⟩
theorem menuV {H1 : Hp} {r a p : Addr} {ns : List Int} {items : List V} {m : Int} (Pr : V → Prop) (hP : ∀ z ∈ items, Pr z) (hl : (items.length : Int) = m) (R1 : RowAt K H1 r a ns) (hp : H1 p = none) {Q : VK}
    (k : ∀ (z : V) (H2 : Hp), Pr z → RowAt K H2 r a ns → But r H1 H2 → H2 p = some (.lst items) → Q z H2) (h0 : 0 < m) (h1 : m ≤ 10 ^ 41) :
    spTaken K ([.ref r, .int m] ++ []) (upd H1 p (.lst items)) (fun y H2 => rIxL K (.ref p) y H2 Q) E0 := by
  refine ⟨r, a, ns, m, rfl, h0, h1, R1.new hp, fun w H2 w0 w1 R2 B2 => ?_⟩
  obtain ⟨z, hz, he⟩ := at_someV Pr hP w0 (by omega)
  have npr := R1.ne hp
  exact ⟨p, _, _, _, rfl, rfl, SqL.of (B2 _ _ upd_same npr), he, k z H2 hz R2 ((Same.but (same_upd hp)).trans B2) (B2 _ _ upd_same npr)⟩
/-- a plain value: None, a bool, an int, a text -/
def flatA : V → Bool
  | .non => true | .bl _ => true | .int _ => true | .str _ => true | _ => false
theorem any_flat {T : Addr → Prop} {H : Hp} {v : V} (h : flatA v = true) : AnyV T H v := by
  cases v with
  | non => exact .non
  | bl b => exact .bl b
  | int i => exact .int i
  | str x => exact .str x
  | _ => cases h

/-! ### changes that a rest does not tell -/
/-- x times the figure at place p, c times, is a multiple -/
def badAt (b d c : Int) (p : Nat) (x : Int) : Bool := decide (d ∣ x * (c * b ^ p))
def rowU (b d c : Int) (p k : Nat) : List (Int × Int) := ((List.range k).filter fun (j : Nat) => badAt b d c p (1 + (j : Int))).map fun (j : Nat) => ((p : Int), 1 + (j : Int))
def allU (b d c : Int) (n : Nat) : List (Int × Int) := (List.range n).flatMap fun p => rowU b d c p (b - 1).toNat
theorem rowU_zero (b d c : Int) (p : Nat) : rowU b d c p 0 = [] := rfl
theorem allU_zero (b d c : Int) : allU b d c 0 = [] := rfl
theorem rowU_succ (b d c : Int) (p k : Nat) : rowU b d c p (k + 1) = rowU b d c p k ++ (if badAt b d c p (1 + (k : Int)) = true then [((p : Int), 1 + (k : Int))] else []) := by
  unfold rowU
  rw [List.range_succ, List.filter_append, List.map_append]
  congr 1
  by_cases h : badAt b d c p (1 + (k : Int)) = true
  · rw [if_pos h]; simp [h]
  · rw [if_neg h]; simp [h]
theorem allU_succ (b d c : Int) (n : Nat) : allU b d c (n + 1) = allU b d c n ++ rowU b d c n (b - 1).toNat := by
  unfold allU
  rw [List.range_succ, List.flatMap_append]
  simp
theorem rowU_pre (b d c : Int) (p : Nat) {j k : Nat} (h : j ≤ k) : ∃ l, rowU b d c p k = rowU b d c p j ++ l := by
  induction k with
  | zero => exact ⟨[], by rw [show j = 0 by omega]; rfl⟩
  | succ k ih =>
    rcases Nat.lt_or_ge k j with z | z
    · exact ⟨[], by rw [show j = k + 1 by omega]; simp⟩
    · obtain ⟨l, e⟩ := ih z
      exact ⟨l ++ _, by rw [rowU_succ, e, List.append_assoc]⟩
theorem allU_pre (b d c : Int) {i n : Nat} (h : i ≤ n) : ∃ l, allU b d c n = allU b d c i ++ l := by
  induction n with
  | zero => exact ⟨[], by rw [show i = 0 by omega]; rfl⟩
  | succ k ih =>
    rcases Nat.lt_or_ge k i with z | z
    · exact ⟨[], by rw [show i = k + 1 by omega]; simp⟩
    · obtain ⟨l, e⟩ := ih z
      exact ⟨l ++ _, by rw [allU_succ, e, List.append_assoc]⟩
/-- the first hit -/
theorem allU_hit {b d c : Int} {n i j : Nat} (h1 : allU b d c i = []) (h2 : rowU b d c i j = []) (h : badAt b d c i (1 + (j : Int)) = true) (hi : i < n) (hj : j < (b - 1).toNat) : (allU b d c n).head? = some ((i : Int), 1 + (j : Int)) := by
  obtain ⟨l, e⟩ := allU_pre b d c (show i + 1 ≤ n from hi)
  obtain ⟨l2, e2⟩ := rowU_pre b d c i (show j + 1 ≤ (b - 1).toNat from hj)
  rw [e, allU_succ, h1, e2, rowU_succ, h2, if_pos h]
  rfl
theorem allU_mem {b d c : Int} {n : Nat} {z : Int × Int} (h : z ∈ allU b d c n) : ∃ p : Nat, p < n ∧ z.1 = (p : Int) ∧ 1 ≤ z.2 ∧ z.2 < b ∧ d ∣ z.2 * (c * b ^ p) := by
  unfold allU at h
  obtain ⟨p, hp, h⟩ := List.mem_flatMap.mp h
  unfold rowU at h
  obtain ⟨j, hj, rfl⟩ := List.mem_map.mp h
  obtain ⟨h1, h2⟩ := List.mem_filter.mp hj
  have h3 := List.mem_range.mp h1
  refine ⟨p, List.mem_range.mp hp, rfl, by show 1 ≤ 1 + (j : Int); omega, by show 1 + (j : Int) < b; omega, ?_⟩
  exact of_decide_eq_true h2
theorem allU_none {b d c : Int} {n : Nat} (h : allU b d c n = []) {p : Nat} {x : Int} (hp : p < n) (x1 : 1 ≤ x) (x2 : x < b) : ¬ d ∣ x * (c * b ^ p) := by
  intro hd
  have : ((p : Int), x) ∈ allU b d c n := by
    refine List.mem_flatMap.mpr ⟨p, List.mem_range.mpr hp, ?_⟩
    refine List.mem_map.mpr ⟨(x - 1).toNat, List.mem_filter.mpr ⟨List.mem_range.mpr (by omega), ?_⟩, ?_⟩
    · rw [show (1 : Int) + ((x - 1).toNat : Int) = x by omega]
      exact decide_eq_true hd
    · rw [show (1 : Int) + ((x - 1).toNat : Int) = x by omega]
  rw [h] at this
  cases this
theorem fmod_dvd {d : Int} (hd : 1 ≤ d) (x : Int) : x.fmod d = 0 ↔ d ∣ x := by
  rw [Int.fmod_eq_emod_of_nonneg _ (by omega)]
  exact (Int.dvd_iff_emod_eq_zero).symm
/-- the rest times a figure, by the rest of the power -/
theorem bad_rest {d : Int} (hd : 1 ≤ d) (x y : Int) : decide ((x * y.fmod d).fmod d = 0) = decide (d ∣ x * y) := by
  rw [Int.fmod_eq_emod_of_nonneg y (by omega), Int.fmod_eq_emod_of_nonneg _ (by omega), Int.mul_emod, Int.emod_emod, ← Int.mul_emod]
  exact decide_eq_decide.mpr (Int.dvd_iff_emod_eq_zero).symm
theorem rest_next {b d : Int} (hd : 1 ≤ d) (c : Int) (i : Nat) : ((c * b ^ i).fmod d * b).fmod d = (c * b ^ (i + 1)).fmod d := by
  rw [Int.fmod_eq_emod_of_nonneg _ (by omega), Int.fmod_eq_emod_of_nonneg _ (by omega), Int.fmod_eq_emod_of_nonneg _ (by omega), Int.mul_emod, Int.emod_emod, ← Int.mul_emod, Int.pow_succ, Int.mul_assoc]
theorem rowU_len (b d c : Int) (p k : Nat) : (rowU b d c p k).length ≤ k := by
  unfold rowU
  rw [List.length_map]
  exact Nat.le_trans (List.length_filter_le _ _) (Nat.le_of_eq List.length_range)
theorem allU_len {b : Int} (d c : Int) (h : b ≤ 16) : ∀ n : Nat, (allU b d c n).length ≤ n * 15
  | 0 => Nat.le_refl _
  | n + 1 => by
    rw [allU_succ, List.length_append]
    have h1 := allU_len d c h n
    have h2 := rowU_len b d c n (b - 1).toNat
    omega

/-! ### the least wrong figure, the least exchange -/
/-- None, or a new pair -/
def optP (o : Option (Int × Int)) (Q : VK) (H : Hp) : Prop := match o with
  | none => Q .non H
  | some z => ∀ q, H q = none → Q (.ref q) (upd H q (.tup [.int z.1, .int z.2]))
def spUnseen : Sp := fun vs H Q _ => ∃ b d n c : Int, vs = [.int b, .int d, .int n, .int c] ∧ 2 ≤ b ∧ b ≤ 16 ∧ 1 ≤ d ∧ d ≤ 100 ∧ -100 ≤ n ∧ n ≤ 40 ∧ optP (allU b d c n.toNat).head? Q H
theorem ok_least_unseen (T : Tx P K mg) : FnOk P w K mg base CX0 lv_least_unseen T.a_least_unseen T.d_least_unseen ["base", "d", "places", "change"] spUnseen := by
  refine T.F_least_unseen.ok sc_least_unseen (fun vs H Q E h => ?_) (fun cdv A outer s H vs Q E hr h => ?_)
  · obtain ⟨b, d, n, c, rfl, _⟩ := h
    rfl
  · obtain ⟨b, d, n, c, rfl, b1, b2, d1, d2, n1, n2, k⟩ := h
    refine ⟨_, (pss_cons (ps_set (i := 4) sc_least_unseen.nd rfl (Or.inl rfl) (pe_op op_modN (pv 3) (pv 1)))
      (pss_cons (ps_for PassesOwn.never rfl (pi_range1 (by rfl) T.n_range (pa_cons (pv 2) pa_nil)) (pg_name (i := 5) sc_least_unseen.nd rfl (Or.inl rfl)) (pss_cons (ps_for PassesOwn.never rfl (pi_range2 (by rfl) T.n_range (pa_cons pe_int (pa_cons (pv 0) pa_nil))) (pg_name (i := 6) sc_least_unseen.nd rfl (Or.inl rfl)) (pss_one (ps_if (pt_cmpR op_eq (pe_op op_modN (pe_op op_mul (pv 6) (pv 4)) (pv 1)) pe_int (nomark _)) (pss_one (ps_ret (pe_tup (pa_cons (pv 5) (pa_cons (pv 6) pa_nil))))) pss_nil)))
      (pss_one (ps_set (i := 4) sc_least_unseen.nd rfl (Or.inl rfl) (pe_op op_modN (pe_op op_mul (pv 4) (pv 0)) (pv 1))))))
      (pss_one (ps_ret pe_non)))), ?_⟩
    have nd : d ≠ 0 := by omega
    have rb : ∀ x : Int, 0 ≤ x.fmod d ∧ x.fmod d < d := fun x => fmod_bd x (by omega)
    refine ⟨_, rfl, _, rfl, _, _, rfl, rfl, nd, _, rfl, n, rfl, by omega, by omega, ?_⟩
    refine for_range (lo := 0) (n := n.toNat) (fun i σ H2 => ∃ v u : Option V, σ = [some (.int b), some (.int d), some (.int n), some (.int c), some (.int ((c * b ^ i).fmod d)), v, u] ∧ H2 = H ∧ allU b d c i = []) ⟨none, none, by rw [Int.pow_zero, Int.mul_one]; rfl, rfl, rfl⟩ ?_ ?_
    · rintro i σ H2 hi ⟨v, u, rfl, rfl, h0⟩
      have ei : (0 : Int) + (i : Int) = (i : Int) := Int.zero_add _
      rw [ei]
      refine ⟨_, rfl, _, _, rfl, ⟨by decide, by decide, by omega, by omega⟩, ?_⟩
      refine for_range (lo := 1) (n := (b - 1).toNat) (fun j σ H3 => ∃ u : Option V, σ = [some (.int b), some (.int d), some (.int n), some (.int c), some (.int ((c * b ^ i).fmod d)), some (.int i), u] ∧ H3 = H2 ∧ rowU b d c i j = []) ⟨u, rfl, rfl, rfl⟩ ?_ ?_
      · rintro j σ H3 hj ⟨u, rfl, rfl, h1⟩
        have := rb (c * b ^ i)
        refine ⟨_, rfl, _, rfl, _, _, rfl, rfl, .inr ⟨by omega, by omega⟩, _, rfl, _, _, rfl, rfl, nd, rfl, _, rfl, ?_⟩
        rw [dec_i, bad_rest d1]
        refine ite2 (fun g => ?_) (fun g => ?_)
        · rw [allU_hit h0 h1 g hi hj] at k
          exact ⟨_, rfl, _, rfl, by show 2 ≤ sizeLine; decide, fun q hq => k q hq⟩
        · exact ⟨_, rfl, rfl, by rw [rowU_succ, h1, if_neg (show ¬ badAt b d c i (1 + (j : Int)) = true from g)]; rfl⟩
      · rintro σ H3 ⟨u, rfl, rfl, h1⟩
        have := rb (c * b ^ i)
        refine ⟨_, rfl, _, rfl, _, _, rfl, rfl, .inr ⟨by omega, by omega⟩, _, rfl, _, _, rfl, rfl, nd, ?_⟩
        exact ⟨_, _, by rw [← rest_next d1]; rfl, rfl, by rw [allU_succ, h0, h1]; rfl⟩
    · rintro σ H2 ⟨v, u, rfl, rfl, h0⟩
      rw [h0] at k
      exact k
/-- of any values: the errors, in their order -/
def spSlip (T : Tx P K mg) : Sp := fun vs H Q E => ∃ x y z : V, vs = [x, y, z] ∧ AnyV (OwnT T) H x ∧ AnyV (OwnT T) H y ∧ AnyV (OwnT T) H z ∧
  (intIn x 2 16 = false → E (.ref T.C_BadBase) none H) ∧ (intIn x 2 16 = true → intIn y 1 100 = false → E (.ref T.C_BadDivisor) none H) ∧
  (intIn x 2 16 = true → intIn y 1 100 = true → intIn z 1 40 = false → ∀ e, H e = none → E (.ref T.C_BadNumber) (some e) (upd H e (.xd [(("n" : Str), z)]))) ∧
  ∀ b d n : Int, x = .int b → y = .int d → z = .int n → 2 ≤ b → b ≤ 16 → 1 ≤ d → d ≤ 100 → 1 ≤ n → n ≤ 40 → optP (allU b d 1 n.toNat).head? Q H
def spLength (T : Tx P K mg) : Sp := fun vs H Q E => ∃ x : V, vs = [x] ∧ AnyV (OwnT T) H x ∧ (intIn x 1 40 = true → Q .non H) ∧ (intIn x 1 40 = false → ∀ d, H d = none → E (.ref T.C_BadNumber) (some d) (upd H d (.xd [(("n" : Str), x)])))
theorem ok_check_length (T : Tx P K mg) : FnOk P w K mg base (L2.CX P w) lv_check_length T.a_check_length T.d_check_length ["length"] (spLength T) := by
  refine T.F_check_length.okX sc_check_length (fun vs H Q E h => ?_) (fun cdv A outer s H vs Q E hr h => ?_)
  · obtain ⟨x, rfl, _⟩ := h
    rfl
  · obtain ⟨x, rfl, a, k1, k2⟩ := h
    refine ⟨_, (pss_one (ps_expr (pe_call (ok_check_stretch T) (hr.mono (by decide)) rfl T.g_check_stretch T.F_check_stretch.kp T.b_check_stretch .nil (passes_call (takes_of rfl rfl rfl rfl) fun _ _ _ _ h => h) (pa_cons (pv 0) (pa_cons pe_int (pa_cons (pe_glob (v := .int 40) rfl T.c_GREATEST_LENGTH ⟨_, rfl⟩) pa_nil)))))), ?_⟩
    exact ⟨_, rfl, x, 1, 40, rfl, a, k1, k2⟩
theorem ok_slip (T : Tx P K mg) : FnOk P w K mg base (L2.CX P w) lv_slip T.a_slip T.d_slip ["base", "d", "length"] (spSlip T) := by
  refine T.F_slip.okX sc_slip (fun vs H Q E h => ?_) (fun cdv A outer s H vs Q E hr h => ?_)
  · obtain ⟨x, y, z, rfl, _⟩ := h
    rfl
  · obtain ⟨x, y, z, rfl, ax, ay, az, e1, e2, e3, k⟩ := h
    refine ⟨_, (pss_cons (ps_expr (pe_call (ok_check_base T) (hr.mono (by decide)) rfl T.g_check_base T.F_check_base.kp T.b_check_base .nil (passes_call (takes_of rfl rfl rfl rfl) fun _ _ _ _ h => h) (pa_cons (pv 0) pa_nil)))
      (pss_cons (ps_expr (pe_call (ok_check_divisor T) (hr.mono (by decide)) rfl T.g_check_divisor T.F_check_divisor.kp T.bd_check_divisor T.rd_check_divisor (passes_call (takes_of rfl rfl rfl rfl) fun _ _ _ _ h => h) (pa_cons (pv 1) pa_nil)))
      (pss_cons (ps_expr (pe_call (ok_check_length T) (hr.mono (by decide)) rfl T.g_check_length T.F_check_length.kp T.b_check_length .nil (passes_call (takes_of rfl rfl rfl rfl) fun _ _ _ _ h => h) (pa_cons (pv 2) pa_nil)))
      (pss_one (ps_ret (pe_call (ok_least_unseen T) (hr.mono (by decide)) rfl T.g_least_unseen T.F_least_unseen.kp T.b_least_unseen .nil pass0 (pa_cons (pv 0) (pa_cons (pv 1) (pa_cons (pv 2) (pa_cons pe_int pa_nil)))))))))), ?_⟩
    refine ⟨_, rfl, x, rfl, ax, fun g1 => ?_, e1⟩
    refine ⟨_, rfl, y, 100, rfl, by decide, by decide, ay, fun g2 => ?_, e2 g1⟩
    refine ⟨_, rfl, z, rfl, az, fun g3 => ?_, e3 g1 g2⟩
    obtain ⟨b, rfl, b1, b2⟩ := intIn_int' g1
    obtain ⟨d, rfl, d1, d2⟩ := intIn_int' g2
    obtain ⟨n, rfl, n1, n2⟩ := intIn_int' g3
    exact ⟨_, rfl, _, rfl, _, rfl, b, d, n, 1, rfl, b1, b2, d1, d2, by omega, n2, k b d n rfl rfl rfl b1 b2 d1 d2 n1 n2⟩
def spSwap (T : Tx P K mg) : Sp := fun vs H Q E => ∃ x y z u : V, vs = [x, y, z, u] ∧ AnyV (OwnT T) H x ∧ AnyV (OwnT T) H y ∧ AnyV (OwnT T) H z ∧ AnyV (OwnT T) H u ∧
  (intIn x 2 16 = false → E (.ref T.C_BadBase) none H) ∧ (intIn x 2 16 = true → intIn y 1 100 = false → E (.ref T.C_BadDivisor) none H) ∧
  (intIn x 2 16 = true → intIn y 1 100 = true → intIn z 1 40 = false → ∀ e, H e = none → E (.ref T.C_BadNumber) (some e) (upd H e (.xd [(("n" : Str), z)]))) ∧
  (intIn x 2 16 = true → intIn y 1 100 = true → intIn z 1 40 = true → intIn u 1 40 = false → ∀ e, H e = none → E (.ref T.C_BadNumber) (some e) (upd H e (.xd [(("n" : Str), u)]))) ∧
  ∀ b d n f : Int, x = .int b → y = .int d → z = .int n → u = .int f → 2 ≤ b → b ≤ 16 → 1 ≤ d → d ≤ 100 → 1 ≤ n → n ≤ 40 → 1 ≤ f → f ≤ 40 → optP (allU b d (b ^ f.toNat - 1) (n - f).toNat).head? Q H
theorem ok_swap (T : Tx P K mg) : FnOk P w K mg base (L2.CX P w) lv_swap T.a_swap T.d_swap ["base", "d", "length", "far"] (spSwap T) := by
  refine T.F_swap.okX sc_swap (fun vs H Q E h => ?_) (fun cdv A outer s H vs Q E hr h => ?_)
  · obtain ⟨x, y, z, u, rfl, _⟩ := h
    rfl
  · obtain ⟨x, y, z, u, rfl, ax, ay, az, au, e1, e2, e3, e4, k⟩ := h
    refine ⟨_, (pss_cons (ps_expr (pe_call (ok_check_base T) (hr.mono (by decide)) rfl T.g_check_base T.F_check_base.kp T.b_check_base .nil (passes_call (takes_of rfl rfl rfl rfl) fun _ _ _ _ h => h) (pa_cons (pv 0) pa_nil)))
      (pss_cons (ps_expr (pe_call (ok_check_divisor T) (hr.mono (by decide)) rfl T.g_check_divisor T.F_check_divisor.kp T.bd_check_divisor T.rd_check_divisor (passes_call (takes_of rfl rfl rfl rfl) fun _ _ _ _ h => h) (pa_cons (pv 1) pa_nil)))
      (pss_cons (ps_expr (pe_call (ok_check_length T) (hr.mono (by decide)) rfl T.g_check_length T.F_check_length.kp T.b_check_length .nil (passes_call (takes_of rfl rfl rfl rfl) fun _ _ _ _ h => h) (pa_cons (pv 2) pa_nil)))
      (pss_cons (ps_expr (pe_call (ok_check_length T) (hr.mono (by decide)) rfl T.g_check_length T.F_check_length.kp T.b_check_length .nil (passes_call (takes_of rfl rfl rfl rfl) fun _ _ _ _ h => h) (pa_cons (pv 3) pa_nil)))
      (pss_cons (ps_set (i := 4) sc_swap.nd rfl (Or.inl rfl) pe_int)
      (pss_cons (ps_for (passes_of rfl) rfl (pi_range1 (by rfl) T.n_range (pa_cons (pv 3) pa_nil)) (pg_name (i := 5) sc_swap.nd rfl (Or.inl rfl)) (pss_one (ps_aug (i := 4) sc_swap.nd rfl (Or.inl rfl) (pv 0) (ip_op iop_mul))))
      (pss_one (ps_ret (pe_call (ok_least_unseen T) (hr.mono (by decide)) rfl T.g_least_unseen T.F_least_unseen.kp T.b_least_unseen .nil pass0 (pa_cons (pv 0) (pa_cons (pv 1) (pa_cons (pe_op op_sub (pv 2) (pv 3)) (pa_cons (pe_op op_sub (pv 4) pe_int) pa_nil))))))))))))), ?_⟩
    refine ⟨_, rfl, x, rfl, ax, fun g1 => ?_, e1⟩
    refine ⟨_, rfl, y, 100, rfl, by decide, by decide, ay, fun g2 => ?_, e2 g1⟩
    refine ⟨_, rfl, z, rfl, az, fun g3 => ?_, e3 g1 g2⟩
    refine ⟨_, rfl, u, rfl, au, fun g4 => ?_, e4 g1 g2 g3⟩
    obtain ⟨b, rfl, b1, b2⟩ := intIn_int' g1
    obtain ⟨d, rfl, d1, d2⟩ := intIn_int' g2
    obtain ⟨n, rfl, n1, n2⟩ := intIn_int' g3
    obtain ⟨f, rfl, f1, f2⟩ := intIn_int' g4
    have k := k b d n f rfl rfl rfl rfl b1 b2 d1 d2 n1 n2 f1 f2
    refine ⟨_, rfl, f, rfl, by omega, by omega, ?_⟩
    refine for_range (lo := 0) (n := f.toNat) (fun i σ H2 => ∃ v : Option V, σ = [some (.int b), some (.int d), some (.int n), some (.int f), some (.int (b ^ i)), v] ∧ H2 = H) ⟨none, by rw [Int.pow_zero]; rfl, rfl⟩ ?_ ?_
    · rintro i σ H2 hi ⟨v, rfl, rfl⟩
      exact ⟨_, rfl, _, rfl, _, _, rfl, rfl, .inr ⟨by omega, by omega⟩, _, by rw [Int.pow_succ]; rfl, rfl⟩
    · rintro σ H2 ⟨v, rfl, rfl⟩
      exact ⟨_, rfl, _, rfl, _, rfl, _, rfl, _, _, rfl, rfl, _, rfl, _, _, rfl, rfl, b, d, n - f, b ^ f.toNat - 1, rfl, b1, b2, d1, d2, by omega, by omega, k⟩

/-! ### the divisors that tell all of these -/
def okD (b n d : Int) : Bool := (allU b d 1 n.toNat).isEmpty && (allU b d (b ^ (1 : Int).toNat - 1) (n - 1).toNat).isEmpty
def okL (b n : Int) (k : Nat) : List Int := ((List.range k).map fun (i : Nat) => 1 + (i : Int)).filter (okD b n)
theorem okL_succ (b n : Int) (k : Nat) : okL b n (k + 1) = okL b n k ++ (if okD b n (1 + (k : Int)) = true then [1 + (k : Int)] else []) := by
  unfold okL
  rw [List.range_succ, List.map_append, List.filter_append]
  congr 1
  show List.filter _ [1 + (k : Int)] = _
  by_cases h : okD b n (1 + (k : Int)) = true
  · rw [if_pos h]; simp [h]
  · rw [if_neg h]; simp [h]
theorem okL_len (b n : Int) (k : Nat) : (okL b n k).length ≤ k := by
  unfold okL
  refine Nat.le_trans (List.length_filter_le _ _) ?_
  simp
/-- whether a pair that may be none is none, where it is told -/
theorem opt_is {l : List (Int × Int)} {Q : VK} {H : Hp} (h1 : l.isEmpty = true → Q .non H) (h2 : l.isEmpty = false → ∀ q H', Same H H' → Q (.ref q) H') : optP l.head? Q H := by
  cases l with
  | nil => exact h1 rfl
  | cons z l => exact fun q hq => h2 rfl q _ (same_upd hq)
def spGood (T : Tx P K mg) : Sp := fun vs H Q E => ∃ x y z : V, vs = [x, y, z] ∧ AnyV (OwnT T) H x ∧ AnyV (OwnT T) H y ∧ AnyV (OwnT T) H z ∧
  (intIn x 2 16 = false → E (.ref T.C_BadBase) none H) ∧
  (intIn x 2 16 = true → intIn y 1 40 = false → ∀ e, H e = none → E (.ref T.C_BadNumber) (some e) (upd H e (.xd [(("n" : Str), y)]))) ∧
  (intIn x 2 16 = true → intIn y 1 40 = true → intIn z 1 100 = false → ∀ e, H e = none → E (.ref T.C_BadNumber) (some e) (upd H e (.xd [(("n" : Str), z)]))) ∧
  ∀ b n m : Int, x = .int b → y = .int n → z = .int m → 2 ≤ b → b ≤ 16 → 1 ≤ n → n ≤ 40 → 1 ≤ m → m ≤ 100 → ∀ q H', Same H H' → H' q = some (.lst ((okL b n m.toNat).map V.int)) → Q (.ref q) H'
theorem ok_good_divisors (T : Tx P K mg) : FnOk P w K mg base (L2.CX P w) lv_good_divisors T.a_good_divisors T.d_good_divisors ["base", "length", "most"] (spGood T) := by
  refine T.F_good_divisors.okX sc_good_divisors (fun vs H Q E h => ?_) (fun cdv A outer s H vs Q E hr h => ?_)
  · obtain ⟨x, y, z, rfl, _⟩ := h
    rfl
  · obtain ⟨x, y, z, rfl, ax, ay, az, e1, e2, e3, k⟩ := h
    refine ⟨_, (pss_cons (ps_expr (pe_call (ok_check_base T) (hr.mono (by decide)) rfl T.g_check_base T.F_check_base.kp T.b_check_base .nil (passes_call (takes_of rfl rfl rfl rfl) fun _ _ _ _ h => h) (pa_cons (pv 0) pa_nil)))
      (pss_cons (ps_expr (pe_call (ok_check_length T) (hr.mono (by decide)) rfl T.g_check_length T.F_check_length.kp T.b_check_length .nil (passes_call (takes_of rfl rfl rfl rfl) fun _ _ _ _ h => h) (pa_cons (pv 1) pa_nil)))
      (pss_cons (ps_expr (pe_call (ok_check_stretch T) (hr.mono (by decide)) rfl T.g_check_stretch T.F_check_stretch.kp T.b_check_stretch .nil (passes_call (takes_of rfl rfl rfl rfl) fun _ _ _ _ h => h) (pa_cons (pv 2) (pa_cons pe_int (pa_cons (pe_glob (v := .int 100) rfl T.c_GREATEST_DIVISOR ⟨_, rfl⟩) pa_nil)))))
      (pss_one (ps_ret (pe_lc (own := [("d", 3)]) (g := gName 3) rfl sc_good_divisors.nd (pi_range2 (by rfl) T.n_range (pa_cons pe_int (pa_cons (pe_op op_add (pv 2) pe_int) pa_nil))) (blkOk_by (own := [("d", 3)]) (N := ["base", "length", "most", "d"]) (sc := defScope s_good_divisors) (by decide +kernel)) (fun _ _ _ _ _ => pg_name (i := 3) sc_good_divisors.nd rfl (Or.inl rfl)) (fun _ _ _ _ _ => pts_one (PW.pt (pw_and (pt_cmpR op_isN (pe_call (ok_slip T) (hr.mono (by decide)) rfl T.g_slip T.F_slip.kp T.b_slip .nil passL (pa_cons (pv 0) (pa_cons (pv 3) (pa_cons (pv 1) pa_nil)))) pe_non (nomark _)) (pw_and1 (pt_cmpR op_isN (pe_call (ok_swap T) (hr.mono (by decide)) rfl T.g_swap T.F_swap.kp T.b_swap .nil passL (pa_cons (pv 0) (pa_cons (pv 3) (pa_cons (pv 1) (pa_cons pe_int pa_nil))))) pe_non (nomark _)))))) (fun _ _ _ _ _ => (pv 3)))))))), ?_⟩
    refine ⟨_, rfl, x, rfl, ax, fun g1 => ?_, e1⟩
    refine ⟨_, rfl, y, rfl, ay, fun g2 => ?_, e2 g1⟩
    refine ⟨_, rfl, z, 1, 100, rfl, az, fun g3 => ?_, e3 g1 g2⟩
    obtain ⟨b, rfl, b1, b2⟩ := intIn_int' g1
    obtain ⟨n, rfl, n1, n2⟩ := intIn_int' g2
    obtain ⟨m, rfl, m1, m2⟩ := intIn_int' g3
    have k := k b n m rfl rfl rfl b1 b2 n1 n2 m1 m2
    have en : m + 1 - 1 = m := by omega
    have nf : ∀ {v : V} {lo hi : Int} {G : Prop}, intIn v lo hi = true → intIn v lo hi = false → G := fun p q => Bool.noConfusion (p.symm.trans q)
    refine ⟨_, rfl, _, _, rfl, rfl, _, _, rfl, ⟨by decide, by decide, by omega, by omega⟩, fun D hD => ?_⟩
    refine lc_range (lo := 1) (n := (m + 1 - 1).toNat) (fun i H4 => Same H H4 ∧ H4 D = some (.lst ((okL b n i).map V.int))) ⟨same_upd hD, upd_same⟩ ?_ ?_
    · rintro i H4 hi ⟨S4, hL⟩
      rw [en] at hi
      have hln := okL_len b n i
      have id' : intIn (.int (1 + (i : Int))) 1 100 = true := intIn_of (by omega) (by omega)
      refine ⟨rfl, _, rfl, _, rfl, _, rfl, .int b, .int (1 + (i : Int)), .int n, rfl, .int b, .int _, .int n, nf g1, fun _ => nf id', fun _ _ => nf g2, fun b' d' n' q1 q2 q3 _ _ _ _ _ _ => ?_⟩
      cases q1; cases q2; cases q3
      refine opt_is (fun h1 => ⟨rfl, _, rfl, ?_⟩) (fun h1 q H5 S5 => ⟨rfl, _, rfl, ?_⟩)
      · rw [decide_eq_true rfl]
        refine iteT ⟨_, rfl, _, rfl, _, rfl, .int b, .int (1 + (i : Int)), .int n, .int 1, rfl, .int b, .int _, .int n, .int 1, nf g1, fun _ => nf id', fun _ _ => nf g2, fun _ _ _ => nf (by decide), fun b' d' n' f' q1 q2 q3 q4 _ _ _ _ _ _ _ _ => ?_⟩
        cases q1; cases q2; cases q3; cases q4
        refine opt_is (fun h2 => ⟨rfl, _, rfl, ?_⟩) (fun h2 q H5 S5 => ⟨rfl, _, rfl, ?_⟩)
        · have g : okD b n (1 + (i : Int)) = true := by
            unfold okD
            rw [h1, h2]
            rfl
          rw [decide_eq_true rfl]
          refine iteT ⟨_, rfl, _, hL, by rw [List.length_map]; exact small1000 (by omega), fun c o e => ?_, ?_⟩
          · rw [upd_ne (ne_of_none e hD)]
            exact S4 _ _ e
          · rw [upd_same, okL_succ, if_pos g, List.map_append]
            rfl
        · have g : ¬ okD b n (1 + (i : Int)) = true := by
            unfold okD
            rw [h2, Bool.and_false]
            exact Bool.false_ne_true
          rw [decide_eq_false (fun e => nomatch e)]
          refine iteF ⟨S4.trans S5, ?_⟩
          rw [okL_succ, if_neg g, List.append_nil]
          exact S5 _ _ hL
      · have g : ¬ okD b n (1 + (i : Int)) = true := by
          unfold okD
          rw [h1, Bool.false_and]
          exact Bool.false_ne_true
        rw [decide_eq_false (fun e => nomatch e)]
        refine iteF ⟨S4.trans S5, ?_⟩
        rw [okL_succ, if_neg g, List.append_nil]
        exact S5 _ _ hL
    · rintro H4 ⟨S4, hL⟩
      rw [en] at hL
      exact k D H4 S4 hL

def sp_law (K : PySem.W.Frag) : Sp := fun vs H Q _ => ∃ (a : Addr) (ns : List Int), vs = [.ref a] ∧ Scr K H a (ns.map V.int) ∧ ns.length ≤ 63 ∧ ∀ H', Q (.bl true) H'
theorem ok_law (T : Tx P K mg) : FnOk P w K mg base CX0 lv_law T.a_law T.d_law ["_law_script"] (sp_law K) := by
  refine T.F_law.ok sc_law (fun vs H Q E h => ?_) (fun cdv A outer s H vs Q E hr h => ?_)
  · obtain ⟨a, ns, rfl, _⟩ := h
    rfl
  · obtain ⟨a, ns, rfl, hS, hlen, k⟩ := h
    refine ⟨_, (Evl.pss_cut (ps_set (i := 1) sc_law.nd rfl (Or.inl rfl) (pe_lst (pa_cons (pv 0) (pa_cons pe_int (pa_cons pe_int (pa_cons pe_int pa_nil))))))
      (Evl.pss_cut (ps_par (i := 2) (j := 3) rfl sc_law.nd rfl rfl (by decide) rfl rfl (pa_cons (pe_op op_add pe_int (pe_call (ok__law_taken T) (hr.mono (by decide)) rfl T.g__law_taken T.F__law_taken.kp T.b__law_taken .nil pass0 (pa_cons (pv 1) (pa_cons pe_int pa_nil)))) (pa_cons (pe_op op_add pe_int (pe_call (ok__law_taken T) (hr.mono (by decide)) rfl T.g__law_taken T.F__law_taken.kp T.b__law_taken .nil pass0 (pa_cons (pv 1) (pa_cons (pe_ix ix_list (pe_lst (pa_cons pe_int (pa_cons pe_int pa_nil))) (pe_call (ok__law_taken T) (hr.mono (by decide)) rfl T.g__law_taken T.F__law_taken.kp T.b__law_taken .nil pass0 (pa_cons (pv 1) (pa_cons pe_int pa_nil))) (fun _ _ => rfl)) pa_nil)))) pa_nil)) (by rfl))
      (Evl.pss_cut (ps_par (i := 4) (j := 5) rfl sc_law.nd rfl rfl (by decide) rfl rfl (pa_cons (pe_op op_add pe_int (pe_call (ok__law_taken T) (hr.mono (by decide)) rfl T.g__law_taken T.F__law_taken.kp T.b__law_taken .nil pass0 (pa_cons (pv 1) (pa_cons pe_int pa_nil)))) (pa_cons (pe_lst pa_nil) pa_nil)) (by rfl))
      (Evl.pss_cut (ps_for PassesOwn.never rfl (pi_range2 (by rfl) T.n_range (pa_cons pe_int (pa_cons (pe_op op_add (pv 4) pe_int) pa_nil))) (pg_name (i := 6) sc_law.nd rfl (Or.inl rfl)) (pss_one (ps_if (PW.pt (pw_and (pt_cmpR op_isN (pe_call (ok_slip T) (hr.mono (by decide)) rfl T.g_slip T.F_slip.kp T.b_slip .nil passL (pa_cons (pv 2) (pa_cons (pv 6) (pa_cons (pv 3) pa_nil)))) pe_non (nomark _)) (pw_and1 (pt_cmpR op_isN (pe_call (ok_swap T) (hr.mono (by decide)) rfl T.g_swap T.F_swap.kp T.b_swap .nil passL (pa_cons (pv 2) (pa_cons (pv 6) (pa_cons (pv 3) (pa_cons pe_int pa_nil))))) pe_non (nomark _))))) (pss_one (ps_expr (pe_bm PySem.F.plainAttrs_list PySem.F.slot_list_append PySem.F.type_list_append mt_append (pv 5) (pa_cons (pv 6) pa_nil)))) pss_nil)))
      (pss_one (ps_ret (pe_cmpR (op_eqD hr.units) (pe_call (ok_good_divisors T) (hr.mono (by decide)) rfl T.g_good_divisors T.F_good_divisors.kp T.b_good_divisors .nil passL (pa_cons (pv 2) (pa_cons (pv 3) (pa_cons (pv 4) pa_nil)))) (pv 5) (nomark _)))))))), ?_⟩
    refine ⟨fun σ H1 => ∃ r, RowAt K H1 r a ns ∧ σ = [some (.ref a), some (.ref r), none, none, none, none, none], ?_, ?_⟩
    · exact ⟨_, rfl, by show 4 ≤ sizeLine; decide, fun r hr0 => ⟨r, RowAt.start hr0 hS hlen (by decide) (by decide), rfl⟩⟩
    clear hS
    rintro σ H1 ⟨r, R1, rfl⟩
    refine ⟨fun σ H3 => ∃ b n : Int, 2 ≤ b ∧ b ≤ 16 ∧ 1 ≤ n ∧ n ≤ 40 ∧ RowAt K H3 r a ns ∧ σ = [some (.ref a), some (.ref r), some (.int b), some (.int n), none, none, none], ?_, ?_⟩
    · refine ⟨_, rfl, r, a, ns, _, rfl, by decide, by decide, R1, fun v H3 v0 v1 R3 B3 => ?_⟩
      refine ⟨_, _, rfl, rfl, _, rfl, by show 2 ≤ sizeLine; decide, fun p hp => ⟨_, rfl, ?_⟩⟩
      refine menu (items := [9, 40]) (fun z => 1 ≤ z ∧ z ≤ 40) (by decide) rfl R3 hp (fun z H4 hz R4 B4 _ => ?_) (by show (0 : Int) < 2; decide) (by show (2 : Int) ≤ 10 ^ 41; decide)
      refine ⟨r, a, ns, z, rfl, by omega, by omega, R4, fun u H5 u0 u1 R5 B5 => ?_⟩
      exact ⟨_, _, rfl, rfl, _, _, rfl, 2 + v, 1 + u, by omega, by omega, by omega, by omega, R5, rfl⟩
    clear R1
    rintro σ H2 ⟨b, n, b1, b2, n1, n2, R2, rfl⟩
    refine ⟨fun σ H3 => ∃ (m : Int) (D : Addr), 1 ≤ m ∧ m ≤ 100 ∧ H3 D = some (.lst []) ∧ σ = [some (.ref a), some (.ref r), some (.int b), some (.int n), some (.int m), some (.ref D), none], ?_, ?_⟩
    · refine ⟨_, rfl, r, a, ns, _, rfl, by decide, by decide, R2, fun v H3 v0 v1 R3 B3 => ?_⟩
      exact ⟨_, _, rfl, rfl, by show 0 ≤ sizeLine; decide, fun D hD => ⟨_, _, rfl, 1 + v, D, by omega, by omega, upd_same, rfl⟩⟩
    clear R2
    rintro σ H2 ⟨m, D, m1, m2, hD, rfl⟩
    have en : m + 1 - 1 = m := by omega
    have nf : ∀ {v : V} {lo hi : Int} {G : Prop}, intIn v lo hi = true → intIn v lo hi = false → G := fun p q => Bool.noConfusion (p.symm.trans q)
    have ib := intIn_of b1 b2
    have in' := intIn_of n1 n2
    refine ⟨fun σ H3 => ∃ x : Option V, H3 D = some (.lst ((okL b n m.toNat).map V.int)) ∧ σ = [some (.ref a), some (.ref r), some (.int b), some (.int n), some (.int m), some (.ref D), x], ?_, ?_⟩
    · refine ⟨_, rfl, _, _, rfl, rfl, _, _, rfl, ⟨by decide, by decide, by omega, by omega⟩, ?_⟩
      refine for_range (lo := 1) (n := (m + 1 - 1).toNat) (fun i σ H3 => ∃ x : Option V, H3 D = some (.lst ((okL b n i).map V.int)) ∧ σ = [some (.ref a), some (.ref r), some (.int b), some (.int n), some (.int m), some (.ref D), x]) ⟨none, hD, rfl⟩ ?_ ?_
      · rintro i σ H3 hi ⟨x, hL, rfl⟩
        rw [en] at hi
        have id' : intIn (.int (1 + (i : Int))) 1 100 = true := intIn_of (by omega) (by omega)
        refine ⟨_, rfl, _, rfl, _, rfl, .int b, .int (1 + (i : Int)), .int n, rfl, .int b, .int _, .int n, nf ib, fun _ => nf id', fun _ _ => nf in', fun b' d' n' q1 q2 q3 _ _ _ _ _ _ => ?_⟩
        cases q1; cases q2; cases q3
        refine opt_is (fun h1 => ⟨rfl, _, rfl, ?_⟩) (fun h1 q H5 S5 => ⟨rfl, _, rfl, ?_⟩)
        · rw [decide_eq_true rfl]
          refine iteT ⟨_, rfl, _, rfl, _, rfl, .int b, .int (1 + (i : Int)), .int n, .int 1, rfl, .int b, .int _, .int n, .int 1, nf ib, fun _ => nf id', fun _ _ => nf in', fun _ _ _ => nf (by decide), fun b' d' n' f' q1 q2 q3 q4 _ _ _ _ _ _ _ _ => ?_⟩
          cases q1; cases q2; cases q3; cases q4
          refine opt_is (fun h2 => ⟨rfl, _, rfl, ?_⟩) (fun h2 q H5 S5 => ⟨rfl, _, rfl, ?_⟩)
          · have g : okD b n (1 + (i : Int)) = true := by
              unfold okD
              rw [h1, h2]
              rfl
            have hln := okL_len b n i
            rw [decide_eq_true rfl]
            refine iteT ⟨_, rfl, .inl ⟨rfl, _, SqL.of hL⟩, _, rfl, D, _, _, rfl, rfl, hL, by rw [List.length_map]; exact small1000 (by omega), some (.int (1 + (i : Int))), ?_, rfl⟩
            rw [upd_same, okL_succ, if_pos g, List.map_append]
            rfl
          · have g : ¬ okD b n (1 + (i : Int)) = true := by
              unfold okD
              rw [h2, Bool.and_false]
              exact Bool.false_ne_true
            rw [decide_eq_false (fun e => nomatch e)]
            refine iteF ⟨some (.int (1 + (i : Int))), ?_, rfl⟩
            rw [okL_succ, if_neg g, List.append_nil]
            exact S5 _ _ hL
        · have g : ¬ okD b n (1 + (i : Int)) = true := by
            unfold okD
            rw [h1, Bool.false_and]
            exact Bool.false_ne_true
          rw [decide_eq_false (fun e => nomatch e)]
          refine iteF ⟨some (.int (1 + (i : Int))), ?_, rfl⟩
          rw [okL_succ, if_neg g, List.append_nil]
          exact S5 _ _ hL
      · rintro σ H3 ⟨x, hL, rfl⟩
        rw [en] at hL
        exact ⟨x, hL, rfl⟩
    rintro σ H3 ⟨x, hL, rfl⟩
    refine ⟨_, rfl, _, rfl, _, rfl, .int b, .int n, .int m, rfl, .int b, .int n, .int m, nf ib, fun _ => nf in', fun _ _ => nf (intIn_of m1 m2), fun b' n' m' e1 e2 e3 _ _ _ _ _ _ q H4 S4 hq => ?_⟩
    cases e1; cases e2; cases e3
    refine ⟨_, rfl, _, _, dp_ints (SqL.of hq), dp_ints (SqL.of (S4 _ _ hL)), shaped_lints _, shaped_lints _, ?_⟩
    rw [eqv_ints, decide_eq_true rfl]
    exact k _

end
/-! ### the end -/
theorem all_mk {l : PySem.W.OpenLaw} {w : World} {K : PySem.W.Frag} {h : Heap} {mg : Str → Option Value} {fa : Addr} (X : K.In h) (G : h.Ns mainGlobals mg) (hfa : mg "law" = some (.ref fa))
    {C_TrickError : Addr}
    {C_BadBase : Addr}
    {C_BadDivisor : Addr}
    {C_BadNumber : Addr}
    {tk_LEAST_BASE : Tok}
    {tk_GREATEST_BASE : Tok}
    {tk_GREATEST_DIVISOR : Tok}
    {tk_GREATEST_LENGTH : Tok}
    {a_is_integer : Addr} {od_is_integer an_is_integer : Option Addr} {sl_is_integer : Array (Option Value)} {oc_is_integer kV_is_integer dc_is_integer pm_is_integer cd_is_integer ct_is_integer : Value}
    {a_check_base : Addr} {od_check_base an_check_base : Option Addr} {sl_check_base : Array (Option Value)} {oc_check_base kV_check_base dc_check_base pm_check_base cd_check_base ct_check_base : Value}
    {a_check_divisor dT_check_divisor : Addr} {od_check_divisor an_check_divisor dod_check_divisor : Option Addr} {sl_check_divisor dsl_check_divisor : Array (Option Value)} {oc_check_divisor kV_check_divisor dc_check_divisor pm_check_divisor cd_check_divisor ct_check_divisor doc_check_divisor : Value} {dvs_check_divisor : Array Value} {dn_check_divisor : Nat} {dt0_check_divisor : Tok}
    {a_check_stretch : Addr} {od_check_stretch an_check_stretch : Option Addr} {sl_check_stretch : Array (Option Value)} {oc_check_stretch kV_check_stretch dc_check_stretch pm_check_stretch cd_check_stretch ct_check_stretch : Value}
    {a_slip : Addr} {od_slip an_slip : Option Addr} {sl_slip : Array (Option Value)} {oc_slip kV_slip dc_slip pm_slip cd_slip ct_slip : Value}
    {a_swap : Addr} {od_swap an_swap : Option Addr} {sl_swap : Array (Option Value)} {oc_swap kV_swap dc_swap pm_swap cd_swap ct_swap : Value}
    {a_good_divisors : Addr} {od_good_divisors an_good_divisors : Option Addr} {sl_good_divisors : Array (Option Value)} {oc_good_divisors kV_good_divisors dc_good_divisors pm_good_divisors cd_good_divisors ct_good_divisors : Value}
    {a_check_length : Addr} {od_check_length an_check_length : Option Addr} {sl_check_length : Array (Option Value)} {oc_check_length kV_check_length dc_check_length pm_check_length cd_check_length ct_check_length : Value}
    {a_least_unseen : Addr} {od_least_unseen an_least_unseen : Option Addr} {sl_least_unseen : Array (Option Value)} {oc_least_unseen kV_least_unseen dc_least_unseen pm_least_unseen cd_least_unseen ct_least_unseen : Value}
    {a__law_taken : Addr} {od__law_taken an__law_taken : Option Addr} {sl__law_taken : Array (Option Value)} {oc__law_taken kV__law_taken dc__law_taken pm__law_taken cd__law_taken ct__law_taken : Value}
    {a_law : Addr} {od_law an_law : Option Addr} {sl_law : Array (Option Value)} {oc_law kV_law dc_law pm_law cd_law ct_law : Value}
    {a_BadNumber___init__ cda_BadNumber___init__ cc_BadNumber___init__ N_BadNumber___init__ : Addr} {od_BadNumber___init__ an_BadNumber___init__ cdd_BadNumber___init__ cld_BadNumber___init__ dd_BadNumber___init__ : Option Addr} {sl_BadNumber___init__ ccs_BadNumber___init__ csl_BadNumber___init__ : Array (Option Value)} {oc_BadNumber___init__ dc_BadNumber___init__ pm_BadNumber___init__ ct_BadNumber___init__ ccl_BadNumber___init__ cl_BadNumber___init__ : Value} {vs_BadNumber___init__ : Array Value} {file_BadNumber___init__ nm_BadNumber___init__ qn_BadNumber___init__ : Str} {tf_BadNumber___init__ : Tok} {bs_BadNumber___init__ bm_BadNumber___init__ sub_BadNumber___init__ : List Value} {sn_BadNumber___init__ : List Str} {ab_BadNumber___init__ : Bool} {col_BadNumber___init__ : Option Bool} {k0_BadNumber___init__ k1_BadNumber___init__ k2_BadNumber___init__ k3_BadNumber___init__ k5_BadNumber___init__ : Option Value}
    (gx_TrickError : PySem.W.nsIn K mainGlobals "TrickError" = some (some (.ref C_TrickError)))
    (x_TrickError : PySem.W.excIn K C_TrickError [.type "ValueError", .type "Exception", .type "BaseException", .type "object"] "ValueError.__new__" = true)
    (k_TrickError : PySem.W.keepIn K (.ref C_TrickError) = true)
    (s_TrickError : PySem.W.subIn K (.ref C_TrickError) (.type "BaseException") = some true)
    (t_TrickError : PySem.W.typeIn K (.ref C_TrickError) = some (.type "type"))
    (gx_BadBase : PySem.W.nsIn K mainGlobals "BadBase" = some (some (.ref C_BadBase)))
    (x_BadBase : PySem.W.excIn K C_BadBase [.type "ValueError", .type "Exception", .type "BaseException", .type "object"] "ValueError.__new__" = true)
    (k_BadBase : PySem.W.keepIn K (.ref C_BadBase) = true)
    (s_BadBase : PySem.W.subIn K (.ref C_BadBase) (.type "BaseException") = some true)
    (t_BadBase : PySem.W.typeIn K (.ref C_BadBase) = some (.type "type"))
    (gx_BadDivisor : PySem.W.nsIn K mainGlobals "BadDivisor" = some (some (.ref C_BadDivisor)))
    (x_BadDivisor : PySem.W.excIn K C_BadDivisor [.type "ValueError", .type "Exception", .type "BaseException", .type "object"] "ValueError.__new__" = true)
    (k_BadDivisor : PySem.W.keepIn K (.ref C_BadDivisor) = true)
    (s_BadDivisor : PySem.W.subIn K (.ref C_BadDivisor) (.type "BaseException") = some true)
    (t_BadDivisor : PySem.W.typeIn K (.ref C_BadDivisor) = some (.type "type"))
    (gx_BadNumber : PySem.W.nsIn K mainGlobals "BadNumber" = some (some (.ref C_BadNumber)))
    (k_BadNumber : PySem.W.keepIn K (.ref C_BadNumber) = true)
    (s_BadNumber : PySem.W.subIn K (.ref C_BadNumber) (.type "BaseException") = some true)
    (t_BadNumber : PySem.W.typeIn K (.ref C_BadNumber) = some (.type "type"))
    (cx_LEAST_BASE : PySem.W.nsIn K mainGlobals "LEAST_BASE" = some (some (.int 2 tk_LEAST_BASE)))
    (cx_GREATEST_BASE : PySem.W.nsIn K mainGlobals "GREATEST_BASE" = some (some (.int 16 tk_GREATEST_BASE)))
    (cx_GREATEST_DIVISOR : PySem.W.nsIn K mainGlobals "GREATEST_DIVISOR" = some (some (.int 100 tk_GREATEST_DIVISOR)))
    (cx_GREATEST_LENGTH : PySem.W.nsIn K mainGlobals "GREATEST_LENGTH" = some (some (.int 40 tk_GREATEST_LENGTH)))
    (gf_is_integer : PySem.W.nsIn K mainGlobals "is_integer" = some (some (.ref a_is_integer)))
    (l_is_integer : K.lookup a_is_integer = some ⟨oc_is_integer, od_is_integer, .func (PySem.W.fnOf "is_integer" "is_integer" (defArgs s_is_integer) (defBody s_is_integer) (defScope s_is_integer) .none kV_is_integer dc_is_integer pm_is_integer an_is_integer cd_is_integer ct_is_integer), sl_is_integer⟩)
    (c_is_integer : PySem.W.codeIn K cd_is_integer "is_integer" = true)
    (kp_is_integer : PySem.W.keepIn K (.ref a_is_integer) = true)
    (gf_check_base : PySem.W.nsIn K mainGlobals "check_base" = some (some (.ref a_check_base)))
    (l_check_base : K.lookup a_check_base = some ⟨oc_check_base, od_check_base, .func (PySem.W.fnOf "check_base" "check_base" (defArgs s_check_base) (defBody s_check_base) (defScope s_check_base) .none kV_check_base dc_check_base pm_check_base an_check_base cd_check_base ct_check_base), sl_check_base⟩)
    (c_check_base : PySem.W.codeIn K cd_check_base "check_base" = true)
    (kp_check_base : PySem.W.keepIn K (.ref a_check_base) = true)
    (gf_check_divisor : PySem.W.nsIn K mainGlobals "check_divisor" = some (some (.ref a_check_divisor)))
    (l_check_divisor : K.lookup a_check_divisor = some ⟨oc_check_divisor, od_check_divisor, .func (PySem.W.fnOf "check_divisor" "check_divisor" (defArgs s_check_divisor) (defBody s_check_divisor) (defScope s_check_divisor) (.ref dT_check_divisor) kV_check_divisor dc_check_divisor pm_check_divisor an_check_divisor cd_check_divisor ct_check_divisor), sl_check_divisor⟩)
    (c_check_divisor : PySem.W.codeIn K cd_check_divisor "check_divisor" = true)
    (kp_check_divisor : PySem.W.keepIn K (.ref a_check_divisor) = true)
    (ldT_check_divisor : K.lookup dT_check_divisor = some ⟨doc_check_divisor, dod_check_divisor, .seq dvs_check_divisor dn_check_divisor, dsl_check_divisor⟩)
    (rdv_check_divisor : dvs_check_divisor = #[.int 100 dt0_check_divisor])
    (gf_check_stretch : PySem.W.nsIn K mainGlobals "check_stretch" = some (some (.ref a_check_stretch)))
    (l_check_stretch : K.lookup a_check_stretch = some ⟨oc_check_stretch, od_check_stretch, .func (PySem.W.fnOf "check_stretch" "check_stretch" (defArgs s_check_stretch) (defBody s_check_stretch) (defScope s_check_stretch) .none kV_check_stretch dc_check_stretch pm_check_stretch an_check_stretch cd_check_stretch ct_check_stretch), sl_check_stretch⟩)
    (c_check_stretch : PySem.W.codeIn K cd_check_stretch "check_stretch" = true)
    (kp_check_stretch : PySem.W.keepIn K (.ref a_check_stretch) = true)
    (gf_slip : PySem.W.nsIn K mainGlobals "slip" = some (some (.ref a_slip)))
    (l_slip : K.lookup a_slip = some ⟨oc_slip, od_slip, .func (PySem.W.fnOf "slip" "slip" (defArgs s_slip) (defBody s_slip) (defScope s_slip) .none kV_slip dc_slip pm_slip an_slip cd_slip ct_slip), sl_slip⟩)
    (c_slip : PySem.W.codeIn K cd_slip "slip" = true)
    (kp_slip : PySem.W.keepIn K (.ref a_slip) = true)
    (gf_swap : PySem.W.nsIn K mainGlobals "swap" = some (some (.ref a_swap)))
    (l_swap : K.lookup a_swap = some ⟨oc_swap, od_swap, .func (PySem.W.fnOf "swap" "swap" (defArgs s_swap) (defBody s_swap) (defScope s_swap) .none kV_swap dc_swap pm_swap an_swap cd_swap ct_swap), sl_swap⟩)
    (c_swap : PySem.W.codeIn K cd_swap "swap" = true)
    (kp_swap : PySem.W.keepIn K (.ref a_swap) = true)
    (gf_good_divisors : PySem.W.nsIn K mainGlobals "good_divisors" = some (some (.ref a_good_divisors)))
    (l_good_divisors : K.lookup a_good_divisors = some ⟨oc_good_divisors, od_good_divisors, .func (PySem.W.fnOf "good_divisors" "good_divisors" (defArgs s_good_divisors) (defBody s_good_divisors) (defScope s_good_divisors) .none kV_good_divisors dc_good_divisors pm_good_divisors an_good_divisors cd_good_divisors ct_good_divisors), sl_good_divisors⟩)
    (c_good_divisors : PySem.W.codeIn K cd_good_divisors "good_divisors" = true)
    (kp_good_divisors : PySem.W.keepIn K (.ref a_good_divisors) = true)
    (gf_check_length : PySem.W.nsIn K mainGlobals "check_length" = some (some (.ref a_check_length)))
    (l_check_length : K.lookup a_check_length = some ⟨oc_check_length, od_check_length, .func (PySem.W.fnOf "check_length" "check_length" (defArgs s_check_length) (defBody s_check_length) (defScope s_check_length) .none kV_check_length dc_check_length pm_check_length an_check_length cd_check_length ct_check_length), sl_check_length⟩)
    (c_check_length : PySem.W.codeIn K cd_check_length "check_length" = true)
    (kp_check_length : PySem.W.keepIn K (.ref a_check_length) = true)
    (gf_least_unseen : PySem.W.nsIn K mainGlobals "least_unseen" = some (some (.ref a_least_unseen)))
    (l_least_unseen : K.lookup a_least_unseen = some ⟨oc_least_unseen, od_least_unseen, .func (PySem.W.fnOf "least_unseen" "least_unseen" (defArgs s_least_unseen) (defBody s_least_unseen) (defScope s_least_unseen) .none kV_least_unseen dc_least_unseen pm_least_unseen an_least_unseen cd_least_unseen ct_least_unseen), sl_least_unseen⟩)
    (c_least_unseen : PySem.W.codeIn K cd_least_unseen "least_unseen" = true)
    (kp_least_unseen : PySem.W.keepIn K (.ref a_least_unseen) = true)
    (gf__law_taken : PySem.W.nsIn K mainGlobals "_law_taken" = some (some (.ref a__law_taken)))
    (l__law_taken : K.lookup a__law_taken = some ⟨oc__law_taken, od__law_taken, .func (PySem.W.fnOf "_law_taken" "_law_taken" (defArgs s__law_taken) (defBody s__law_taken) (defScope s__law_taken) .none kV__law_taken dc__law_taken pm__law_taken an__law_taken cd__law_taken ct__law_taken), sl__law_taken⟩)
    (c__law_taken : PySem.W.codeIn K cd__law_taken "_law_taken" = true)
    (kp__law_taken : PySem.W.keepIn K (.ref a__law_taken) = true)
    (gf_law : PySem.W.nsIn K mainGlobals "law" = some (some (.ref a_law)))
    (l_law : K.lookup a_law = some ⟨oc_law, od_law, .func (PySem.W.fnOf "law" "law" (defArgs s_law) (defBody s_law) (defScope s_law) .none kV_law dc_law pm_law an_law cd_law ct_law), sl_law⟩)
    (c_law : PySem.W.codeIn K cd_law "law" = true)
    (kp_law : PySem.W.keepIn K (.ref a_law) = true)
    (z_int : PySem.W.nsIn K mainGlobals "int" = some none)
    (z_bool : PySem.W.nsIn K mainGlobals "bool" = some none)
    (z_len : PySem.W.nsIn K mainGlobals "len" = some none)
    (z_range : PySem.W.nsIn K mainGlobals "range" = some none)
    (z_isinstance : PySem.W.nsIn K mainGlobals "isinstance" = some none)
    (z_super : PySem.W.nsIn K mainGlobals "super" = some none)
    (z_ValueError : PySem.W.nsIn K mainGlobals "ValueError" = some none)
    (xl_BadNumber___init__ : K.lookup C_BadNumber = some (PySem.excClassObj nm_BadNumber___init__ qn_BadNumber___init__ C_BadNumber N_BadNumber___init__ bs_BadNumber___init__ bm_BadNumber___init__ true sn_BadNumber___init__ sub_BadNumber___init__ ab_BadNumber___init__ col_BadNumber___init__ dd_BadNumber___init__ k0_BadNumber___init__ k1_BadNumber___init__ k2_BadNumber___init__ k3_BadNumber___init__ k5_BadNumber___init__ "ValueError.__new__"))
    (xrb_BadNumber___init__ : PySem.HandSPX.refsVE bm_BadNumber___init__ = true)
    (xsa_BadNumber___init__ : PySem.W.findIn K (.ref C_BadNumber) "__setattr__" = some (some (.builtin "object.__setattr__")))
    (xga_BadNumber___init__ : PySem.W.findIn K (.ref C_BadNumber) "__getattribute__" = some (some (.builtin "BaseException.__getattribute__")))
    (xgg_BadNumber___init__ : PySem.W.findIn K (.ref C_BadNumber) "__getattr__" = some none)
    (xnf_BadNumber___init__ : PySem.W.findIn K (.ref C_BadNumber) "n" = some none)
    (xic_BadNumber___init__ : PySem.W.findIn K (.ref C_BadNumber) "__init__" = some (some (.ref a_BadNumber___init__)))
    (xtc_BadNumber___init__ : PySem.W.typeIn K (.ref a_BadNumber___init__) = some (.type "function"))
    (xhd_BadNumber___init__ : PySem.W.hasDictIn K C_BadNumber = true)
    (xup_BadNumber___init__ : PySem.W.ks_superIn K C_BadNumber C_BadNumber "__init__" = some (some (.builtin "ValueError.__init__")))
    (xan_BadNumber___init__ : PySem.W.nsIn K PySem.cStatics "thirdparty.any" = some none)
    (xve_BadNumber___init__ : PySem.W.subIn K (.ref C_BadNumber) (.type "ValueError") = some true)
    (xow_BadNumber___init__ : PySem.W.mroIn K C_BadNumber (.ref C_BadNumber) = some true)
    (rmn_BadNumber___init__ : (l.prog.main.scope.names.lookup ("super" : Str)).isSome = false)
    (xfn_BadNumber___init__ : K.lookup a_BadNumber___init__ = some ⟨oc_BadNumber___init__, od_BadNumber___init__, .func (PySem.W.ksFn "__init__" "BadNumber.__init__" (defArgs s_BadNumber___init__) (defBody s_BadNumber___init__) (defScope s_BadNumber___init__) .none .none dc_BadNumber___init__ pm_BadNumber___init__ an_BadNumber___init__ (.ref cda_BadNumber___init__) ct_BadNumber___init__ cc_BadNumber___init__), sl_BadNumber___init__⟩)
    (xco_BadNumber___init__ : PySem.W.codeIn K (.ref cda_BadNumber___init__) "BadNumber.__init__" = true)
    (xcd_BadNumber___init__ : K.lookup cda_BadNumber___init__ = some ⟨ccl_BadNumber___init__, cdd_BadNumber___init__, .fields vs_BadNumber___init__, ccs_BadNumber___init__⟩)
    (rvs_BadNumber___init__ : vs_BadNumber___init__[2]? = some (.str file_BadNumber___init__ tf_BadNumber___init__))
    (rfi_BadNumber___init__ : ((l.prog.main.file : Str) == file_BadNumber___init__) = true)
    (xcc_BadNumber___init__ : K.lookup cc_BadNumber___init__ = some ⟨cl_BadNumber___init__, cld_BadNumber___init__, .cell (some (.ref C_BadNumber)), csl_BadNumber___init__⟩)
    : ∃ fd : FuncData, (∀ (s : Shared) (v : Value), BindsTo s fd ⟨[v], []⟩ [("_law_script", v)]) ∧ ∀ base : Heap, K.In base → base.Ns mainGlobals mg → FnOk l.prog w K mg base CX0 lv_law fa fd ["_law_script"] (sp_law K) := by
  have e := hfa.symm.trans (PySem.W.mg_of X G gf_law)
  have e2 : a_law = fa := by cases e; rfl
  subst e2
  have F_check_divisor : FunD K "check_divisor" "check_divisor" (defArgs s_check_divisor) (defBody s_check_divisor) (defScope s_check_divisor) [.int 100] [] a_check_divisor _ := ⟨⟨_, _, _, _, _, _, _, _, _, _, rfl, l_check_divisor, c_check_divisor, .inr ⟨List.cons_ne_nil _ _, _, _, [.int 100 dt0_check_divisor], _, rfl, ldT_check_divisor, by rw [rdv_check_divisor], (.cons ⟨_, rfl⟩ .nil)⟩, .inl rfl⟩, kp_check_divisor⟩
  obtain ⟨dn0_check_divisor, ro_check_divisor, bo_check_divisor⟩ := F_check_divisor.binds1 (ps := ["d", "greatest"]) 2 1 (List.cons_ne_nil _ _) rfl fun _ _ _ _ _ _ _ us its h1 h2 => match us, its, h1, h2 with | [_, _], [_], _, _ => ⟨_, rfl, rfl⟩
  cases ro_check_divisor
  obtain ⟨ds_check_divisor, rd_check_divisor, bd_check_divisor⟩ := F_check_divisor.binds1 (ps := ["d", "greatest"]) 1 0 (List.cons_ne_nil _ _) rfl fun _ _ _ _ _ _ _ us its h1 h2 => match us, its, h1, h2 with | [_], [_], _, _ => ⟨_, rfl, rfl⟩
  refine ⟨PySem.W.fnOf "law" "law" (defArgs s_law) (defBody s_law) (defScope s_law) .none kV_law dc_law pm_law an_law cd_law ct_law, fun s v => .of_eq rfl, fun base _ _ => ?_⟩
  exact ok_law (T :=
    { C_TrickError := C_TrickError,
      g_TrickError := PySem.W.mg_of X G gx_TrickError,
      x_TrickError := x_TrickError,
      k_TrickError := k_TrickError,
      s_TrickError := s_TrickError,
      t_TrickError := t_TrickError,
      C_BadBase := C_BadBase,
      g_BadBase := PySem.W.mg_of X G gx_BadBase,
      x_BadBase := x_BadBase,
      k_BadBase := k_BadBase,
      s_BadBase := s_BadBase,
      t_BadBase := t_BadBase,
      C_BadDivisor := C_BadDivisor,
      g_BadDivisor := PySem.W.mg_of X G gx_BadDivisor,
      x_BadDivisor := x_BadDivisor,
      k_BadDivisor := k_BadDivisor,
      s_BadDivisor := s_BadDivisor,
      t_BadDivisor := t_BadDivisor,
      C_BadNumber := C_BadNumber,
      g_BadNumber := PySem.W.mg_of X G gx_BadNumber,
      k_BadNumber := k_BadNumber,
      s_BadNumber := s_BadNumber,
      t_BadNumber := t_BadNumber,
      t_c_LEAST_BASE := tk_LEAST_BASE,
      c_LEAST_BASE := PySem.W.mg_of X G cx_LEAST_BASE,
      t_c_GREATEST_BASE := tk_GREATEST_BASE,
      c_GREATEST_BASE := PySem.W.mg_of X G cx_GREATEST_BASE,
      t_c_GREATEST_DIVISOR := tk_GREATEST_DIVISOR,
      c_GREATEST_DIVISOR := PySem.W.mg_of X G cx_GREATEST_DIVISOR,
      t_c_GREATEST_LENGTH := tk_GREATEST_LENGTH,
      c_GREATEST_LENGTH := PySem.W.mg_of X G cx_GREATEST_LENGTH,
      a_is_integer := a_is_integer,
      d_is_integer := _,
      F_is_integer := fun_mk (st := s_is_integer) l_is_integer c_is_integer kp_is_integer,
      b_is_integer := (fun_mk (st := s_is_integer) l_is_integer c_is_integer kp_is_integer).binds (ps := ["told", "low", "high"]) fun _ _ _ _ _ _ us hl => match us, hl with | [_, _, _], _ => rfl,
      g_is_integer := PySem.W.mg_of X G gf_is_integer,
      a_check_base := a_check_base,
      d_check_base := _,
      F_check_base := fun_mk (st := s_check_base) l_check_base c_check_base kp_check_base,
      b_check_base := (fun_mk (st := s_check_base) l_check_base c_check_base kp_check_base).binds (ps := ["base"]) fun _ _ _ _ _ _ us hl => match us, hl with | [_], _ => rfl,
      g_check_base := PySem.W.mg_of X G gf_check_base,
      a_check_divisor := a_check_divisor,
      d_check_divisor := _,
      F_check_divisor := F_check_divisor,
      b_check_divisor := bo_check_divisor,
      ds_check_divisor := ds_check_divisor,
      rd_check_divisor := rd_check_divisor,
      bd_check_divisor := bd_check_divisor,
      g_check_divisor := PySem.W.mg_of X G gf_check_divisor,
      a_check_stretch := a_check_stretch,
      d_check_stretch := _,
      F_check_stretch := fun_mk (st := s_check_stretch) l_check_stretch c_check_stretch kp_check_stretch,
      b_check_stretch := (fun_mk (st := s_check_stretch) l_check_stretch c_check_stretch kp_check_stretch).binds (ps := ["n", "low", "high"]) fun _ _ _ _ _ _ us hl => match us, hl with | [_, _, _], _ => rfl,
      g_check_stretch := PySem.W.mg_of X G gf_check_stretch,
      a_slip := a_slip,
      d_slip := _,
      F_slip := fun_mk (st := s_slip) l_slip c_slip kp_slip,
      b_slip := (fun_mk (st := s_slip) l_slip c_slip kp_slip).binds (ps := ["base", "d", "length"]) fun _ _ _ _ _ _ us hl => match us, hl with | [_, _, _], _ => rfl,
      g_slip := PySem.W.mg_of X G gf_slip,
      a_swap := a_swap,
      d_swap := _,
      F_swap := fun_mk (st := s_swap) l_swap c_swap kp_swap,
      b_swap := (fun_mk (st := s_swap) l_swap c_swap kp_swap).binds (ps := ["base", "d", "length", "far"]) fun _ _ _ _ _ _ us hl => match us, hl with | [_, _, _, _], _ => rfl,
      g_swap := PySem.W.mg_of X G gf_swap,
      a_good_divisors := a_good_divisors,
      d_good_divisors := _,
      F_good_divisors := fun_mk (st := s_good_divisors) l_good_divisors c_good_divisors kp_good_divisors,
      b_good_divisors := (fun_mk (st := s_good_divisors) l_good_divisors c_good_divisors kp_good_divisors).binds (ps := ["base", "length", "most"]) fun _ _ _ _ _ _ us hl => match us, hl with | [_, _, _], _ => rfl,
      g_good_divisors := PySem.W.mg_of X G gf_good_divisors,
      a_check_length := a_check_length,
      d_check_length := _,
      F_check_length := fun_mk (st := s_check_length) l_check_length c_check_length kp_check_length,
      b_check_length := (fun_mk (st := s_check_length) l_check_length c_check_length kp_check_length).binds (ps := ["length"]) fun _ _ _ _ _ _ us hl => match us, hl with | [_], _ => rfl,
      g_check_length := PySem.W.mg_of X G gf_check_length,
      a_least_unseen := a_least_unseen,
      d_least_unseen := _,
      F_least_unseen := fun_mk (st := s_least_unseen) l_least_unseen c_least_unseen kp_least_unseen,
      b_least_unseen := (fun_mk (st := s_least_unseen) l_least_unseen c_least_unseen kp_least_unseen).binds (ps := ["base", "d", "places", "change"]) fun _ _ _ _ _ _ us hl => match us, hl with | [_, _, _, _], _ => rfl,
      g_least_unseen := PySem.W.mg_of X G gf_least_unseen,
      a__law_taken := a__law_taken,
      d__law_taken := _,
      F__law_taken := fun_mk (st := s__law_taken) l__law_taken c__law_taken kp__law_taken,
      b__law_taken := (fun_mk (st := s__law_taken) l__law_taken c__law_taken kp__law_taken).binds (ps := ["_law_row", "_law_many"]) fun _ _ _ _ _ _ us hl => match us, hl with | [_, _], _ => rfl,
      g__law_taken := PySem.W.mg_of X G gf__law_taken,
      a_law := a_law,
      d_law := _,
      F_law := fun_mk (st := s_law) l_law c_law kp_law,
      b_law := (fun_mk (st := s_law) l_law c_law kp_law).binds (ps := ["_law_script"]) fun _ _ _ _ _ _ us hl => match us, hl with | [_], _ => rfl,
      g_law := PySem.W.mg_of X G gf_law,
      n_int := PySem.W.mg_none_of X G z_int,
      n_bool := PySem.W.mg_none_of X G z_bool,
      n_len := PySem.W.mg_none_of X G z_len,
      n_range := PySem.W.mg_none_of X G z_range,
      n_isinstance := PySem.W.mg_none_of X G z_isinstance,
      n_super := PySem.W.mg_none_of X G z_super,
      n_ValueError := PySem.W.mg_none_of X G z_ValueError,
      a_BadNumber___init__ := a_BadNumber___init__,
      x_BadNumber := { gC := PySem.W.mg_of X G gx_BadNumber, cls := ⟨_, _, _, _, _, _, _, _, _, _, _, _, _, _, _, xl_BadNumber___init__, xrb_BadNumber___init__⟩, sa := xsa_BadNumber___init__, ga := xga_BadNumber___init__, gg := xgg_BadNumber___init__, noF := xnf_BadNumber___init__, iC := xic_BadNumber___init__, tC := xtc_BadNumber___init__, kC := k_BadNumber, exC := s_BadNumber, tyC := t_BadNumber, hdC := xhd_BadNumber___init__, up := xup_BadNumber___init__, any := xan_BadNumber___init__, ve := xve_BadNumber___init__, own := xow_BadNumber___init__, sup := PySem.W.mg_none_of X G z_super, main := rmn_BadNumber___init__, fn := ⟨_, _, _, _, _, _, _, _, _, _, _, _, _, _, _, _, _, _, _, xfn_BadNumber___init__, xco_BadNumber___init__, xcd_BadNumber___init__, rvs_BadNumber___init__, rfi_BadNumber___init__, xcc_BadNumber___init__⟩, text := ⟨_, _, _, _, _, _, _, _, _, _, _, rfl, rfl, fun _ => rfl⟩, kS := rfl, kK := rfl, k0 := rfl, kF := rfl, nF := by decide, nD := by decide, noCell := by decide +kernel, bind := fun _ _ _ _ _ _ _ _ _ => rfl, plain := fun _ => rfl, knd := rfl, co := rfl, gen := rfl } })
theorem walk {l : PySem.W.OpenLaw} {q : Program} {loose : List Str} {XP : (Str → Option Value) → Heap → Prop} {YP : World → Heap → Prop} {d : DefRec} {K : Params → PySem.W.Frag} (hn : l.most = some 63) (hdf : d.params.defaults = [])
    (hY : ∀ (w : World) (h : Heap), YP w h → (K w.params).In h)
    (F : ∀ (w : World) (mg : Str → Option Value) (fa : Addr) (h : Heap), (K w.params).In h → h.Ns mainGlobals mg → mg d.name = some (.ref fa) →
      ∃ fd : FuncData, (∀ (s : Shared) (u : Value), BindsTo s fd ⟨[u], []⟩ [("_law_script", u)]) ∧ ∀ base : Heap, (K w.params).In base → base.Ns mainGlobals mg → FnOk l.prog w (K w.params) mg base CX0 lv_law fa fd ["_law_script"] (sp_law (K w.params))) :
    PySem.W.WalkO q loose XP YP l.row.toRowW d [] (fun f vs => PySem.call f vs) :=
  L2.walk_of (n := 63) (k := lv_law) (x := "_law_script") (CX := fun _ => CX0) (sp := fun w => sp_law (K w.params)) hn (by decide) hdf ⟨rfl, by decide, by decide⟩ hY F (fun _ _ a ns hl hO hS => ⟨a, ns, rfl, scr_of hO hS, hl, fun _ => rfl⟩) fun _ _ _ _ _ z => z
end Rt
open PySem PySem.W PyProof.Rows
set_option maxRecDepth 100000 in
set_option maxHeartbeats 0 in
theorem PySem.Challenge.cw_resttricks_k29_whole_good_divisors_holds : PySem.Challenge.rw_resttricks_k29_whole_good_divisors.Holds := by
  w_on; o_law; k_head; (case hw => w_witness2)
  k_fill
  refine Rt.walk (l := PySem.Challenge.rw_resttricks_k29_whole_good_divisors) rfl rfl (fun w h Y => PySem.W.kIn_of Y) ?F
  case F =>
    intro w mg fa h KX G hmg
    refine' Rt.all_mk KX G hmg ?gx_TrickError ?x_TrickError ?k_TrickError ?s_TrickError ?t_TrickError ?gx_BadBase ?x_BadBase ?k_BadBase ?s_BadBase ?t_BadBase ?gx_BadDivisor ?x_BadDivisor ?k_BadDivisor ?s_BadDivisor ?t_BadDivisor ?gx_BadNumber ?k_BadNumber ?s_BadNumber ?t_BadNumber ?cx_LEAST_BASE ?cx_GREATEST_BASE ?cx_GREATEST_DIVISOR ?cx_GREATEST_LENGTH ?gf_is_integer ?l_is_integer ?c_is_integer ?kp_is_integer ?gf_check_base ?l_check_base ?c_check_base ?kp_check_base ?gf_check_divisor ?l_check_divisor ?c_check_divisor ?kp_check_divisor ?ldT_check_divisor ?rdv_check_divisor ?gf_check_stretch ?l_check_stretch ?c_check_stretch ?kp_check_stretch ?gf_slip ?l_slip ?c_slip ?kp_slip ?gf_swap ?l_swap ?c_swap ?kp_swap ?gf_good_divisors ?l_good_divisors ?c_good_divisors ?kp_good_divisors ?gf_check_length ?l_check_length ?c_check_length ?kp_check_length ?gf_least_unseen ?l_least_unseen ?c_least_unseen ?kp_least_unseen ?gf__law_taken ?l__law_taken ?c__law_taken ?kp__law_taken ?gf_law ?l_law ?c_law ?kp_law ?z_int ?z_bool ?z_len ?z_range ?z_isinstance ?z_super ?z_ValueError ?xl_BadNumber___init__ ?xrb_BadNumber___init__ ?xsa_BadNumber___init__ ?xga_BadNumber___init__ ?xgg_BadNumber___init__ ?xnf_BadNumber___init__ ?xic_BadNumber___init__ ?xtc_BadNumber___init__ ?xhd_BadNumber___init__ ?xup_BadNumber___init__ ?xan_BadNumber___init__ ?xve_BadNumber___init__ ?xow_BadNumber___init__ ?rmn_BadNumber___init__ ?xfn_BadNumber___init__ ?xco_BadNumber___init__ ?xcd_BadNumber___init__ ?rvs_BadNumber___init__ ?rfi_BadNumber___init__ ?xcc_BadNumber___init__
    (case gx_TrickError => k_is)
    (case x_TrickError => k_exc)
    (case k_TrickError => k_is)
    (case s_TrickError => k_is)
    (case t_TrickError => k_is)
    (case gx_BadBase => k_is)
    (case x_BadBase => k_exc)
    (case k_BadBase => k_is)
    (case s_BadBase => k_is)
    (case t_BadBase => k_is)
    (case gx_BadDivisor => k_is)
    (case x_BadDivisor => k_exc)
    (case k_BadDivisor => k_is)
    (case s_BadDivisor => k_is)
    (case t_BadDivisor => k_is)
    (case gx_BadNumber => k_is)
    (case k_BadNumber => k_is)
    (case s_BadNumber => k_is)
    (case t_BadNumber => k_is)
    (case cx_LEAST_BASE => k_is)
    (case cx_GREATEST_BASE => k_is)
    (case cx_GREATEST_DIVISOR => k_is)
    (case cx_GREATEST_LENGTH => k_is)
    (case gf_is_integer => k_is)
    (case l_is_integer => k_is)
    (case c_is_integer => k_is)
    (case kp_is_integer => k_is)
    (case gf_check_base => k_is)
    (case l_check_base => k_is)
    (case c_check_base => k_is)
    (case kp_check_base => k_is)
    (case gf_check_divisor => k_is)
    (case l_check_divisor => k_is)
    (case c_check_divisor => k_is)
    (case kp_check_divisor => k_is)
    (case ldT_check_divisor => k_is)
    (case rdv_check_divisor => first | rfl | decide +kernel)
    (case gf_check_stretch => k_is)
    (case l_check_stretch => k_is)
    (case c_check_stretch => k_is)
    (case kp_check_stretch => k_is)
    (case gf_slip => k_is)
    (case l_slip => k_is)
    (case c_slip => k_is)
    (case kp_slip => k_is)
    (case gf_swap => k_is)
    (case l_swap => k_is)
    (case c_swap => k_is)
    (case kp_swap => k_is)
    (case gf_good_divisors => k_is)
    (case l_good_divisors => k_is)
    (case c_good_divisors => k_is)
    (case kp_good_divisors => k_is)
    (case gf_check_length => k_is)
    (case l_check_length => k_is)
    (case c_check_length => k_is)
    (case kp_check_length => k_is)
    (case gf_least_unseen => k_is)
    (case l_least_unseen => k_is)
    (case c_least_unseen => k_is)
    (case kp_least_unseen => k_is)
    (case gf__law_taken => k_is)
    (case l__law_taken => k_is)
    (case c__law_taken => k_is)
    (case kp__law_taken => k_is)
    (case gf_law => k_is)
    (case l_law => k_is)
    (case c_law => k_is)
    (case kp_law => k_is)
    (case z_int => k_is)
    (case z_bool => k_is)
    (case z_len => k_is)
    (case z_range => k_is)
    (case z_isinstance => k_is)
    (case z_super => k_is)
    (case z_ValueError => k_is)
    (case xl_BadNumber___init__ => k_is)
    (case xrb_BadNumber___init__ => first | rfl | decide +kernel)
    (case xsa_BadNumber___init__ => k_is)
    (case xga_BadNumber___init__ => k_is)
    (case xgg_BadNumber___init__ => k_is)
    (case xnf_BadNumber___init__ => k_is)
    (case xic_BadNumber___init__ => k_is)
    (case xtc_BadNumber___init__ => k_is)
    (case xhd_BadNumber___init__ => k_is)
    (case xup_BadNumber___init__ => ks_is)
    (case xan_BadNumber___init__ => k_is)
    (case xve_BadNumber___init__ => k_is)
    (case xow_BadNumber___init__ => k_is)
    (case rmn_BadNumber___init__ => first | rfl | decide +kernel)
    (case xfn_BadNumber___init__ => k_is)
    (case xco_BadNumber___init__ => k_is)
    (case xcd_BadNumber___init__ => k_is)
    (case rvs_BadNumber___init__ => first | rfl | decide +kernel)
    (case rfi_BadNumber___init__ => first | rfl | decide +kernel)
    (case xcc_BadNumber___init__ => k_is)
#print axioms PySem.Challenge.cw_resttricks_k29_whole_good_divisors_holds
